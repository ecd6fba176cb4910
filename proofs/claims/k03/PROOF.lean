import PyProof.Rows.All
import Flt.RightSqrt
import HandS.ClsMeth
import HandS.Defaults
import HandS.Dict
import HandS.EndTab
import HandS.Ends
import HandS.Exc
import HandS.ExcField
import HandS.ExcInit
import HandS.ExcIs
import HandS.ExcValue
import HandS.ForExc
import HandS.ForMost
import HandS.Gcd
import HandS.IsInst
import HandS.Iter
import HandS.Lambda
import HandS.ListItems
import HandS.More
import HandS.OwnEq
import HandS.Property
import HandS.SlotsOwn
import HandS.SortInts
import HandS.TryMany
import HandS.Walk
import HandS.Wide
import HandS.WideBits
import HandS.WordsExc
import KE.KCallOwn
import KE.KExcInit
import KE.KExcIs
import KE.KFmtOwn
import KE.KIsAll
import KE.KMathG
import KE.KMathGC
import KE.KNest
import OpenK.AllK
import PyProof.InstNe
import PyProof.InstStoreFacts
import PyProof.Rows.ChunkLeaf
import Wide.All
import Wide.FinOn
import PySem.Challenge.RW_lawseries_k03_errors_of_numbers_and_rati
set_option Elab.async false
set_option linter.all false
set_option maxRecDepth 100000
set_option maxHeartbeats 4000000
namespace Vx
open PySem PySem.W PySem.Calls PySem.Spec
/-- an own class whose maker is the built-in base B's, B anywhere in its order of bases -/
structure Mkr (B newId : String) (bm : List Value) : Prop where
  facts : ∃ i l, ExcBaseFacts B newId i l
  has : bm.contains (.type B) = true
  noA : bm.contains (.type "AttributeError") = false
  noN : bm.contains (.type "NameError") = false
section
variable {M : Model} {A : Around} {E : Value → Shared → Prop} {h : Heap} {g : Array GenState}
variable {d : Drawn} {t : Nat} {os : OsState} {prog : Program} {w : World} {R : Result → Shared → Prop}
variable {nm q : Str} {C N : Addr} {bs bm : List Value} {hdct : Bool} {sn : List Str} {sub : List Value} {ab : Bool} {col : Option Bool}
variable {dd : Option Addr} {k0 k1 k2 k3 k5 : Option Value} {B newId : String} {rest : List Value} {fI : Addr}
theorem cons_has {X : String} {b : Bool} (e : bm.contains (.type X) = b) :
    (Value.ref C :: bm).contains (.type X) = b := by
  rw [List.contains_cons, e]; cases b <;> rfl
theorem chk (m : Mkr B newId bm) {Q : Unit → Shared → Prop}
    (hC : h.get? C = some (excClassObj nm q C N bs bm hdct sn sub ab col dd k0 k1 k2 k3 k5 newId))
    (hq : Q () ⟨h, g, d, t, os⟩) :
    wpAny M A (checkBuiltinCall newId ⟨.ref C :: rest, []⟩) Q E ⟨h, g, d, t, os⟩ := by
  obtain ⟨i, l, F⟩ := m.facts
  have c1 := cons_has (C := C) m.has
  have c2 := F.noStar
  simp only [checkBuiltinCall, F.newKind, F.newSplit, F.newRow]
  repeat (first
    | refine wpAny_loadPart_at hC ?_
    | (refine wpAny_isSubtype_exc hC ?_; rw [c1])
    | refine wpAny_staticBase_exc hC ?_
    | refine wpAny_madeBy_exc hC ?_
    | simp only [bne_self_eq_false, Bool.false_eq_true, if_false]
    | wp_step)
  exact hq
theorem mkN (m : Mkr B newId bm) (hr : rest.length ≤ sizeLine)
    (hC : h.get? C = some (excClassObj nm q C N bs bm hdct sn sub ab col dd k0 k1 k2 k3 k5 newId))
    (hq : R (.ok (.ret (.ref (h.objs.size + 1))))
      ⟨(h.push (kdv_tup rest)).push (PX.excO C h.objs.size), g, d, t, os⟩) :
    codeAny (model prog w) A (.builtin newId ⟨.ref C :: rest, []⟩) R ⟨h, g, d, t, os⟩ := by
  obtain ⟨i, l, F⟩ := m.facts
  have e0 := F.ends
  have c1 := cons_has (C := C) m.has
  have c2 := cons_has (C := C) m.noA
  have c3 := cons_has (C := C) m.noN
  refine codeAny_builtinAt F.entry ?_
  unfold Builtin.«BaseException.__new__»
  refine wpAt_bind ?_
  show wpAt _ _ _ (stack >>= _) _ _ _
  refine wpAt_bind (wpAt_stack fun p below => wpAt_of_wpAny ?_)
  wp_walk
  refine wpAt_of_wpAny ?_
  rw [F.owner]
  repeat (first
    | with_reducible refine wpAny_madeHere_exc F.canon hC ?_
    | with_reducible refine wpAny_loadPart_at hC ?_
    | (with_reducible refine wpAny_isSubtype_exc hC ?_; first | rw [c1] | rw [c2] | rw [c3])
    | wp_step)
  show R _ _
  rw [Heap.size_push]
  exact hq
theorem tyCall (m : Mkr B newId bm) {Q : Fin → Shared → Prop} (hr : rest.length ≤ sizeLine)
    (hC : h.get? C = some (excClassObj nm q C N bs bm hdct sn sub ab col dd k0 k1 k2 k3 k5 newId))
    (hi : Looks (model prog w) h (typeLookup (.ref C) "__init__") (some (.ref fI)))
    (hb : ∀ self, Looks (model prog w) h (bindSpecial (.ref fI) self) (.ref fI, [self]))
    (hq : codeAny (model prog w) A (.call (.ref fI) ⟨.ref (h.objs.size + 1) :: rest, []⟩)
      (fun r s' => match r with
        | .ok (.ret v) => v = .none ∧ Q (.done (.ret (.ref (h.objs.size + 1)))) s'
        | .ok _ => False
        | .error e => E e s')
      ⟨(h.push (kdv_tup rest)).push (PX.excO C h.objs.size), g, d, t, os⟩) :
    wpAny (model prog w) A (Builtin.«type.__call__» ⟨.ref C :: rest, []⟩) Q E ⟨h, g, d, t, os⟩ := by
  obtain ⟨i, l, F⟩ := m.facts
  repeat (first
    | with_reducible refine wpAny_loadPart_at hC ?_
    | with_reducible refine wpAny_madeBy_exc hC ?_
    | wp_step)
  refine codeAny_call_builtin_code (Code.quiet_builtin _ F.quiet) (chk m hC ?_)
  refine mkN m hr hC ?_
  show wpAny _ _ _ _ _ _
  have kp : ∀ b o, h.get? b = some o → ((h.push (kdv_tup rest)).push (PX.excO C h.objs.size)).get? b = some o :=
    fun b o e => Heap.get?_push_of_some _ (Heap.get?_push_of_some _ e)
  have hC1 := kp _ _ hC
  have hg : ((h.push (kdv_tup rest)).push (PX.excO C h.objs.size)).get? (h.objs.size + 1) = some (PX.excO C h.objs.size) := by
    heap_get
  have cC : (Value.ref C :: bm).contains (.ref C) = true := by simp
  have i1 := hi.keeps kp
  have b1 := (hb (.ref (h.objs.size + 1))).keeps kp
  unfold isInstance
  repeat (first
    | with_reducible refine wpAny_loadPart_at hg ?_
    | (with_reducible refine wpAny_isSubtype_exc hC1 ?_; rw [cC])
    | wp_step)
  show wpAny _ _ (typeLookup (.ref C) _) _ _ _
  refine i1.at (wpAny_holding (wpAny_bind (b1.at ?_)))
  refine wpAny_bind (wpAny_call (codeAny_mono hq fun r s' z => ?_))
  rcases r with e | (v | _ | _ | _) <;> first | exact z | exact z.elim | skip
  obtain ⟨rfl, z⟩ := z
  first
    | exact wpAny_pure (wpAny_pure z)
    | (wp_walk; exact z)
theorem clsCall (m : Mkr B newId bm) (hr : rest.length ≤ sizeLine)
    (hC : h.get? C = some (excClassObj nm q C N bs bm hdct sn sub ab col dd k0 k1 k2 k3 k5 newId))
    (hi : Looks (model prog w) h (typeLookup (.ref C) "__init__") (some (.ref fI)))
    (hb : ∀ self, Looks (model prog w) h (bindSpecial (.ref fI) self) (.ref fI, [self]))
    (hq : codeAny (model prog w) (A.under (.builtin "type.__call__" ⟨.ref C :: rest, []⟩))
      (.call (.ref fI) ⟨.ref (h.objs.size + 1) :: rest, []⟩) (InitBack (h.objs.size + 1) R)
      ⟨(h.push (kdv_tup rest)).push (PX.excO C h.objs.size), g, d, t, os⟩) :
    codeAny (model prog w) A (.call (.ref C) ⟨rest, []⟩) R ⟨h, g, d, t, os⟩ := by
  have f1 := tc_lookup
  have f2 := tc_bind (.ref C)
  have hTy : (⟨h, g, d, t, os⟩ : Shared).TypeIs (.ref C) "type" := ⟨_, hC, rfl⟩
  refine codeAny_of_tree ?_
  show wpAny _ _ (callAny (.ref C) _) _ _ _
  repeat (any_goals (first
    | assumption
    | with_reducible refine wpAny_loadPart_at hC ?_
    | wp_step))
  refine ⟨rfl, codeAny_call_builtin_at (Code.quiet_builtin _ (by decide +kernel)) entry_typeCall ?_⟩
  refine wpAny_check_type_call_sub hC (tyCall m hr hC hi hb (codeAny_mono hq fun r s' z => ?_))
  rcases r with e | (v | _ | _ | _) <;> exact z
end
/-- of a built-in class: its attribute __setattr__ is object's -/
theorem store_KeyE : StoreFacts "KeyError"
    [.type "KeyError", .type "LookupError", .type "Exception", .type "BaseException", .type "object"]
    "object.__setattr__" "object" := by
  constructor
  case mro => kernel_rfl
  case slot =>
    exact .of (owner := "object") (n := "__setattr__")
      (by rw [typeLookup_type, builtinLookup_eq_fast]; kernel_rfl)
      (by decide +kernel) (by decide +kernel) (by decide +kernel)
      (by first | exact .inl (by decide +kernel) | exact .inr (by decide +kernel))
      (by rw [isSubtype_type]; kernel_rfl)
  case entry => exact F.store_IndexError.entry
  case kind => decide +kernel
  case split => decide +kernel
  case hasOwner => decide +kernel
  case args => exact F.store_IndexError.args
  case passes => intro _; kernel_rfl
end Vx

set_option Elab.async false
set_option linter.all false
set_option maxRecDepth 100000
set_option maxHeartbeats 4000000
namespace Vx
open PySem PySem.W PySem.Calls PyProof.Rows PySem.Spec Builtin Builtin.ObjectAttr
/-- what an __init__ that stores its one argument leaves of a fresh error at x -/
structure Left (h h' : Heap) (x C dx t1 : Addr) (f : Str) (v : Value) : Prop where
  keep : ∀ b o, b ≠ x → h.get? b = some o → h'.get? b = some o
  obj : h'.get? x = some { cls := .ref C, dict := some dx, data := .fields #[.ref t1, .none, .none, .none, .bool false, .none] }
  big : h.objs.size ≤ dx
  ne : dx ≠ x
  ns : h'.Ns1 dx (fun y => if y = f then some v else none)
/-- a store into an error that has no dict as yet, whatever its built-in base is -/
theorem osaN {prog : Program} {w : World} {A : Around} {R : Result → Shared → Prop} {hp : Heap} {g : Array GenState}
    {d : Drawn} {t : Nat} {os : OsState} {K : Frag} {name : Str} {tk : Tok} {v : Value} {x C t0 : Addr} {B : String} {bmB : List Value}
    (SF : StoreFacts B bmB "object.__setattr__" "object") (X : K.In hp) (hx : hp.get? x = some (PX.excO C t0))
    (ov : excOver K C bmB = true) (no : findIn K (.ref C) name = some none) (hh : hasDictIn K C = true)
    (hq : ∀ h' tk' dx, Left hp h' x C dx t0 name v → R (.ok (.ret .none)) ⟨h', g, d, tk', os⟩) :
    codeAny (model prog w) A (.call (.builtin "object.__setattr__") ⟨[.ref x, .str name tk, v], []⟩) R ⟨hp, g, d, t, os⟩ := by
  have tn : takerIn K C name = some none := by unfold takerIn; rw [no]; rfl
  have xs : x ≠ hp.objs.size := Nat.ne_of_lt (Heap.lt_size hx)
  refine osa_openX (s := ⟨hp, g, d, t, os⟩) (od := none) SF X ⟨hx, rfl, rfl, trivial⟩ ov tn fun b => ?_
  obtain ⟨cd, hc, hd⟩ := any_some hh
  refine wpAny_bind (wpAny_pure (wpAny_bind (instanceDict_exc (s := ⟨hp, g, d, t, os⟩) hx (looks_clsIn X hc) hd ?_)))
  show wpAny _ _ (storeInDict hp.objs.size (.str name tk) name v) _ _ _
  refine PX.store_in_new ?_ fun h' tk' hn hs => ?_
  · exact ⟨_, #[], _, (Heap.get?_update_ne _ _ _ _ xs.symm).trans (Heap.get?_push_at rfl rfl), rfl,
      fun e he => absurd he (by simp), fun _ => rfl⟩
  · have hx1 : (hp.push (dictOf [] 0)).get? x = some (PX.excO C t0) := Heap.get?_push_of_some _ hx
    refine hq h' tk' hp.objs.size ⟨fun b o hb ho => ?_, ?_, Nat.le_refl _, xs.symm, hn⟩
    · exact (hs.2 b (Nat.ne_of_lt (Heap.lt_size ho))).trans
        ((Heap.get?_update_ne _ _ _ _ hb).trans (Heap.get?_push_of_some _ ho))
    · exact (hs.2 x xs).trans (Heap.get?_update_self _ hx1 rfl)
theorem ldL {M : Model} {s : Shared} {name : Str} {scope : Scope} {L a : Addr} {cd : Value} {m : Str → Option Value} {x : Str} {pos : Pos}
    {v : Value} {Q : Value → Shared → Prop} {A : Around} {E : Value → Shared → Prop} (hn : s.heap.Ns L m) (hv : m x = some v) (h : Q v s)
    (hk : scope.kind = .function := by rfl) (hl : (envOfC name scope L a cd).kindOf x = some .local := by rfl)
    (hd : (x == ("__debug__" : Str)) = false := by decide) :
    wpAny M A (eval (.Name x pos) (envOfC name scope L a cd)) Q E s :=
  wpAny_Name (wpAny_loadName_local hk hl hn hv h) hd
/-- the __init__ at fI stores its argument as f -/
def InitOk (K : Frag) (C fI : Addr) (f : Str) : Prop :=
  ∀ (prog : Program) (w : World) (A : Around) (R : Result → Shared → Prop) (s : Shared) (x t0 : Addr) (v : Value),
    K.In s.heap → s.heap.NoLimit → s.heap.get? x = some (PX.excO C t0) → A.depth < recursionLimit →
    (∀ h' tk dx, Left s.heap h' x C dx t0 f v → R (.ok (.ret .none)) { s with heap := h', toks := tk }) →
    codeAny (model prog w) A (.call (.ref fI) ⟨[.ref x, v], []⟩) R s
/-- what the written part says of an error class whose own __init__ stores one field -/
structure ECls (K : Frag) (mg : Str → Option Value) (cn f : Str) (B newId : String) (bmB : List Value) (C fI : Addr) : Prop where
  gC : mg cn = some (.ref C)
  cls : ∃ nm q N bs bm sn sub ab col dd k0 k1 k2 k3 k5,
    K.lookup C = some (excClassObj nm q C N bs bm true sn sub ab col dd k0 k1 k2 k3 k5 newId) ∧ excTail bmB bm = true
  base : ∃ i l, ExcBaseFacts B newId i l
  hB : bmB.contains (.type B) = true ∧ bmB.contains (.type "AttributeError") = false ∧ bmB.contains (.type "NameError") = false
  ga : findIn K (.ref C) "__getattribute__" = some (some (.builtin "BaseException.__getattribute__"))
  gg : findIn K (.ref C) "__getattr__" = some none
  no : findIn K (.ref C) f = some none
  iC : findIn K (.ref C) "__init__" = some (some (.ref fI))
  tI : typeIn K (.ref fI) = some (.type "function")
  kC : keepIn K (.ref C) = true
  exC : subIn K (.ref C) (.type "BaseException") = some true
  tyC : typeIn K (.ref C) = some (.type "type")
  hd : hasDictIn K C = true
  init : InitOk K C fI f
theorem over_of {K : Frag} {C : Addr} {nm q N bs bm sn sub ab col dd k0 k1 k2 k3 k5 newId bmB}
    (e : K.lookup C = some (excClassObj nm q C N bs bm true sn sub ab col dd k0 k1 k2 k3 k5 newId)) (t : excTail bmB bm = true) :
    excOver K C bmB = true := by
  have c : clsIn K C = some { name := nm, bases := bs, mro := .ref C :: bm, ns := N, qualname := q, hasDict := true, slotNames := sn, subclasses := sub, abstract := ab, collection := col, hasDel := false } := by
    unfold clsIn; rw [e] <;> rfl
  unfold excOver
  rw [c]
  show (C == C && excTail bmB bm) = true
  rw [t, beq_self_eq_true, Bool.and_true]
def iArgs (f : Str) (p1 p2 : Pos) : Arguments :=
  { posonlyargs := [], args := [{ arg := "self", annotation := none, pos := p1 }, { arg := f, annotation := none, pos := p2 }],
    vararg := none, kwonlyargs := [], kw_defaults := [], kwarg := none, defaults := [] }
def iBody (f : Str) (q1 q2 q3 q4 : Pos) : List Stmt := [.Assign [.Attribute (.Name "self" q1) f q2] (.Name f q3) q4]
def iScope (f : Str) : Scope :=
  { kind := .function, names := [(PySem.Str.ofString "self", .local), (f, .local)], isGenerator := false, isCoroutine := false, more := [] }
theorem init_value {K : Frag} {C fI : Addr} {B : String} {bmB : List Value} {qn : Str} (SF : StoreFacts B bmB "object.__setattr__" "object")
    (ov : excOver K C bmB = true) (no : findIn K (.ref C) "value" = some none) (hh : hasDictIn K C = true)
    (sa : findIn K (.ref C) "__setattr__" = some (some (.builtin "object.__setattr__")))
    {oc doc pm cdv ct kV : Value} {od an : Option Addr} {osl : Array (Option Value)} {p1 p2 q1 q2 q3 q4 : Pos}
    (ho : K.lookup fI = some ⟨oc, od, .func (fnOf "__init__" qn (iArgs "value" p1 p2) (iBody "value" q1 q2 q3 q4) (iScope "value") .none kV doc pm an cdv ct), osl⟩)
    (hc : codeIn K cdv qn = true) : InitOk K C fI "value" := by
  intro prog w A R s x t0 v X lim hx room hq
  refine Att.call_fn (binds := [("self", .ref x), ("value", v)]) X lim ho hc room (BindsTo.of_eq (by first | rfl | with_unfolding_all rfl)) (by first | rfl | decide | with_unfolding_all rfl) (fun s1 IC => ?_) rfl rfl rfl
  obtain ⟨h1, tk1, rfl⟩ := IC.toInCall.same
  have k : ∀ b o, s.heap.get? b = some o → h1.get? b = some o := IC.toInCall.keep
  have hn := IC.toInCall.ns
  have X1 : K.In h1 := X.keeps k
  have hx1 := k _ _ hx
  show wpAny _ _ (execs _ _) _ _ _
  refine wpAny_execs_cons (plainObj_wpAny_Assign_Attribute ?_)
  refine ldL (v := v) hn (by first | rfl | with_unfolding_all rfl | kernel_rfl) (ldL (v := .ref x) hn (by first | rfl | with_unfolding_all rfl | kernel_rfl) ?_)
  refine set_plain X1 (ox := PX.excO C t0) (od := none) ⟨hx1, rfl, rfl, trivial⟩ sa ?_
  refine osaN SF X1 hx1 ov no hh fun h3 tk3 dx Z => ?_
  show wpAny _ _ (execs _ _) _ _ _
  have z : s.heap.objs.size < h1.objs.size := hn.lt
  exact wpAny_execs_nil (hq h3 tk3 dx ⟨fun b o hb e => Z.keep b o hb (k b o e), Z.obj, Nat.le_of_lt (Nat.lt_of_lt_of_le z Z.big), Z.ne, Z.ns⟩)
theorem init_spot {K : Frag} {C fI : Addr} {B : String} {bmB : List Value} {qn : Str} (SF : StoreFacts B bmB "object.__setattr__" "object")
    (ov : excOver K C bmB = true) (no : findIn K (.ref C) "spot" = some none) (hh : hasDictIn K C = true)
    (sa : findIn K (.ref C) "__setattr__" = some (some (.builtin "object.__setattr__")))
    {oc doc pm cdv ct kV : Value} {od an : Option Addr} {osl : Array (Option Value)} {p1 p2 q1 q2 q3 q4 : Pos}
    (ho : K.lookup fI = some ⟨oc, od, .func (fnOf "__init__" qn (iArgs "spot" p1 p2) (iBody "spot" q1 q2 q3 q4) (iScope "spot") .none kV doc pm an cdv ct), osl⟩)
    (hc : codeIn K cdv qn = true) : InitOk K C fI "spot" := by
  intro prog w A R s x t0 v X lim hx room hq
  refine Att.call_fn (binds := [("self", .ref x), ("spot", v)]) X lim ho hc room (BindsTo.of_eq (by first | rfl | with_unfolding_all rfl)) (by first | rfl | decide | with_unfolding_all rfl) (fun s1 IC => ?_) rfl rfl rfl
  obtain ⟨h1, tk1, rfl⟩ := IC.toInCall.same
  have k : ∀ b o, s.heap.get? b = some o → h1.get? b = some o := IC.toInCall.keep
  have hn := IC.toInCall.ns
  have X1 : K.In h1 := X.keeps k
  have hx1 := k _ _ hx
  show wpAny _ _ (execs _ _) _ _ _
  refine wpAny_execs_cons (plainObj_wpAny_Assign_Attribute ?_)
  refine ldL (v := v) hn (by first | rfl | with_unfolding_all rfl | kernel_rfl) (ldL (v := .ref x) hn (by first | rfl | with_unfolding_all rfl | kernel_rfl) ?_)
  refine set_plain X1 (ox := PX.excO C t0) (od := none) ⟨hx1, rfl, rfl, trivial⟩ sa ?_
  refine osaN SF X1 hx1 ov no hh fun h3 tk3 dx Z => ?_
  show wpAny _ _ (execs _ _) _ _ _
  have z : s.heap.objs.size < h1.objs.size := hn.lt
  exact wpAny_execs_nil (hq h3 tk3 dx ⟨fun b o hb e => Z.keep b o hb (k b o e), Z.obj, Nat.le_of_lt (Nat.lt_of_lt_of_le z Z.big), Z.ne, Z.ns⟩)
theorem init_name {K : Frag} {C fI : Addr} {B : String} {bmB : List Value} {qn : Str} (SF : StoreFacts B bmB "object.__setattr__" "object")
    (ov : excOver K C bmB = true) (no : findIn K (.ref C) "name" = some none) (hh : hasDictIn K C = true)
    (sa : findIn K (.ref C) "__setattr__" = some (some (.builtin "object.__setattr__")))
    {oc doc pm cdv ct kV : Value} {od an : Option Addr} {osl : Array (Option Value)} {p1 p2 q1 q2 q3 q4 : Pos}
    (ho : K.lookup fI = some ⟨oc, od, .func (fnOf "__init__" qn (iArgs "name" p1 p2) (iBody "name" q1 q2 q3 q4) (iScope "name") .none kV doc pm an cdv ct), osl⟩)
    (hc : codeIn K cdv qn = true) : InitOk K C fI "name" := by
  intro prog w A R s x t0 v X lim hx room hq
  refine Att.call_fn (binds := [("self", .ref x), ("name", v)]) X lim ho hc room (BindsTo.of_eq (by first | rfl | with_unfolding_all rfl)) (by first | rfl | decide | with_unfolding_all rfl) (fun s1 IC => ?_) rfl rfl rfl
  obtain ⟨h1, tk1, rfl⟩ := IC.toInCall.same
  have k : ∀ b o, s.heap.get? b = some o → h1.get? b = some o := IC.toInCall.keep
  have hn := IC.toInCall.ns
  have X1 : K.In h1 := X.keeps k
  have hx1 := k _ _ hx
  show wpAny _ _ (execs _ _) _ _ _
  refine wpAny_execs_cons (plainObj_wpAny_Assign_Attribute ?_)
  refine ldL (v := v) hn (by first | rfl | with_unfolding_all rfl | kernel_rfl) (ldL (v := .ref x) hn (by first | rfl | with_unfolding_all rfl | kernel_rfl) ?_)
  refine set_plain X1 (ox := PX.excO C t0) (od := none) ⟨hx1, rfl, rfl, trivial⟩ sa ?_
  refine osaN SF X1 hx1 ov no hh fun h3 tk3 dx Z => ?_
  show wpAny _ _ (execs _ _) _ _ _
  have z : s.heap.objs.size < h1.objs.size := hn.lt
  exact wpAny_execs_nil (hq h3 tk3 dx ⟨fun b o hb e => Z.keep b o hb (k b o e), Z.obj, Nat.le_of_lt (Nat.lt_of_lt_of_le z Z.big), Z.ne, Z.ns⟩)
theorem init_wanted {K : Frag} {C fI : Addr} {B : String} {bmB : List Value} {qn : Str} (SF : StoreFacts B bmB "object.__setattr__" "object")
    (ov : excOver K C bmB = true) (no : findIn K (.ref C) "wanted" = some none) (hh : hasDictIn K C = true)
    (sa : findIn K (.ref C) "__setattr__" = some (some (.builtin "object.__setattr__")))
    {oc doc pm cdv ct kV : Value} {od an : Option Addr} {osl : Array (Option Value)} {p1 p2 q1 q2 q3 q4 : Pos}
    (ho : K.lookup fI = some ⟨oc, od, .func (fnOf "__init__" qn (iArgs "wanted" p1 p2) (iBody "wanted" q1 q2 q3 q4) (iScope "wanted") .none kV doc pm an cdv ct), osl⟩)
    (hc : codeIn K cdv qn = true) : InitOk K C fI "wanted" := by
  intro prog w A R s x t0 v X lim hx room hq
  refine Att.call_fn (binds := [("self", .ref x), ("wanted", v)]) X lim ho hc room (BindsTo.of_eq (by first | rfl | with_unfolding_all rfl)) (by first | rfl | decide | with_unfolding_all rfl) (fun s1 IC => ?_) rfl rfl rfl
  obtain ⟨h1, tk1, rfl⟩ := IC.toInCall.same
  have k : ∀ b o, s.heap.get? b = some o → h1.get? b = some o := IC.toInCall.keep
  have hn := IC.toInCall.ns
  have X1 : K.In h1 := X.keeps k
  have hx1 := k _ _ hx
  show wpAny _ _ (execs _ _) _ _ _
  refine wpAny_execs_cons (plainObj_wpAny_Assign_Attribute ?_)
  refine ldL (v := v) hn (by first | rfl | with_unfolding_all rfl | kernel_rfl) (ldL (v := .ref x) hn (by first | rfl | with_unfolding_all rfl | kernel_rfl) ?_)
  refine set_plain X1 (ox := PX.excO C t0) (od := none) ⟨hx1, rfl, rfl, trivial⟩ sa ?_
  refine osaN SF X1 hx1 ov no hh fun h3 tk3 dx Z => ?_
  show wpAny _ _ (execs _ _) _ _ _
  have z : s.heap.objs.size < h1.objs.size := hn.lt
  exact wpAny_execs_nil (hq h3 tk3 dx ⟨fun b o hb e => Z.keep b o hb (k b o e), Z.obj, Nat.le_of_lt (Nat.lt_of_lt_of_le z Z.big), Z.ne, Z.ns⟩)
theorem init_limit {K : Frag} {C fI : Addr} {B : String} {bmB : List Value} {qn : Str} (SF : StoreFacts B bmB "object.__setattr__" "object")
    (ov : excOver K C bmB = true) (no : findIn K (.ref C) "limit" = some none) (hh : hasDictIn K C = true)
    (sa : findIn K (.ref C) "__setattr__" = some (some (.builtin "object.__setattr__")))
    {oc doc pm cdv ct kV : Value} {od an : Option Addr} {osl : Array (Option Value)} {p1 p2 q1 q2 q3 q4 : Pos}
    (ho : K.lookup fI = some ⟨oc, od, .func (fnOf "__init__" qn (iArgs "limit" p1 p2) (iBody "limit" q1 q2 q3 q4) (iScope "limit") .none kV doc pm an cdv ct), osl⟩)
    (hc : codeIn K cdv qn = true) : InitOk K C fI "limit" := by
  intro prog w A R s x t0 v X lim hx room hq
  refine Att.call_fn (binds := [("self", .ref x), ("limit", v)]) X lim ho hc room (BindsTo.of_eq (by first | rfl | with_unfolding_all rfl)) (by first | rfl | decide | with_unfolding_all rfl) (fun s1 IC => ?_) rfl rfl rfl
  obtain ⟨h1, tk1, rfl⟩ := IC.toInCall.same
  have k : ∀ b o, s.heap.get? b = some o → h1.get? b = some o := IC.toInCall.keep
  have hn := IC.toInCall.ns
  have X1 : K.In h1 := X.keeps k
  have hx1 := k _ _ hx
  show wpAny _ _ (execs _ _) _ _ _
  refine wpAny_execs_cons (plainObj_wpAny_Assign_Attribute ?_)
  refine ldL (v := v) hn (by first | rfl | with_unfolding_all rfl | kernel_rfl) (ldL (v := .ref x) hn (by first | rfl | with_unfolding_all rfl | kernel_rfl) ?_)
  refine set_plain X1 (ox := PX.excO C t0) (od := none) ⟨hx1, rfl, rfl, trivial⟩ sa ?_
  refine osaN SF X1 hx1 ov no hh fun h3 tk3 dx Z => ?_
  show wpAny _ _ (execs _ _) _ _ _
  have z : s.heap.objs.size < h1.objs.size := hn.lt
  exact wpAny_execs_nil (hq h3 tk3 dx ⟨fun b o hb e => Z.keep b o hb (k b o e), Z.obj, Nat.le_of_lt (Nat.lt_of_lt_of_le z Z.big), Z.ne, Z.ns⟩)
theorem init_reason {K : Frag} {C fI : Addr} {B : String} {bmB : List Value} {qn : Str} (SF : StoreFacts B bmB "object.__setattr__" "object")
    (ov : excOver K C bmB = true) (no : findIn K (.ref C) "reason" = some none) (hh : hasDictIn K C = true)
    (sa : findIn K (.ref C) "__setattr__" = some (some (.builtin "object.__setattr__")))
    {oc doc pm cdv ct kV : Value} {od an : Option Addr} {osl : Array (Option Value)} {p1 p2 q1 q2 q3 q4 : Pos}
    (ho : K.lookup fI = some ⟨oc, od, .func (fnOf "__init__" qn (iArgs "reason" p1 p2) (iBody "reason" q1 q2 q3 q4) (iScope "reason") .none kV doc pm an cdv ct), osl⟩)
    (hc : codeIn K cdv qn = true) : InitOk K C fI "reason" := by
  intro prog w A R s x t0 v X lim hx room hq
  refine Att.call_fn (binds := [("self", .ref x), ("reason", v)]) X lim ho hc room (BindsTo.of_eq (by first | rfl | with_unfolding_all rfl)) (by first | rfl | decide | with_unfolding_all rfl) (fun s1 IC => ?_) rfl rfl rfl
  obtain ⟨h1, tk1, rfl⟩ := IC.toInCall.same
  have k : ∀ b o, s.heap.get? b = some o → h1.get? b = some o := IC.toInCall.keep
  have hn := IC.toInCall.ns
  have X1 : K.In h1 := X.keeps k
  have hx1 := k _ _ hx
  show wpAny _ _ (execs _ _) _ _ _
  refine wpAny_execs_cons (plainObj_wpAny_Assign_Attribute ?_)
  refine ldL (v := v) hn (by first | rfl | with_unfolding_all rfl | kernel_rfl) (ldL (v := .ref x) hn (by first | rfl | with_unfolding_all rfl | kernel_rfl) ?_)
  refine set_plain X1 (ox := PX.excO C t0) (od := none) ⟨hx1, rfl, rfl, trivial⟩ sa ?_
  refine osaN SF X1 hx1 ov no hh fun h3 tk3 dx Z => ?_
  show wpAny _ _ (execs _ _) _ _ _
  have z : s.heap.objs.size < h1.objs.size := hn.lt
  exact wpAny_execs_nil (hq h3 tk3 dx ⟨fun b o hb e => Z.keep b o hb (k b o e), Z.obj, Nat.le_of_lt (Nat.lt_of_lt_of_le z Z.big), Z.ne, Z.ns⟩)
/-- a made error -/
structure Made (h h' : Heap) (e C d : Addr) (f : Str) (v : Value) : Prop where
  keep : ∀ b o, h.get? b = some o → h'.get? b = some o
  new : h.objs.size ≤ e
  obj : ∃ t1 : Addr, h'.get? e = some { cls := .ref C, dict := some d, data := .fields #[.ref t1, .none, .none, .none, .bool false, .none] }
  big : h.objs.size ≤ d
  ne : d ≠ e
  ns : h'.Ns1 d (fun y => if y = f then some v else none)
theorem one_fits (v : Value) : [v].length ≤ sizeLine := by
  rw [sizeLine_eq]; exact (by decide : 1 ≤ 16777216)
section
variable {prog : Program} {w : World} {A : Around} {R : Result → Shared → Prop} {s : Shared} {K : Frag} {mg : Str → Option Value}
variable {cn f : Str} {B newId : String} {bmB : List Value} {C fI : Addr}
theorem made (T : ECls K mg cn f B newId bmB C fI) {v : Value} (X : K.In s.heap) (lim : s.heap.NoLimit) (room : A.depth + 1 < recursionLimit)
    (hq : ∀ h' tk e d, Made s.heap h' e C d f v → R (.ok (.ret (.ref e))) { s with heap := h', toks := tk }) :
    codeAny (model prog w) A (.call (.ref C) ⟨[v], []⟩) R s := by
  obtain ⟨nm, q, N, bs, bm, sn, sub, ab, col, dd, k0, k1, k2, k3, k5, hC, hbm⟩ := T.cls
  have m : Mkr B newId bm := ⟨T.base, (excTail_contains _ bm hbm).trans T.hB.1, (excTail_contains _ bm hbm).trans T.hB.2.1, (excTail_contains _ bm hbm).trans T.hB.2.2⟩
  obtain ⟨hp, g, dr, tk, os⟩ := s
  have k : ∀ b o, hp.get? b = some o → ((hp.push (kdv_tup [v])).push (PX.excO C hp.objs.size)).get? b = some o :=
    fun b o e => Heap.get?_push_of_some _ (Heap.get?_push_of_some _ e)
  have hg : ((hp.push (kdv_tup [v])).push (PX.excO C hp.objs.size)).get? (hp.objs.size + 1) = some (PX.excO C hp.objs.size) := by
    heap_get
  refine clsCall m (one_fits v) (X _ _ hC) (looks_findIn X T.iC) (fun self => bind_fn X self T.tI) ?_
  refine T.init prog w _ _ ⟨(hp.push (kdv_tup [v])).push (PX.excO C hp.objs.size), g, dr, tk, os⟩ _ _ v (X.keeps k) (lim.keeps k) hg ?_ fun h' tk' dx Z => ?_
  · show A.depth + 1 < recursionLimit
    exact room
  · have old : ∀ b o, hp.get? b = some o → h'.get? b = some o := fun b o e =>
      Z.keep b o (Nat.ne_of_lt (Nat.lt_succ_of_lt (Heap.lt_size e))) (k b o e)
    have z : hp.objs.size + 1 + 1 ≤ dx := by
      have q := Z.big
      first
        | exact q
        | (simpa only [Heap.size_push] using q)
    exact ⟨rfl, hq h' tk' (hp.objs.size + 1) dx ⟨old, Nat.le_succ _, ⟨_, Z.obj⟩, Nat.le_trans (Nat.le_trans (Nat.le_succ _) (Nat.le_succ _)) z, Z.ne, Z.ns⟩⟩
end
end Vx

set_option Elab.async false
set_option linter.all false
set_option maxRecDepth 100000
set_option maxHeartbeats 4000000
namespace Vx
open PySem PySem.Spec PyProof.Rows L2
/-- at a: an error of the class at C, its own dict at d, held as a value -/
def ErrD (C d a : Addr) : HO := .ext fun h => ∃ t1 : Addr,
  h.get? a = some ({ cls := .ref C, dict := some d, data := .fields #[.ref t1, .none, .none, .none, .bool false, .none] } : Obj)
theorem errD_ok {P : Program} {w : World} {H : Hp} {h : Heap} {C d a t1 : Addr}
    (e : h.get? a = some ({ cls := .ref C, dict := some d, data := .fields #[.ref t1, .none, .none, .none, .bool false, .none] } : Obj)) :
    ObjOk P w H h a (ErrD C d a) :=
  ⟨⟨t1, e⟩, ⟨_, e⟩, fun _ _ ⟨t, q⟩ k => ⟨t, k _ q⟩⟩
theorem errD_at {P : Program} {w : World} {H : Hp} {h : Heap} {C d a : Addr} (hok : HOk P w H h) (he : H a = some (ErrD C d a)) :
    ∃ t1 : Addr, h.get? a = some ({ cls := .ref C, dict := some d, data := .fields #[.ref t1, .none, .none, .none, .bool false, .none] } : Obj) := by
  have x : ObjOk P w H h a (.ext fun h => ∃ t1 : Addr, h.get? a = some ({ cls := .ref C, dict := some d, data := .fields #[.ref t1, .none, .none, .none, .bool false, .none] } : Obj)) := hok a _ he
  exact x.1
theorem rel_one {f : Str} {y : V} {u : Value} (r : RelV y u) (g : Str) :
    RelO ([(f, y)].lookup g) (if g = f then some u else none) :=
  relO_put (fs := []) (mA := fun _ => none) r (fun _ => True.intro) g
section
variable {X : Cx} {cn f : Str} {B newId : String} {bmB : List Value} {C fI : Addr}
/-- C(e), held as a value -/
def tMkV (C : Addr) (f : Str) (te : TE) : TE := fun σ H Q => te σ H fun v H1 =>
  ∀ a d : Addr, H1 a = none → H1 d = none → d ≠ a → Q (.ref a) (upd (upd H1 d (.xd [(f, v)])) a (ErrD C d a))
theorem pe_mkV {e : Expr} {te : TE} {p pos : Pos} {k : Nat} (T : ECls X.K X.mg cn f B newId bmB C fI) (hr : Room k X.A)
    (he : PE X e te) (hg : Gl X cn := by rfl) (hdb : (cn == ("__debug__" : Str)) = false := by decide)
    (hs : starEach [e] X.env = (false, eval e X.env) :: starEach [] X.env := by rfl) :
    PE X (.Call (.Name cn p) [e] [] pos) (tMkV C f te) := by
  refine ⟨fun pins s σ H Q I h => ?_⟩
  refine wpAny_Call_Name_kw (ld_glob I hg T.gC ?_ hdb)
  refine PySem.W.callWith_K (h₀ := X.base) I.ok.mod.kin T.kC ?_ hs (by rfl)
  rw [hs]
  show wpAny _ _ (spliced ((false, eval e X.env) :: backTo pos (starEach [] X.env))) _ _ s
  refine Calls.spliced_cons (thn (he.run pins s σ H _ I h) fun u s1 ⟨v, H1, I1, rv, q1⟩ => ?_)
  refine Calls.spliced_nil ⟨I1.kIn, ?_⟩
  show wpAny _ _ (call (.ref C) [u]) _ _ _
  have lim := I1.nolimit
  obtain ⟨hp, g, dr, tk, os⟩ := s1
  refine wpAny_call (made T I1.kIn lim (by have := hr.dp; omega) fun h' tk' e d M => ?_)
  obtain ⟨t1, ho⟩ := M.obj
  obtain ⟨G, g1, g2⟩ := restrict h' fun b => decide (b ≠ e)
  have gk : ∀ b, b ≠ e → G.get? b = h'.get? b := fun b hb => g1 b (decide_eq_true hb)
  have ge : G.get? e = none := g2 e (by simp)
  have old : ∀ b o, hp.get? b = some o → G.get? b = some o := fun b o q =>
    (gk b (Nat.ne_of_lt (Nat.lt_of_lt_of_le (Heap.lt_size q) M.new))).trans (M.keep b o q)
  have up : ∀ b o, G.get? b = some o → h'.get? b = some o := fun b o q => by
    by_cases hb : b = e
    · rw [hb, ge] at q; cases q
    · exact (gk b hb).symm.trans q
  have ob : ObjOk X.prog X.w (upd H1 d (.xd [(f, v)])) G d (.xd [(f, v)]) :=
    ⟨_, M.ns.at (fun o q => (gk d M.ne).trans q), rel_one rv⟩
  have J : Inv X pins σ (upd H1 d (.xd [(f, v)])) ⟨G, g, dr, tk', os⟩ := I1.laid (t' := tk') old M.big ob
  have ne : H1 e = none := I1.hok.fresh M.new
  have nd : H1 d = none := I1.hok.fresh M.big
  have nu : upd H1 d (.xd [(f, v)]) e = none := by rw [upd_ne (Ne.symm M.ne)]; exact ne
  exact ⟨.ref e, _, J.laidN (t' := tk') up ge nu (errD_ok ho), rfl, q1 e d ne nd M.ne⟩
/-- raise C(e) -/
def tMkE (C : Addr) (f : Str) (te : TE) : L2.St → Hp → XK → Prop := fun σ H Q => te σ H fun v H1 =>
  ∀ d : Addr, H1 d = none → Q (.ref C) (some d) (upd H1 d (.xd [(f, v)]))
theorem pmk_E {e : Expr} {te : TE} {p pos : Pos} {k : Nat} (T : ECls X.K X.mg cn f B newId bmB C fI) (hr : Room k X.A)
    (he : PE X e te) (hg : Gl X cn := by rfl) (hdb : (cn == ("__debug__" : Str)) = false := by decide)
    (hs : starEach [e] X.env = (false, eval e X.env) :: starEach [] X.env := by rfl) :
    PMk X (.Call (.Name cn p) [e] [] pos) (tMkE C f te) := by
  intro pins s σ H Q I h
  refine wpAny_Call_Name_kw (ld_glob I hg T.gC ?_ hdb)
  refine PySem.W.callWith_K (h₀ := X.base) I.ok.mod.kin T.kC ?_ hs (by rfl)
  rw [hs]
  show wpAny _ _ (spliced ((false, eval e X.env) :: backTo pos (starEach [] X.env))) _ _ s
  refine Calls.spliced_cons (thn (he.run pins s σ H _ I h) fun u s1 ⟨v, H1, I1, rv, q1⟩ => ?_)
  refine Calls.spliced_nil ⟨I1.kIn, ?_⟩
  show wpAny _ _ (call (.ref C) [u]) _ _ _
  have lim := I1.nolimit
  obtain ⟨hp, g, dr, tk, os⟩ := s1
  refine wpAny_call (made T I1.kIn lim (by have := hr.dp; omega) fun h' tk' e d M => ?_)
  show MkP X pins σ Q (.ref e) ⟨h', g, dr, tk', os⟩
  obtain ⟨t1, ho⟩ := M.obj
  obtain ⟨G, g1, g2⟩ := restrict h' fun b => decide (b ≠ e)
  have gk : ∀ b, b ≠ e → G.get? b = h'.get? b := fun b hb => g1 b (decide_eq_true hb)
  have ge : G.get? e = none := g2 e (by simp)
  have old : ∀ b o, hp.get? b = some o → G.get? b = some o := fun b o q =>
    (gk b (Nat.ne_of_lt (Nat.lt_of_lt_of_le (Heap.lt_size q) M.new))).trans (M.keep b o q)
  have up : ∀ b o, G.get? b = some o → h'.get? b = some o := fun b o q => by
    by_cases hb : b = e
    · rw [hb, ge] at q; cases q
    · exact (gk b hb).symm.trans q
  have ob : ObjOk X.prog X.w (upd H1 d (.xd [(f, v)])) G d (.xd [(f, v)]) :=
    ⟨_, M.ns.at (fun o q => (gk d M.ne).trans q), rel_one rv⟩
  have J : Inv X pins σ (upd H1 d (.xd [(f, v)])) ⟨G, g, dr, tk', os⟩ := I1.laid (t' := tk') old M.big ob
  have nu : upd H1 d (.xd [(f, v)]) e = none := by rw [upd_ne (Ne.symm M.ne)]; exact I1.hok.fresh M.new
  exact ⟨e, _, _, ⟨G, g, dr, tk', os⟩, _, .ref C, some d, rfl, J, up, ge, ho, ⟨rfl, rfl⟩, rfl, rfl, nu, rfl, I1.bare,
    raises_own T.exC T.tyC, q1 d (I1.hok.fresh M.big)⟩
def tRaiseE (C : Addr) (f : Str) (W : WX) (te : TE) : TS := fun _ σ H => tMkE C f te σ H fun cls d H' => W cls d σ H'
theorem ps_raiseE {e : Expr} {te : TE} {W : WX} {p pos pos2 : Pos} {k : Nat} (hc : X.calm = true)
    (T : ECls X.K X.mg cn f B newId bmB C fI) (hr : Room k X.A) (tk : Takes X W) (he : PE X e te) (hg : Gl X cn := by rfl)
    (hdb : (cn == ("__debug__" : Str)) = false := by decide)
    (hs : starEach [e] X.env = (false, eval e X.env) :: starEach [] X.env := by rfl) :
    PS X (.Raise (some (.Call (.Name cn p) [e] [] pos)) none pos2) (tRaiseE C f W te) :=
  ps_raise hc tk (pmk_E T hr he hg hdb hs)
/-- a.f, a an error held as a value -/
def tGetE (C : Addr) (f : Str) (te : TE) : TE := fun σ H Q => te σ H fun x H1 =>
  ∃ (a d : Addr) (v : V), x = .ref a ∧ H1 a = some (ErrD C d a) ∧ H1 d = some (.xd [(f, v)]) ∧ Q v H1
theorem pe_getE {e : Expr} {te : TE} {pos : Pos} (T : ECls X.K X.mg cn f B newId bmB C fI) (he : PE X e te)
    (hb : attributeBase e f X.env (eval e X.env) = eval e X.env := by rfl) : PE X (.Attribute e f pos) (tGetE C f te) := by
  refine ⟨fun pins s σ H Q I h => ?_⟩
  refine attr_of hb (thn (he.run pins s σ H _ I h) fun u s1 hh => ?_)
  obtain ⟨x, H1, I1, rx, a, d, v, ex, ea, ed, q⟩ := hh
  subst ex
  obtain rfl : u = Value.ref a := rx
  obtain ⟨t1, ho⟩ := errD_at I1.hok ea
  have hx : ObjOk X.prog X.w H1 s1.heap d (.xd [(f, v)]) := I1.hok d _ ed
  obtain ⟨mA, hns, hr⟩ := hx
  obtain ⟨od, hd, hl⟩ := lookIn_ns hns
  have l : List.lookup f [(f, v)] = some v := by simp [List.lookup]
  obtain ⟨u, hu, ru⟩ := RelO.some_of (v := v) (o := mA f) (by rw [← l]; exact hr f)
  have J : PySem.W.InstAt s1.heap a _ C (some od) := ⟨ho, rfl, rfl, hd⟩
  exact HandSPX.exc_get I1.kIn J T.ga T.gg T.exC (PySem.W.findObj_own T.hd T.no rfl (by rw [hl, hu])) (handed_of ru)
    ⟨v, H1, I1.tok _, ru, q⟩
/-- an error held as a value: without a dict, or with one that stands -/
def IsE (H : Hp) (a C : Addr) : Prop :=
  H a = some (ExO (.ref C) a) ∨ ∃ d fs, H a = some (ErrD C d a) ∧ H d = some (.xd fs)
/-- isinstance(a, c) -/
def rIsV (K : PySem.W.Frag) : List V → Hp → VK → Prop := fun xs H Q =>
  ∃ (a C : Addr) (c : V) (cv : Value) (b : Bool), xs = [.ref a, c] ∧ IsE H a C ∧ ExcC K C ∧ (∀ u, RelV c u → u = cv) ∧
    PySem.W.kitOne K (.ref C) cv = some b ∧ Q (.bl b) H
theorem inst_of {pins : List (Addr × Obj)} {σ : L2.St} {H : Hp} {s : Shared} {a C : Addr} (I : Inv X pins σ H s) (e : IsE H a C) :
    ∃ ox od, PySem.W.InstAt s.heap a ox C od := by
  rcases e with e | ⟨d, fs, e, ed⟩
  · have x : ObjOk X.prog X.w H s.heap a (ExO (.ref C) a) := I.hok a _ e
    obtain ⟨⟨oe, vs, ho, ⟨z1, z2⟩, hd, _⟩, _⟩ := x
    obtain ⟨oc, od, oda, osl⟩ := oe
    dsimp only at z1 z2 hd
    subst z1 z2 hd
    exact ⟨_, none, ho, rfl, rfl, trivial⟩
  · obtain ⟨t1, ho⟩ := errD_at I.hok e
    have hx : ObjOk X.prog X.w H s.heap d (.xd fs) := I.hok d _ ed
    obtain ⟨mA, hns, _⟩ := hx
    obtain ⟨od, hd, _⟩ := lookIn_ns hns
    exact ⟨_, some od, ho, rfl, rfl, hd⟩
theorem call_isV : CallR X (.builtin "isinstance") (rIsV X.K) := by
  intro pins s σ H xs us Q I r h
  obtain ⟨a, C, c, cv, b, rfl, ie, T, hcv, e, q⟩ := h
  cases r with
  | cons rx rr =>
    cases rr with
    | cons rt rr =>
      cases rr
      cases rx
      have ec := hcv _ rt
      subst ec
      obtain ⟨ox, od, J⟩ := inst_of I ie
      have hcl : (PySem.W.clsIn X.K C).isSome = true := by
        obtain ⟨cd, hc, _⟩ := PySem.W.any_some T.hd
        rw [hc]; rfl
      exact PySem.W.kia_one (PySem.W.kitx_exc (ox := ox) (od := od) hcl T.hg T.hk T.hs T.ha T.hn T.ht T.hm) I.kIn J e (fun z => nomatch z)
        fun tk => ⟨.bl b, H, I.kept (t' := tk) fun _ _ z => z, rfl, q⟩
end
end Vx

set_option Elab.async false
set_option linter.all false
set_option maxRecDepth 100000
set_option maxHeartbeats 4000000
namespace Vx
open PySem PySem.Spec PyProof.Rows L2
section
variable {X : Cx} {cn f : Str} {B newId : String} {bmB : List Value} {C fI : Addr}
/-- n.f in the suite of `except C as n` -/
def tByE (C : Addr) (f : Str) (a : Addr) (cls : Value) (d : Option Addr) (te : TE) : TE := fun σ H Q => te σ H fun x H1 =>
  x = .ref a ∧ cls = .ref C ∧ ∃ dd v, d = some dd ∧ H1 dd = some (.xd [(f, v)]) ∧ Q v H1
theorem pe_byE {a : Addr} {oe : Obj} {cls : Value} {d : Option Addr} {pn : List (Addr × Obj)} {e : Expr} {te : TE} {pos : Pos} (T : ECls X.K X.mg cn f B newId bmB C fI) (hz : Zc cls d oe) (hf : ∃ vs, oe.data = .fields vs) (he : PE (X.suite a ((a, oe) :: pn)) e te)
    (hb : attributeBase e f X.env (eval e X.env) = eval e X.env := by rfl) :
    PE (X.suite a ((a, oe) :: pn)) (.Attribute e f pos) (tByE C f a cls d te) := by
  refine ⟨fun pins s σ H Q I h => ?_⟩
  refine attr_of hb (thn (he.run pins s σ H _ I h) fun u s1 hh => ?_)
  obtain ⟨x, H1, I1, rx, ex, ec, dd, v, ed, ea, q⟩ := hh
  subst ex
  obtain rfl : u = Value.ref a := rx
  subst ec
  subst ed
  obtain ⟨ha, _⟩ := I1.pin (a, oe) (List.mem_append_left _ List.mem_cons_self)
  obtain ⟨vs, hd⟩ := hf
  have hx : ObjOk X.prog X.w H1 s1.heap dd (.xd [(f, v)]) := I1.hok dd _ ea
  obtain ⟨mA, hns, hr⟩ := hx
  obtain ⟨od, ho, hl⟩ := lookIn_ns hns
  have l : List.lookup f [(f, v)] = some v := by simp [List.lookup]
  obtain ⟨u, hu, ru⟩ := RelO.some_of (v := v) (o := mA f) (by rw [← l]; exact hr f)
  have J : PySem.W.InstAt s1.heap a oe C (some od) := ⟨ha, hz.1, by unfold PySem.W.notCls; rw [hd] <;> rfl, by rw [hz.2]; exact ho⟩
  exact HandSPX.exc_get I1.kIn J T.ga T.gg T.exC (PySem.W.findObj_own T.hd T.no rfl (by rw [hl, hu])) (handed_of ru) ⟨v, H1, I1.tok _, ru, q⟩
end
end Vx

set_option Elab.async false
set_option linter.all false
set_option maxRecDepth 100000
set_option maxHeartbeats 4000000
namespace Lk
open PySem PySem.Spec L2
section
variable {X : Cx}
/-- // by any divisor but 0, below 2 ^ 9000 in size -/
def CDivG (_ j : Int) : Prop := j ≠ 0 ∧ j.natAbs.log2 < 9000
theorem divG {i j : Int} {b : Nat} (h : j ≠ 0) (hb : j.natAbs < 2 ^ b) (h0 : 0 < b) (h9 : b ≤ 9000) : CDivG i j :=
  ⟨h, Nat.lt_of_lt_of_le (PySem.Flt.log2_lt_of h0 hb) h9⟩
theorem op_fdivG : OpR X (binaryOp .FloorDiv) (rI CDivG fun i j => .int (i.fdiv j)) := opI fun i j _ _ _ _ _ hc q =>
  PyProof.Rows.floordiv_int hc.1 q (.inl (PyProof.noPylong_of_log2 hc.2))
/-- o.f as a target -/
def gFld (K : PySem.W.Frag) (to : TE) (f : Str) : TG := fun v σ H Q => to σ H fun x H1 =>
  ∃ a C dx fs, x = .ref a ∧ H1 a = some (.ins C dx fs) ∧ Cls K C ∧ NoAttr K C f ∧ fs.length < 1000 ∧ Q σ (upd H1 a (.ins C dx (putF f v fs)))
theorem pg_fld {o : Expr} {to : TE} {f : Str} {pos : Pos} (ho : PE X o to) : PG X (.Attribute o f pos) (gFld X.K to f) := by
  refine ⟨fun pins s σ H v u Q I r h => ?_⟩
  rw [assign_Attribute]
  refine wpAny_bind (wpAny_holding (thn (ho.run pins s σ H _ I h) fun ov s1 ⟨x, H1, I1, rx, a, C, dx, fs, ex, ea, c, n, l, q⟩ => ?_))
  subst ex
  obtain rfl : ov = Value.ref a := rx
  refine wpAny_bind (wpAny_standAt (wpAny_bind (wpAny_holding (setattr_ok I1 ea c n l r fun s3 I3 => wpAny_release ?_))))
  exact ⟨σ, _, I3, q⟩
/-- how a promise's call comes back as a value of a comparison or a text -/
theorem strback {P : Value → Shared → Prop} {y : Str} {v : Value} {s' : Shared} (r : RelV (.str y) v) (h : P v s') : PySem.W.StrBack P v s' := by
  obtain ⟨t, rfl⟩ := (show ∃ t, v = Value.str y t from r)
  exact h
/-- str(x), x an instance whose class has its own __str__ -/
def rStrOwn (C : Addr) (sp : Sp) (E : XK) : List V → Hp → VK → Prop := fun xs H Q =>
  ∃ a dx fs, xs = [.ref a] ∧ H a = some (.ins C dx fs) ∧ sp [.ref a] H (fun z H' => ∃ y, z = .str y ∧ Q z H') E
section
variable {CX : CXT} {C g : Addr} {k : Nat} {fd : FuncData} {ps : List Str} {sp : Sp} {E : XK}
theorem call_strOwn (hs : PySem.W.findIn X.K (.ref C) "__str__" = some (some (.ref g))) (hf : PySem.W.isFn X.K (.ref g) = true)
    (F : FnOk X.prog X.w X.K X.mg X.base CX k g fd ps sp) (hr : Room (k + 2) X.A) (hb : Binds X.K fd ps [])
    (hx : Passes CX X E) : CallR X (.type "str") (rStrOwn C sp E) := by
  intro pins s σ H xs us Q I r h
  obtain ⟨a, dx, fs, rfl, ea, q⟩ := h
  cases r with
  | cons rx rr =>
    cases rr
    cases rx
    obtain ⟨mA, O, _, _, _, _⟩ := ins_get I.hok ea
    obtain ⟨od, J, _⟩ := O.look
    have r2 : Room k X.A.in1.in1 := (show Room (k + 1) X.A.in1 from Room.in1 hr).in1
    have hl : ([Value.ref a] ++ []).length = ps.length := (F.len _ _ _ _ q) ▸ rfl
    refine PySem.W.kso_call (by have := r2.un; omega) I.kIn J hs hf (wpAny_call (codeAny_mono (F.run X.A.in1.in1 X.stack s H ⟨[.ref a], []⟩ [.ref a] [.ref a] _ E r2 I.env0.in1.in1 (hb s [.ref a] I.kIn hl) (.cons rfl .nil) q) fun r s' hq => ?_))
    cases r with
    | error e => exact hx pins σ H s e s' I hq
    | ok fl =>
      cases fl with
      | ret u =>
        obtain ⟨v, H', I2, rv, y, ey, q2⟩ := I.after hq
        subst ey
        exact strback rv ⟨.str y, H', I2, rv, q2⟩
      | next => exact False.elim hq
      | brk => exact False.elim hq
      | cont => exact False.elim hq
/-- what stands on the right of an own ==: an instance of the same class, a tuple, a whole number -/
inductive Rgt (H : Hp) (C : Addr) : V → Prop where
  | own {b dx fs} : H b = some (.ins C dx fs) → Rgt H C (.ref b)
  | tup {b xs} : H b = some (.tup xs) → Rgt H C (.ref b)
  | int (i : Int) : Rgt H C (.int i)
theorem rgt_type {pins : List (Addr × Obj)} {σ : L2.St} {H : Hp} {s : Shared} {y : V} {u : Value} (I : Inv X pins σ H s) (h : Rgt H C y) (r : RelV y u) (M : Model)
    (nt : PySem.W.notFirst X.K C (.ref C) = true) (n1 : PySem.W.notFirst X.K C (.type "tuple") = true) (n2 : PySem.W.notFirst X.K C (.type "int") = true) :
    ∃ tb, PySem.W.Looks M s.heap (typeOf u) tb ∧ PySem.W.notFirst X.K C tb = true := by
  cases h with
  | own e =>
    cases r
    obtain ⟨mA, O, _, _, _, _⟩ := ins_get I.hok e
    obtain ⟨od, J, _⟩ := O.look
    exact ⟨.ref C, J.type, nt⟩
  | tup e =>
    cases r
    obtain ⟨_, us, _, o, ho, hc, _⟩ := (show ObjOk X.prog X.w H s.heap _ (.tup _) from I.hok _ _ e)
    exact ⟨.type "tuple", fun A Q E s k q => wpAny_typeOf_ref (k _ _ ho) (by rw [hc]; exact q), n1⟩
  | int i =>
    obtain ⟨t, rfl⟩ := (show ∃ t, u = Value.int i t from r)
    exact ⟨.type "int", fun A Q E s k q => wpAny_typeOf (typeIs_int s i t) q, n2⟩
structure OwnEq (K : PySem.W.Frag) (C g : Addr) : Prop where
  eq : PySem.W.findIn K (.ref C) "__eq__" = some (some (.ref g))
  ne : PySem.W.findIn K (.ref C) "__ne__" = some (some (.builtin "object.__ne__"))
  fn : PySem.W.isFn K (.ref g) = true
  n0 : PySem.W.notFirst K C (.ref C) = true
  n1 : PySem.W.notFirst K C (.type "tuple") = true
  n2 : PySem.W.notFirst K C (.type "int") = true
  mo : PySem.W.mroIn K C (.type "object") = some true
/-- x == y by an own __eq__ -/
def rEqOwn (C : Addr) (sp : Sp) (E : XK) : R2 := fun x y H Q => ∃ a dx fs, x = .ref a ∧ H a = some (.ins C dx fs) ∧ Rgt H C y ∧ sp [x, y] H Q E
theorem op_eqOwn (T : OwnEq X.K C g) (F : FnOk X.prog X.w X.K X.mg X.base CX k g fd ps sp) (hr : Room k X.A) (hb : Binds X.K fd ps [])
    (hx : Passes CX X E) : OpR X (compareOp .Eq) (rEqOwn C sp E) := by
  intro pins s σ H x y v u Q I rx ry h
  obtain ⟨a, dx, fs, rfl, ea, hy, q⟩ := h
  cases (show v = Value.ref a from rx)
  obtain ⟨mA, O, _, _, _, _⟩ := ins_get I.hok ea
  obtain ⟨od, J, _⟩ := O.look
  obtain ⟨tb, hb1, hb2⟩ := rgt_type I hy ry (model X.prog X.w) T.n0 T.n1 T.n2
  obtain ⟨m, hF⟩ := I.fr
  show wpAny _ _ (richCompare .Eq (.ref a) u) _ _ _
  refine PySem.W.cmp_K (op := .Eq) (tb := tb) hr.units0 hF I.ok.mod.kin J hb1 hb2 T.eq T.fn ?_
  refine wpAny_mono (run_fn (us := [.ref a, u]) (vs := [.ref a, y]) (dvs := []) (ds := []) F hr hb .nil hx I (.cons rfl (.cons ry .nil)) q) (fun w s' z => ?_) fun _ _ x => x
  obtain ⟨z', H', I', rz, qz⟩ := z
  exact SlX.cmpback rz ⟨z', H', I', rz, qz⟩
/-- x != y, where the class has an own __eq__ and object's __ne__ -/
def rNeOwn (C : Addr) (sp : Sp) (E : XK) : R2 := fun x y H Q => ∃ a dx fs, x = .ref a ∧ H a = some (.ins C dx fs) ∧ Rgt H C y ∧
  sp [x, y] H (fun z H' => ∃ b, z = .bl b ∧ Q (.bl (!b)) H') E
theorem ifB {M : Model} {A : Around} {E' : Value → Shared → Prop} {s : Shared} {K : PySem.W.Frag} {x : Addr} {ox : Obj} {od : Option Obj} {name : Str} {id : String} {args : List Value} {Q : Option Value → Shared → Prop}
    (Y : K.In s.heap) (J : PySem.W.InstAt s.heap x ox C od) (hs : PySem.W.findIn K (.ref C) name = some (some (.builtin id)))
    (hb : ∀ self, bindSpecial (.builtin id) self = pure (.builtin id, [self]))
    (h : wpAny M A (call (.builtin id) (.ref x :: args)) (fun v => Q (some v)) E' s) : wpAny M A (callSpecialIfBound? (.ref x) name args) Q E' s := by
  have fin : wpAny M A (call (.builtin id) ([.ref x] ++ args) >>= fun v => pure (some v)) Q E' s :=
    wpAny_bind (wpAny_mono h (fun v s' z => wpAny_pure z) fun _ _ z => z)
  simp only [callSpecialIfBound?, bindSpecialIfBound?]
  refine wpAny_holding (wpAny_bind (wpAny_bind (wpAny_bind (J.type.here ((PySem.W.looks_findIn Y hs).here (wpAny_bind (wpAny_askSetting (wpAny_ite ?_))))))))
  split
  · exact wpAny_bind ((PySem.W.Looks.of_pure (hb _)).here (wpAny_pure (by exact fin)))
  · exact wpAny_tryCatch (wpAny_bind ((PySem.W.Looks.of_pure (hb _)).here (wpAny_pure (by exact fin))))
theorem op_neOwn (T : OwnEq X.K C g) (F : FnOk X.prog X.w X.K X.mg X.base CX k g fd ps sp) (hr : Room (k + 1) X.A) (hb : Binds X.K fd ps [])
    (hx : Passes CX X E) : OpR X (compareOp .NotEq) (rNeOwn C sp E) := by
  intro pins s σ H x y v u Q I rx ry h
  obtain ⟨a, dx, fs, rfl, ea, hy, q⟩ := h
  cases (show v = Value.ref a from rx)
  obtain ⟨mA, O, _, _, _, _⟩ := ins_get I.hok ea
  obtain ⟨od, J, _⟩ := O.look
  obtain ⟨tb, hb1, hb2⟩ := rgt_type I hy ry (model X.prog X.w) T.n0 T.n1 T.n2
  have Y := I.kIn
  have r1 : Room k X.A.in1 := Room.in1 hr
  have hl : ([Value.ref a, u] ++ []).length = ps.length := (F.len _ _ _ _ q) ▸ rfl
  have one : wpAny (model X.prog X.w) X.A (tryCompare (.ref a) (cmpInfo .NotEq).2.1 u) (fun r s' => ∃ v, r = some v ∧ EP X pins σ Q v s') X.xe s := by
    unfold tryCompare
    refine wpAny_bind (ifB Y J T.ne PySem.F.slot_object_ne.bind ?_)
    refine wpAny_call (codeAny_call_builtin PySem.F.slot_object_ne.plain PySem.F.entry_object_ne (PySem.W.check_slot (i := "object.__ne__") (owner := "object") (n := "__ne__") (by decide +kernel) (by decide +kernel) (J.type.andThen (PySem.W.looks_mroIn Y T.mo)) (PySem.F.args_object_ne_2 _ _) ?_))
    unfold Builtin.«object.__ne__»
    refine wpAny_bind (m := slotArgs "__ne__" 1 _) (wpAny_pure ?_)
    refine wpAny_bind (m := cRoomFor _ _) (wpAny_cRoomFor r1.units0 ?_)
    refine wpAny_bind (m := callSpecialIfBound? (.ref a) (Str.ofString "__eq__") _) (PySem.W.ifBound_K Y J T.eq T.fn ?_)
    refine wpAny_call (codeAny_mono (F.run X.A.in1 X.stack s H ⟨[.ref a, u], []⟩ [.ref a, u] [.ref a, y] _ E r1 I.env0.in1 (hb s [.ref a, u] Y hl) (.cons rfl (.cons ry .nil)) q) fun r s' hq => ?_)
    cases r with
    | error e => exact hx pins σ H s e s' I hq
    | ok fl =>
      cases fl with
      | ret z =>
        obtain ⟨zv, H', I2, rz, b, ez, q2⟩ := I.after hq
        subst ez
        cases (show z = Value.bool b from rz)
        refine wpAny_bind (m := truthy (.bool b)) (wpAny_truthy_bool (wpAny_pure ?_))
        exact wpAny_pure ⟨_, rfl, .bl (!b), H', I2, rfl, q2⟩
      | next => exact False.elim hq
      | brk => exact False.elim hq
      | cont => exact False.elim hq
  show wpAny _ _ (richCompare .NotEq (.ref a) u) _ _ _
  unfold richCompare
  simp only [oneThing_ref]
  refine wpAny_holding (wpAny_bind (wpAny_cRoomFor hr.units0 ?_))
  refine wpAny_bind (J.type.here (wpAny_bind (hb1.here ?_)))
  split
  · rename_i z
    have e : PySem.W.subIn X.K tb (.ref C) = some false := by
      rcases Bool.or_eq_true_iff.mp hb2 with e | e
      · rw [beq_iff_eq.mp e] at z; simp at z
      · exact beq_iff_eq.mp e
    refine wpAny_bind ((PySem.W.looks_subIn Y e).here ?_)
    simp only [Bool.false_eq_true, if_false]
    refine wpAny_bind (wpAny_mono one (fun r s' w => ?_) fun _ _ e => e)
    obtain ⟨v, rfl, hq⟩ := w
    exact wpAny_pure hq
  · refine wpAny_bind (wpAny_pure ?_)
    simp only [Bool.false_eq_true, if_false]
    refine wpAny_bind (wpAny_mono one (fun r s' w => ?_) fun _ _ e => e)
    obtain ⟨v, rfl, hq⟩ := w
    exact wpAny_pure hq
end
end
end Lk

set_option Elab.async false
set_option linter.all false
set_option maxRecDepth 100000
set_option maxHeartbeats 4000000
namespace Lk
open PySem L2
def top (i : Nat) : Stmt := PySem.Challenge.pw_lawseries_k03_errors_of_numbers_and_rati.main.body.getD i (.Pass ⟨0, 0, 0, 0⟩)
/-- what the module's name space leaves of built-in names -/
structure Bl (mg : Str → Option Value) : Prop where
  int : mg "int" = none
  len : mg "len" = none
  abs : mg "abs" = none
  max : mg "max" = none
/-- the three numbers of a law's dice, at p -/
def DiceAt (H : Hp) (p : Addr) : Prop := ∃ a b c : Int, H p = some (.lst [.int a, .int b, .int c])
section
variable {P : Program} {w : World} {K : PySem.W.Frag} {mg : Str → Option Value} {base : Heap}
theorem sqL_upd {K : PySem.W.Frag} {H : Hp} {a p : Addr} {xs : List V} {o : HO} (ne : a ≠ p) (h : SqL K H a xs) : SqL K (upd H p o) a xs := by
  unfold SqL Rd at h ⊢
  rw [upd_ne ne]
  exact h
/-! ### roll -/
def spRoll : Sp := fun vs H Q _ => ∃ (p : Addr) (a b c t : Int), vs = [.ref p, .int t] ∧ H p = some (.lst [.int a, .int b, .int c]) ∧
  0 < t ∧ t < 1606938044258990275541962092341162602522202993782792835301376 ∧ ∀ (r a' c' : Int), 0 ≤ r → r < t → Q (.int r) (upd H p (.lst [.int a', .int b, .int c']))
abbrev sRoll : Stmt := top 42
theorem scRoll : FnScope ["_law_dice_here", "_law_total", "_law_found", "_law_one", "_law_two"] ["_law_dice_here", "_law_total"] (defScope sRoll) :=
  ⟨rfl, rfl, rfl, by decide +kernel, rfl, by decide +kernel, by decide +kernel⟩
theorem upd_upd {H : Hp} {p : Addr} {o o' : HO} : upd (upd H p o) p o' = upd H p o' := by
  funext b
  by_cases h : b = p
  · subst h; rw [upd_same, upd_same]
  · rw [upd_ne h, upd_ne h, upd_ne h]
theorem upd_self {H : Hp} {p : Addr} {o : HO} (h : H p = some o) : upd H p o = H := by
  funext b
  by_cases e : b = p
  · subst e; rw [upd_same, h]
  · rw [upd_ne e]
theorem mod_lo {i j : Int} (h : 0 < j) : 0 ≤ i.fmod j := by
  rw [Int.fmod_eq_emod_of_nonneg _ (Int.le_of_lt h)]; exact Int.emod_nonneg _ (by omega)
theorem mod_hi {i j : Int} (h : 0 < j) : i.fmod j < j := by
  rw [Int.fmod_eq_emod_of_nonneg _ (Int.le_of_lt h)]; exact Int.emod_lt_of_pos _ h
theorem ok_roll {f : Addr} {fd : FuncData} (F : Fun K "_law_roll" "_law_roll" sRoll f fd) (B : Bl mg) :
    FnOk P w K mg base CX0 1 f fd ["_law_dice_here", "_law_total"] spRoll := by
  refine F.ok scRoll (fun vs H Q E h => ?_) (fun cdv A outer s H vs Q E hr h => ?_)
  · obtain ⟨p, a, b, c, t, rfl, _⟩ := h
    rfl
  · obtain ⟨p, a, b, c, t, rfl, hp, t0, t1, k⟩ := h
    refine ⟨_, pss_cons (ps_if (pt_cmpR op_gt (pe_ix ix_list (pv 0) pe_int (fun _ _ => rfl)) pe_int (nomark _))
        (pss_cons (ps_set (i := 2) scRoll.nd rfl (.inl rfl) (pe_op op_modN (pe_callTy call_int1 (by rfl) B.int PyProof.Rows.boot_int (pa_cons (pe_ix ix_list (pv 0) pe_int (fun _ _ => rfl)) pa_nil)) (pv 1)))
          (pss_cons (ps_asg (pe_op op_fdivW (pe_ix ix_list (pv 0) pe_int (fun _ _ => rfl)) (pv 1)) (pg_sub (pv 0) pe_int set_list)) (pss_one (ps_ret (pv 2)))))
        pss_nil)
      (pss_cons (ps_asg (pe_op op_add (pe_ix ix_list (pv 0) pe_int (fun _ _ => rfl)) pe_int) (pg_sub (pv 0) pe_int set_list))
      (pss_cons (ps_set (i := 3) scRoll.nd rfl (.inl rfl) (pe_op op_modN (pe_callTy call_int1 (by rfl) B.int PyProof.Rows.boot_int (pa_cons (pe_op op_add (pe_ix ix_list (pv 0) pe_int (fun _ _ => rfl)) (pe_op op_mul pe_int (pe_ix ix_list (pv 0) pe_int (fun _ _ => rfl)))) pa_nil)) pe_int))
      (pss_cons (ps_set (i := 4) scRoll.nd rfl (.inl rfl) (pe_op op_add (pe_op op_mul (pe_op op_modN (pe_callTy call_int1 (by rfl) B.int PyProof.Rows.boot_int (pa_cons (pe_op op_add (pe_op op_mul (pv 3) (pv 3)) (pe_op op_mul pe_int (pe_ix ix_list (pv 0) pe_int (fun _ _ => rfl)))) pa_nil)) pe_int) pe_int) (pv 3)))
      (pss_one (ps_ret (pe_op op_modN (pe_callTy call_int1 (by rfl) B.int PyProof.Rows.boot_int (pa_cons (pe_op op_fdivN (pv 4) pe_int) pa_nil)) (pv 1))))))), ?_⟩
    refine ⟨_, rfl, p, _, 0, _, rfl, rfl, SqL.of hp, rfl, _, _, rfl, rfl, _, rfl, ?_⟩
    refine ite2 (fun _ => ?_) (fun _ => ?_)
    · refine ⟨_, rfl, p, _, 0, _, rfl, rfl, SqL.of hp, rfl, .inl ⟨_, rfl, _, rfl, _, _, rfl, rfl, by show t ≠ 0; omega, ?_⟩⟩
      refine ⟨_, rfl, p, _, 0, _, rfl, rfl, SqL.of hp, rfl, _, rfl, _, _, rfl, rfl, wide_div t0 (b := 200) (by omega) (by decide) (by decide), ?_⟩
      refine ⟨_, rfl, p, _, 0, 0, rfl, rfl, hp, rfl, ?_⟩
      exact ⟨_, rfl, k _ _ _ (mod_lo t0) (mod_hi t0)⟩
    · refine ⟨_, rfl, p, _, 2, _, rfl, rfl, SqL.of hp, rfl, _, _, rfl, rfl, _, rfl, p, _, 2, 2, rfl, rfl, hp, rfl, ?_⟩
      have hp1 : upd H p (.lst [.int a, .int b, .int (c + 1)]) p = some (.lst [.int a, .int b, .int (c + 1)]) := upd_same
      refine ⟨_, rfl, p, _, 1, _, rfl, rfl, SqL.of hp1, rfl, _, rfl, p, _, 2, _, rfl, rfl, SqL.of hp1, rfl, _, _, rfl, rfl, .inl (by decide), _, _, rfl, rfl, .inl ⟨_, rfl, _, _, rfl, rfl, (by show (_ : Int) ≠ 0; exact (by decide : (2305843009213693613 : Int) ≠ 0)), ?_⟩⟩
      have l0 : 0 ≤ (b + 86028157 * (c + 1)).fmod 2305843009213693613 := mod_lo (by decide)
      have l1 : (b + 86028157 * (c + 1)).fmod 2305843009213693613 < 2305843009213693613 := mod_hi (by decide)
      refine ⟨_, rfl, _, rfl, _, _, rfl, rfl, .inl ⟨by omega, by omega⟩, _, rfl, p, _, 2, _, rfl, rfl, SqL.of hp1, rfl, _, _, rfl, rfl, .inl (by decide), _, _, rfl, rfl, .inl ⟨_, rfl, _, _, rfl, rfl, (by show (_ : Int) ≠ 0; exact (by decide : (2305843009213693669 : Int) ≠ 0)), ?_⟩⟩
      have m0 := mod_lo (i := (b + 86028157 * (c + 1)).fmod 2305843009213693613 * (b + 86028157 * (c + 1)).fmod 2305843009213693613 + 97 * (c + 1)) (j := 2305843009213693669) (by decide)
      have m1 := mod_hi (i := (b + 86028157 * (c + 1)).fmod 2305843009213693613 * (b + 86028157 * (c + 1)).fmod 2305843009213693613 + 97 * (c + 1)) (j := 2305843009213693669) (by decide)
      refine ⟨_, _, rfl, rfl, .inl ⟨by omega, by omega⟩, _, rfl, _, _, rfl, rfl, ?_⟩
      refine ⟨_, rfl, _, _, rfl, rfl, ⟨by decide, by decide⟩, .inl ⟨_, rfl, _, rfl, _, _, rfl, rfl, by show t ≠ 0; omega, k _ _ _ (mod_lo t0) (mod_hi t0)⟩⟩
/-! ### pick -/
def spPick (K : PySem.W.Frag) : Sp := fun vs H Q _ => ∃ (p q : Addr) (a b c : Int) (xs : List V), vs = [.ref p, .ref q] ∧ H p = some (.lst [.int a, .int b, .int c]) ∧
  SqL K H q xs ∧ q ≠ p ∧ 0 < xs.length ∧ xs.length < 1000 ∧ ∀ (i : Nat) (x : V) (a' c' : Int), xs[i]? = some x → Q x (upd H p (.lst [.int a', .int b, .int c']))
abbrev sPick : Stmt := top 43
theorem scPick : FnScope ["_law_dice_here", "_law_items"] ["_law_dice_here", "_law_items"] (defScope sPick) :=
  ⟨rfl, rfl, rfl, by decide +kernel, rfl, by decide +kernel, by decide +kernel⟩
theorem ok_pick {f fR : Addr} {fd fdR : FuncData} (F : Fun K "_law_pick" "_law_pick" sPick f fd) (B : Bl mg) (mR : mg "_law_roll" = some (.ref fR))
    (kR : PySem.W.keepIn K (.ref fR) = true) (bR : Binds K fdR ["_law_dice_here", "_law_total"] [])
    (GR : FnOk P w K mg base CX0 1 fR fdR ["_law_dice_here", "_law_total"] spRoll) :
    FnOk P w K mg base CX0 2 f fd ["_law_dice_here", "_law_items"] (spPick K) := by
  refine F.ok scPick (fun vs H Q E h => ?_) (fun cdv A outer s H vs Q E hr h => ?_)
  · obtain ⟨p, q, a, b, c, xs, rfl, _⟩ := h
    rfl
  · obtain ⟨p, q, a, b, c, xs, rfl, hp, hq, ne, x0, x1, k⟩ := h
    refine ⟨_, pss_one (ps_ret (pe_ix ix_list (pv 1) (pe_call GR hr rfl mR kR bR .nil pass0 (pa_cons (pv 0) (pa_cons (pe_callB call_len_seq (by rfl) B.len PySem.boot_len (pa_cons (pv 1) pa_nil)) pa_nil))) (fun _ _ => rfl))), ?_⟩
    refine ⟨_, rfl, _, rfl, _, rfl, q, _, rfl, .inl hq, p, a, b, c, _, rfl, hp, by omega, by omega, fun r a' c' r0 r1 => ?_⟩
    obtain ⟨n, rfl⟩ : ∃ n : Nat, r = (n : Int) := ⟨r.toNat, by omega⟩
    have hn : n < xs.length := by omega
    have hq' : SqL K (upd H p (.lst [.int a', .int b, .int c'])) q xs := sqL_upd ne hq
    exact ⟨q, _, _, _, rfl, rfl, hq', atI_nat (List.getElem?_eq_getElem hn), k n _ a' c' (List.getElem?_eq_getElem hn)⟩
end
end Lk

set_option Elab.async false
set_option linter.all false
set_option maxRecDepth 100000
set_option maxHeartbeats 4000000
namespace Lk
open PySem L2
/-! ### the mathematics of lowest terms -/
def sg (t b : Int) : Int := if b < 0 then -((Nat.gcd t.natAbs b.natAbs : Nat) : Int) else ((Nat.gcd t.natAbs b.natAbs : Nat) : Int)
def lT (t b : Int) : Int := t.fdiv (sg t b)
def lB (t b : Int) : Int := b.fdiv (sg t b)
theorem g_pos {t b : Int} (h : b ≠ 0) : 0 < Nat.gcd t.natAbs b.natAbs := Nat.gcd_pos_of_pos_right _ (by omega)
theorem sg_ne {t b : Int} (h : b ≠ 0) : sg t b ≠ 0 := by
  have := g_pos (t := t) h
  unfold sg
  split <;> omega
theorem sg_abs (t b : Int) : (sg t b).natAbs = Nat.gcd t.natAbs b.natAbs := by
  unfold sg
  split <;> simp
theorem sg_le {t b : Int} (h : b ≠ 0) : (sg t b).natAbs ≤ b.natAbs := by
  rw [sg_abs]
  exact Nat.gcd_le_right _ (by omega)
theorem sg_dT (t b : Int) : sg t b ∣ t := by
  rw [← Int.natAbs_dvd_natAbs, sg_abs]
  exact Nat.gcd_dvd_left _ _
theorem sg_dB (t b : Int) : sg t b ∣ b := by
  rw [← Int.natAbs_dvd_natAbs, sg_abs]
  exact Nat.gcd_dvd_right _ _
theorem fdiv_mul_of {a j : Int} (h : j ∣ a) (n : j ≠ 0) : a.fdiv j * j = a := by
  obtain ⟨c, rfl⟩ := h
  rw [Int.mul_fdiv_cancel_left _ n, Int.mul_comm]
theorem lT_mul {t b : Int} (h : b ≠ 0) : lT t b * sg t b = t := fdiv_mul_of (sg_dT t b) (sg_ne h)
theorem lB_mul {t b : Int} (h : b ≠ 0) : lB t b * sg t b = b := fdiv_mul_of (sg_dB t b) (sg_ne h)
theorem abs_le_of_mul {x g t : Int} (h : x * g = t) (n : g ≠ 0) : x.natAbs ≤ t.natAbs := by
  rw [← h, Int.natAbs_mul]
  exact Nat.le_mul_of_pos_right _ (by omega)
theorem lT_le {t b : Int} (h : b ≠ 0) : (lT t b).natAbs ≤ t.natAbs := abs_le_of_mul (lT_mul h) (sg_ne h)
theorem lB_le {t b : Int} (h : b ≠ 0) : (lB t b).natAbs ≤ b.natAbs := abs_le_of_mul (lB_mul h) (sg_ne h)
theorem lB_pos {t b : Int} (h : b ≠ 0) : 0 < lB t b := by
  have e := lB_mul (t := t) h
  have g := g_pos (t := t) h
  unfold sg at e
  rcases Int.lt_trichotomy 0 (lB t b) with p | p | p
  · exact p
  · rw [← p] at e; simp at e; omega
  · exfalso
    split at e
    · have : 0 < lB t b * -((Nat.gcd t.natAbs b.natAbs : Nat) : Int) := Int.mul_pos_of_neg_of_neg p (by omega)
      omega
    · have : lB t b * ((Nat.gcd t.natAbs b.natAbs : Nat) : Int) < 0 := Int.mul_neg_of_neg_of_pos p (by omega)
      omega
theorem low_co {t b : Int} (h : b ≠ 0) : Nat.gcd (lT t b).natAbs (lB t b).natAbs = 1 := by
  have g := g_pos (t := t) h
  have e1 : (lT t b).natAbs * Nat.gcd t.natAbs b.natAbs = t.natAbs := by rw [← sg_abs t b, ← Int.natAbs_mul, lT_mul h]
  have e2 : (lB t b).natAbs * Nat.gcd t.natAbs b.natAbs = b.natAbs := by rw [← sg_abs t b, ← Int.natAbs_mul, lB_mul h]
  have e3 : Nat.gcd ((lT t b).natAbs * Nat.gcd t.natAbs b.natAbs) ((lB t b).natAbs * Nat.gcd t.natAbs b.natAbs) = Nat.gcd t.natAbs b.natAbs := by rw [e1, e2]
  rw [Nat.gcd_mul_right] at e3
  exact Nat.eq_of_mul_eq_mul_right g (by rw [e3, Nat.one_mul])
/-- what is in lowest terms stays -/
theorem low_id {t b : Int} (h : 0 < b) (c : Nat.gcd t.natAbs b.natAbs = 1) : lT t b = t ∧ lB t b = b := by
  have s : sg t b = 1 := by
    unfold sg
    rw [if_neg (by omega), c]
    rfl
  unfold lT lB
  rw [s]
  exact ⟨Int.fdiv_one t, Int.fdiv_one b⟩
theorem low_int (n : Int) : lT n 1 = n ∧ lB n 1 = 1 := low_id (by decide) (by simp)
theorem low_neg {t b : Int} (h : b ≠ 0) : lT (-(lT t b)) (lB t b) = -(lT t b) ∧ lB (-(lT t b)) (lB t b) = lB t b :=
  low_id (lB_pos h) (by rw [Int.natAbs_neg]; exact low_co h)
/-! ### the program's numbers. The text by places -/
abbrev sShort : Stmt := top 14
abbrev sOf : Stmt := top 15
abbrev sMade : Stmt := top 16
abbrev sLow : Stmt := top 17
abbrev sSign : Stmt := top 18
abbrev sIn (j : Nat) : Stmt := inClass (top 13) j
def LONG : Int := 1000000000000000000000000000000000000000000000000000000000000
/-- what the module tells of names -/
structure Gn (K : PySem.W.Frag) (mg : Str → Option Value) (C : Addr) : Prop where
  bl : Bl mg
  isi : mg "isinstance" = none
  bool : mg "bool" = none
  str : mg "str" = none
  tl : ∃ t, mg "_TOO_LONG" = some (.int LONG t)
  gcd : mg "gcd" = some (.builtin "math.gcd")
  mgC : mg "Ratio" = some (.ref C)
  cl : Cls K C
  nT : NoAttr K C "_top"
  nB : NoAttr K C "_bottom"
  ca : PySem.W.findIn K (.ref C) "__class__" = some (some (.builtin "object.__class__"))
  cn : PySem.W.specialIn K (.builtin "object.__class__") "__get__" = some (some (.builtin "getset_descriptor.__get__"))
  ct : PySem.W.takesIn K (.builtin "object.__class__") = some true
  mo : PySem.W.mroIn K C (.type "object") = some true
  kt : PySem.W.kitOne K (.type "tuple") (.ref C) = some false
  ki : PySem.W.kitOne K (.type "int") (.ref C) = some false
section
variable {P : Program} {w : World} {K : PySem.W.Frag} {mg : Str → Option Value} {base : Heap} {C : Addr}
def spShort : Sp := fun vs H Q _ => ∃ i : Int, vs = [.int i] ∧ Q (.bl (decide (-LONG < i) && decide (i < LONG))) H
theorem scShort : FnScope ["value"] ["value"] (defScope sShort) := ⟨rfl, rfl, rfl, by decide +kernel, rfl, by decide +kernel, by decide +kernel⟩
theorem ok_short {f : Addr} {fd : FuncData} (F : Fun K "is_short_integer" "is_short_integer" sShort f fd) (G : Gn K mg C) :
    FnOk P w K mg base CX0 1 f fd ["value"] spShort := by
  obtain ⟨tk, hTL⟩ := G.tl
  refine F.ok scShort (fun vs H Q E h => ?_) (fun cdv A outer s H vs Q E hr h => ?_)
  · obtain ⟨i, rfl, _⟩ := h
    rfl
  · obtain ⟨i, rfl, k⟩ := h
    refine ⟨_, pss_one (ps_ret (pe_and (pe_callB call_isi (by rfl) G.isi (by decide +kernel) (pa_cons (pv 0) (pa_cons (pe_bltn (by rfl) G.bl.int (by decide +kernel) (show RelV (.ty "int") (.type "int") from rfl)) pa_nil)))
      (pe_and (pe_not (pe_callB call_isi (by rfl) G.isi (by decide +kernel) (pa_cons (pv 0) (pa_cons (pe_bltn (by rfl) G.bool (by decide +kernel) (show RelV (.ty "bool") (.type "bool") from rfl)) pa_nil))))
        (pe_one (pe_chain op_lt op_lt (pe_un un_neg (pe_glob rfl hTL (show RelV (.int LONG) (.int LONG tk) from ⟨_, rfl⟩))) (pv 0) (pe_glob rfl hTL (show RelV (.int LONG) (.int LONG tk) from ⟨_, rfl⟩))))))), ?_⟩
    refine ⟨_, rfl, _, _, _, _, true, rfl, .ty "int", .base (.int i), kit_ty (by decide +kernel), true, rfl, ?_⟩
    rw [if_pos rfl]
    refine ⟨_, rfl, _, _, _, _, false, rfl, .ty "bool", .base (.int i), kit_ty (by decide +kernel), false, rfl, true, rfl, ?_⟩
    rw [if_pos rfl]
    refine ⟨_, rfl, _, rfl, _, _, rfl, rfl, _, rfl, ?_⟩
    by_cases c : -LONG < i
    · rw [decide_eq_true c] at k
      rw [if_pos (decide_eq_true c)]
      exact ⟨_, _, rfl, rfl, k⟩
    · rw [decide_eq_false c] at k
      rw [if_neg (by rw [decide_eq_false c]; exact Bool.false_ne_true)]
      exact k
end
end Lk

set_option Elab.async false
set_option linter.all false
set_option maxRecDepth 100000
set_option maxHeartbeats 4000000
set_option exponentiation.threshold 10000
namespace Lk
open PySem L2
theorem tb_ : ¬ (("_top" : Str) = "_bottom") := by decide +kernel
theorem bt_ : ¬ (("_bottom" : Str) = "_top") := by decide +kernel
/-- the fields of a ratio -/
def rf (t b : Int) : List (Str × V) := putF "_bottom" (.int b) (putF "_top" (.int t) [])
theorem rf_eq (t b : Int) : rf t b = ([("_top", V.int t), ("_bottom", V.int b)] : List (Str × V)) := by
  show (if ("_top" : Str) = "_bottom" then [(("_top" : Str), V.int b)] else (("_top" : Str), V.int t) :: putF "_bottom" (V.int b) []) = _
  rw [if_neg tb_]
  all_goals rfl
theorem rf_t (t b : Int) : (rf t b).lookup ("_top" : Str) = some (.int t) := by
  unfold rf
  rw [lookup_putF, if_neg tb_, lookup_putF, if_pos rfl]
theorem rf_b (t b : Int) : (rf t b).lookup ("_bottom" : Str) = some (.int b) := by
  unfold rf
  rw [lookup_putF, if_pos rfl]
theorem rf_no (t b : Int) {m : Str} (h1 : ¬ m = "_bottom") (h2 : ¬ m = "_top") : (rf t b).lookup m = none := by
  unfold rf
  rw [lookup_putF, if_neg h1, lookup_putF, if_neg h2]
  all_goals rfl
theorem rf_putT (t b u : Int) : putF "_top" (.int u) (rf t b) = rf u b := by
  rw [rf_eq, rf_eq]
  show (if ("_top" : Str) = "_top" then (("_top" : Str), V.int u) :: [(("_bottom" : Str), V.int b)] else _) = _
  rw [if_pos rfl]
theorem rf_putB (t b u : Int) : putF "_bottom" (.int u) (rf t b) = rf t u := by
  rw [rf_eq, rf_eq]
  show (if ("_top" : Str) = "_bottom" then _ else (("_top" : Str), V.int t) :: (if ("_bottom" : Str) = "_bottom" then [(("_bottom" : Str), V.int u)] else _)) = _
  rw [if_neg tb_, if_pos rfl]
theorem rf_len (t b : Int) : (rf t b).length < 1000 := by rw [rf_eq]; show 2 < 1000; decide
/-- all that stood stands, but for p -/
def But (p : Addr) (H H' : Hp) : Prop := ∀ a o, a ≠ p → H a = some o → H' a = some o
theorem same_new {H : Hp} {p : Addr} {o : HO} (h : H p = none) : Same H (upd H p o) := fun b u e => by
  rw [upd_ne (ne_of_none e h)]
  exact e
theorem Same.tr {H H1 H2 : Hp} (a : Same H H1) (b : Same H1 H2) : Same H H2 := fun c o h => b c o (a c o h)
theorem same_refl (H : Hp) : Same H H := fun _ _ h => h
/-- a ratio at p -/
abbrev RatAt (C : Addr) (H : Hp) (p : Addr) (t b : Int) : Prop := ∃ dx, H p = some (.ins C dx (rf t b))
def NewRat (C : Addr) (H : Hp) (t b : Int) (Q : VK) : Prop := ∀ (H' : Hp) (x : Addr), Same H H' → H x = none → RatAt C H' x t b → Q (.ref x) H'
/-- a ratio or a whole number, as an argument -/
def Arg (C : Addr) (H : Hp) (y : V) (t b : Int) : Prop := (∃ q, y = .ref q ∧ RatAt C H q t b) ∨ (y = .int t ∧ b = 1 ∧ -LONG < t ∧ t < LONG)
abbrev Bd (x : Int) : Prop := x.natAbs < 2 ^ 300
theorem itT {c : Bool} {A B : Prop} (hc : c = true) (h : A) : if c = true then A else B := by
  rw [if_pos hc]; exact h
theorem itF {c : Bool} {A B : Prop} (hc : c = false) (h : B) : if c = true then A else B := by
  rw [hc, if_neg Bool.false_ne_true]; exact h
section
variable {P : Program} {w : World} {K : PySem.W.Frag} {mg : Str → Option Value} {base : Heap} {C : Addr}
/-! ### _lowest_terms -/
def spLow : Sp := fun vs H Q _ => ∃ t b : Int, vs = [.int t, .int b] ∧ b ≠ 0 ∧ b.natAbs < 2 ^ 4000 ∧
  ∀ p, H p = none → Q (.ref p) (upd H p (.tup [.int (lT t b), .int (lB t b)]))
theorem scLow : FnScope ["top", "bottom", "divisor"] ["top", "bottom"] (defScope sLow) := ⟨rfl, rfl, rfl, by decide +kernel, rfl, by decide +kernel, by decide +kernel⟩
theorem ok_low {f : Addr} {fd : FuncData} (F : Fun K "_lowest_terms" "_lowest_terms" sLow f fd) (G : Gn K mg C) :
    FnOk P w K mg base CX0 1 f fd ["top", "bottom"] spLow := by
  refine F.ok scLow (fun vs H Q E h => ?_) (fun cdv A outer s H vs Q E hr h => ?_)
  · obtain ⟨t, b, rfl, _⟩ := h
    rfl
  · obtain ⟨t, b, rfl, b0, bb, k⟩ := h
    refine ⟨_, pss_cons (ps_set (i := 2) scLow.nd rfl (.inl rfl) (pe_callBfun cr_gcd rfl G.gcd (pa_cons (pv 0) (pa_cons (pv 1) pa_nil))))
      (pss_cons (ps_if (pt_cmpR op_lt (pv 1) pe_int (nomark _)) (pss_one (ps_set (i := 2) scLow.nd rfl (.inl rfl) (pe_un un_neg (pv 2)))) pss_nil)
      (pss_one (ps_ret (pe_tup (pa_cons (pe_op op_fdivG (pv 0) (pv 2)) (pa_cons (pe_op op_fdivG (pv 1) (pv 2)) pa_nil)))))), ?_⟩
    have hs : CDivG t (sg t b) ∧ CDivG b (sg t b) := ⟨divG (sg_ne b0) (Nat.lt_of_le_of_lt (sg_le b0) bb) (by decide) (by decide), divG (sg_ne b0) (Nat.lt_of_le_of_lt (sg_le b0) bb) (by decide) (by decide)⟩
    refine ⟨_, rfl, _, rfl, t, b, rfl, ?_⟩
    refine ⟨_, rfl, _, _, rfl, rfl, _, rfl, ?_⟩
    by_cases c : b < 0
    · refine itT (decide_eq_true c) ?_
      have e : -((Nat.gcd t.natAbs b.natAbs : Nat) : Int) = sg t b := by unfold sg; rw [if_pos c]
      unfold lT lB at k
      rw [← e] at k hs
      refine ⟨_, rfl, _, rfl, ?_⟩
      refine ⟨_, rfl, _, rfl, t, _, rfl, rfl, hs.1, _, rfl, _, rfl, b, _, rfl, rfl, hs.2, (by show 2 ≤ sizeLine; decide), fun p hp => ?_⟩
      exact k p hp
    · refine itF (decide_eq_false c) ?_
      have e : ((Nat.gcd t.natAbs b.natAbs : Nat) : Int) = sg t b := by unfold sg; rw [if_neg c]
      unfold lT lB at k
      rw [← e] at k hs
      refine ⟨_, rfl, _, rfl, t, _, rfl, rfl, hs.1, _, rfl, _, rfl, b, _, rfl, rfl, hs.2, (by show 2 ≤ sizeLine; decide), fun p hp => ?_⟩
      exact k p hp
/-! ### __init__ -/
def spInit (C : Addr) : Sp := fun vs H Q _ => ∃ (p dx : Addr) (t b : Int), vs = [.ref p, .int t, .int b] ∧ H p = some (.ins C dx []) ∧ b ≠ 0 ∧ -LONG < t ∧ t < LONG ∧ -LONG < b ∧ b < LONG ∧
  ∀ H', But p H H' → H' p = some (.ins C dx (rf (lT t b) (lB t b))) → Q .non H'
theorem long_lt {x : Int} (h1 : -LONG < x) (h2 : x < LONG) : x.natAbs < 2 ^ 200 := by
  have e : LONG < 2 ^ 200 := by decide
  have : x.natAbs < LONG.natAbs := by unfold LONG at *; omega
  exact Nat.lt_trans this (by decide)
theorem long_bd {x : Int} (h1 : -LONG < x) (h2 : x < LONG) : Bd x := Nat.lt_trans (long_lt h1 h2) (by decide)
theorem lt_pow {n a b : Nat} (h : n < 2 ^ a) (l : a ≤ b) : n < 2 ^ b := Nat.lt_of_lt_of_le h (Nat.pow_le_pow_right (by decide) l)
theorem both {x : Int} (h1 : -LONG < x) (h2 : x < LONG) : (decide (-LONG < x) && decide (x < LONG)) = true := by
  rw [decide_eq_true h1, decide_eq_true h2]; rfl
/-- a def of the module, as its callers have it -/
def Has (P : Program) (w : World) (K : PySem.W.Frag) (mg : Str → Option Value) (base : Heap) (nm : Str) (k : Nat) (ps : List Str) (sp : Sp) : Prop :=
  ∃ f fd, FnOk P w K mg base CX0 k f fd ps sp ∧ mg nm = some (.ref f) ∧ PySem.W.keepIn K (.ref f) = true ∧ Binds K fd ps []
/-- a method -/
def HasM (P : Program) (w : World) (K : PySem.W.Frag) (mg : Str → Option Value) (base : Heap) (C : Addr) (nm : Str) (k : Nat) (ps : List Str) (sp : Sp) : Prop :=
  ∃ f fd, FnOk P w K mg base CX0 k f fd ps sp ∧ Meth K C nm f ∧ Binds K fd ps []
/-- a property -/
def HasP (P : Program) (w : World) (K : PySem.W.Frag) (mg : Str → Option Value) (base : Heap) (C : Addr) (nm : Str) (k : Nat) (sp : Sp) : Prop :=
  ∃ p g fd, PropOf K C nm p g ∧ FnOk P w K mg base CX0 k g fd ["self"] sp ∧ Binds K fd ["self"] []
theorem scInit : FnScope ["self", "top", "bottom"] ["self", "top", "bottom"] (defScope (sIn 0)) := ⟨rfl, rfl, rfl, by decide +kernel, rfl, by decide +kernel, by decide +kernel⟩
theorem ok_init {f : Addr} {fd : FuncData} {dvs : List V} {kws : List (Str × V)} (F : FunD K "__init__" "Ratio.__init__" (defArgs (sIn 0)) (defBody (sIn 0)) (defScope (sIn 0)) dvs kws f fd) (G : Gn K mg C) (S : Has P w K mg base "is_short_integer" 1 ["value"] spShort) (L : Has P w K mg base "_lowest_terms" 1 ["top", "bottom"] spLow) :
    FnOk P w K mg base CX0 2 f fd ["self", "top", "bottom"] (spInit C) := by
  obtain ⟨fS, dS, GS, mS, kS, bS⟩ := S
  obtain ⟨fL, dL, GL, mL, kL, bL⟩ := L
  refine F.ok scInit (fun vs H Q E h => ?_) (fun cdv A outer s H vs Q E hr h => ?_)
  · obtain ⟨p, dx, t, b, rfl, _⟩ := h
    rfl
  · obtain ⟨p, dx, t, b, rfl, hp, b0, t1, t2, b1, b2, k⟩ := h
    refine ⟨_, pss_cons (ps_if (pt_not (pt_val (pe_call GS hr rfl mS kS bS .nil pass0 (pa_cons (pv 1) pa_nil)))) (pss_one ps_never) pss_nil)
      (pss_cons (ps_if (PW.pt (pw_or (pt_not (pt_val (pe_call GS hr rfl mS kS bS .nil pass0 (pa_cons (pv 2) pa_nil)))) (pw_or1 (pt_cmpR op_eq (pv 2) pe_int (nomark _))))) (pss_one ps_never) pss_nil)
      (pss_one (ps_asg (pe_call GL hr rfl mL kL bL .nil pass0 (pa_cons (pv 1) (pa_cons (pv 2) pa_nil))) (pg_tup rfl (pgs_cons (pg_fld (pv 0)) (pgs_cons (pg_fld (pv 0)) pgs_nil)))))), ?_⟩
    refine ⟨_, rfl, t, rfl, _, rfl, itF (by rw [both t1 t2]; rfl) ?_⟩
    refine ⟨_, rfl, b, rfl, _, rfl, itF (by rw [both b1 b2]; rfl) ?_⟩
    refine ⟨_, rfl, rfl, _, rfl, itF (decide_eq_false (fun z => b0 (by cases z; rfl))) ?_⟩
    refine ⟨_, rfl, _, rfl, t, b, rfl, b0, lt_pow (long_lt b1 b2) (by decide), fun q hq => ?_⟩
    have npq : p ≠ q := ne_of_none hp hq
    refine ⟨q, _, rfl, .inl (.inl upd_same), rfl, _, _, rfl, ?_⟩
    refine ⟨_, rfl, p, C, dx, [], rfl, (by rw [upd_ne npq]; exact hp), G.cl, G.nT, (by show 0 < 1000; decide), _, _, rfl, ?_⟩
    refine ⟨_, rfl, p, C, dx, _, rfl, upd_same, G.cl, G.nB, (by show 1 < 1000; decide), rfl, ?_⟩
    refine k _ (fun a o ne e => ?_) upd_same
    rw [upd_ne ne, upd_ne ne, upd_ne (ne_of_none e hq)]
    exact e
end
end Lk

set_option Elab.async false
set_option linter.all false
set_option maxRecDepth 100000
set_option maxHeartbeats 4000000
set_option exponentiation.threshold 10000
namespace Lk
open PySem L2
section
variable {P : Program} {w : World} {K : PySem.W.Frag} {mg : Str → Option Value} {base : Heap} {C : Addr}
abbrev HShort (P : Program) (w : World) (K : PySem.W.Frag) (mg : Str → Option Value) (base : Heap) : Prop := Has P w K mg base "is_short_integer" 1 ["value"] spShort
abbrev HLow (P : Program) (w : World) (K : PySem.W.Frag) (mg : Str → Option Value) (base : Heap) : Prop := Has P w K mg base "_lowest_terms" 1 ["top", "bottom"] spLow
/-- Ratio(n), Ratio(t, b): the class and its __init__, with its default 1 -/
def HRatio (P : Program) (w : World) (K : PySem.W.Frag) (mg : Str → Option Value) (base : Heap) (C : Addr) : Prop :=
  ∃ f fd, FnOk P w K mg base CX0 2 f fd ["self", "top", "bottom"] (spInit C) ∧ Mk K C f ∧ Binds K fd ["self", "top", "bottom"] [] ∧
    ∃ ds, Vals [V.int 1] ds ∧ Binds K fd ["self", "top", "bottom"] ds
/-! ### ratio_of -/
def spOf (C : Addr) : Sp := fun vs H Q _ => ∃ (y : V) (t b : Int), vs = [y] ∧ Arg C H y t b ∧ ∀ (H' : Hp) (q : Addr), Same H H' → RatAt C H' q t b → Q (.ref q) H'
theorem scOf : FnScope ["value"] ["value"] (defScope sOf) := ⟨rfl, rfl, rfl, by decide +kernel, rfl, by decide +kernel, by decide +kernel⟩
theorem ok_of {f : Addr} {fd : FuncData} (F : Fun K "ratio_of" "ratio_of" sOf f fd) (G : Gn K mg C) (S : HShort P w K mg base) (R : HRatio P w K mg base C) :
    FnOk P w K mg base CX0 4 f fd ["value"] (spOf C) := by
  obtain ⟨fS, dS, GS, mS, kS, bS⟩ := S
  obtain ⟨fI, dI, GI, M, _, ds, vd, bD⟩ := R
  refine F.ok scOf (fun vs H Q E h => ?_) (fun cdv A outer s H vs Q E hr h => ?_)
  · obtain ⟨y, t, b, rfl, _⟩ := h
    rfl
  · obtain ⟨y, t, b, rfl, ar, k⟩ := h
    refine ⟨_, pss_cons (ps_if (pt_val (pe_callB call_isi (by rfl) G.isi (by decide +kernel) (pa_cons (pv 0) (pa_cons (pe_glob rfl G.mgC (show RelV (.ref C) (.ref C) from rfl)) pa_nil)))) (pss_one (ps_ret (pv 0))) pss_nil)
      (pss_cons (ps_if (pt_not (pt_val (pe_call GS (hr.mono (by decide)) rfl mS kS bS .nil pass0 (pa_cons (pv 0) pa_nil)))) (pss_one ps_never) pss_nil)
      (pss_one (ps_ret (pe_make M GI hr rfl G.mgC bD vd pass0 (pa_cons (pv 0) pa_nil))))), ?_⟩
    rcases ar with ⟨q, rfl, dx, hq⟩ | ⟨rfl, rfl, t1, t2⟩
    · refine ⟨_, rfl, _, _, _, _, true, rfl, .own C, .base (.ins hq G.cl G.ca G.cn G.ct G.mo), (by unfold PySem.W.kitOne; simp), _, rfl, itT rfl ?_⟩
      exact ⟨_, rfl, k H q (same_refl H) ⟨dx, hq⟩⟩
    · refine ⟨_, rfl, _, _, _, _, false, rfl, .own C, .base (.int t), G.ki, _, rfl, itF rfl ?_⟩
      refine ⟨_, rfl, t, rfl, _, rfl, itF (by rw [both t1 t2]; rfl) ?_⟩
      refine ⟨_, rfl, fun x dx nx nd ne => ?_⟩
      refine ⟨x, dx, t, 1, rfl, upd_same, by decide, t1, t2, by decide, by decide, fun H' bu hx => ⟨rfl, ?_⟩⟩
      have e := low_int t
      rw [e.1, e.2] at hx
      refine k H' x (fun a o z => ?_) ⟨dx, hx⟩
      have nax := ne_of_none z nx
      refine bu a o nax ?_
      rw [upd_ne nax, upd_ne (ne_of_none z nd)]
      exact z
/-! ### made_ratio -/
def spMade (C : Addr) : Sp := fun vs H Q _ => ∃ t b : Int, vs = [.int t, .int b] ∧ b ≠ 0 ∧ b.natAbs < 2 ^ 4000 ∧ NewRat C H (lT t b) (lB t b) Q
theorem scMade : FnScope ["top", "bottom", "lowest_top", "lowest_bottom", "made"] ["top", "bottom"] (defScope sMade) := ⟨rfl, rfl, rfl, by decide +kernel, rfl, by decide +kernel, by decide +kernel⟩
theorem ok_made {f : Addr} {fd : FuncData} (F : Fun K "made_ratio" "made_ratio" sMade f fd) (G : Gn K mg C) (L : HLow P w K mg base) (R : HRatio P w K mg base C) :
    FnOk P w K mg base CX0 4 f fd ["top", "bottom"] (spMade C) := by
  obtain ⟨fL, dL, GL, mL, kL, bL⟩ := L
  obtain ⟨fI, dI, GI, M, _, ds, vd, bD⟩ := R
  refine F.ok scMade (fun vs H Q E h => ?_) (fun cdv A outer s H vs Q E hr h => ?_)
  · obtain ⟨t, b, rfl, _⟩ := h
    rfl
  · obtain ⟨t, b, rfl, b0, bb, k⟩ := h
    refine ⟨_, pss_cons (ps_asg (pe_call GL (hr.mono (by decide)) rfl mL kL bL .nil pass0 (pa_cons (pv 0) (pa_cons (pv 1) pa_nil))) (pg_tup rfl (pgs_cons (pg_name (i := 2) scMade.nd rfl (.inl rfl)) (pgs_cons (pg_name (i := 3) scMade.nd rfl (.inl rfl)) pgs_nil))))
      (pss_cons (ps_set (i := 4) scMade.nd rfl (.inl rfl) (pe_make M GI hr rfl G.mgC bD vd pass0 (pa_cons pe_int pa_nil)))
      (pss_cons (ps_fld (pv 4) (pv 2) rfl) (pss_cons (ps_fld (pv 4) (pv 3) rfl) (pss_one (ps_ret (pv 4)))))), ?_⟩
    refine ⟨_, rfl, _, rfl, t, b, rfl, b0, bb, fun q hq => ?_⟩
    refine ⟨q, _, rfl, .inl (.inl upd_same), rfl, _, _, rfl, _, _, rfl, rfl, ?_⟩
    intro x dx nx nd ne
    have nxq : x ≠ q := fun z => by rw [z, upd_same] at nx; cases nx
    have nx0 : H x = none := by rw [upd_ne nxq] at nx; exact nx
    have ndq : dx ≠ q := fun z => by rw [z, upd_same] at nd; cases nd
    have nd0 : H dx = none := by rw [upd_ne ndq] at nd; exact nd
    refine ⟨x, dx, 0, 1, rfl, upd_same, by decide, by decide, by decide, by decide, by decide, fun H' bu hx => ⟨rfl, ?_⟩⟩
    refine ⟨_, rfl, _, rfl, x, C, dx, _, rfl, hx, G.cl, G.nT, rf_len _ _, ?_⟩
    refine ⟨_, rfl, _, rfl, x, C, dx, _, rfl, upd_same, G.cl, G.nB, (by rw [rf_putT]; exact rf_len _ _), ?_⟩
    refine ⟨_, rfl, k _ x (fun a o z => ?_) nx0 ⟨dx, ?_⟩⟩
    · have nax := ne_of_none z nx0
      rw [upd_ne nax, upd_ne nax]
      refine bu a o nax ?_
      rw [upd_ne nax, upd_ne (ne_of_none z nd0), upd_ne (ne_of_none z hq)]
      exact z
    · rw [upd_same, rf_putT, rf_putB]
/-! ### top, bottom, sign -/
abbrev sSg : Stmt := top 18
def sgn (n : Int) : Int := if n = 0 then 0 else if 0 < n then 1 else -1
def spSgn : Sp := fun vs H Q _ => ∃ n : Int, vs = [.int n] ∧ Q (.int (sgn n)) H
theorem scSgn : FnScope ["number"] ["number"] (defScope sSign) := ⟨rfl, rfl, rfl, by decide +kernel, rfl, by decide +kernel, by decide +kernel⟩
theorem ok_sgn {f : Addr} {fd : FuncData} (F : Fun K "_sign_of" "_sign_of" sSign f fd) : FnOk P w K mg base CX0 1 f fd ["number"] spSgn := by
  refine F.ok scSgn (fun vs H Q E h => ?_) (fun cdv A outer s H vs Q E hr h => ?_)
  · obtain ⟨n, rfl, _⟩ := h
    rfl
  · obtain ⟨n, rfl, k⟩ := h
    refine ⟨_, pss_cons (ps_if (pt_cmpR op_eq (pv 0) pe_int (nomark _)) (pss_one (ps_ret pe_int)) pss_nil)
      (pss_one (ps_ret (pe_ifExp (pt_cmpR op_gt (pv 0) pe_int (nomark _)) pe_int (pe_un un_neg pe_int)))), ?_⟩
    refine ⟨_, rfl, rfl, _, rfl, ?_⟩
    by_cases c : n = 0
    · subst c
      exact itT (decide_eq_true rfl) k
    · refine itF (decide_eq_false (fun z => c (by cases z; rfl))) ?_
      refine ⟨_, rfl, _, _, rfl, rfl, _, rfl, ?_⟩
      unfold sgn at k
      rw [if_neg c] at k
      by_cases c2 : 0 < n
      · rw [if_pos c2] at k
        exact itT (decide_eq_true c2) k
      · rw [if_neg c2] at k
        exact itF (decide_eq_false c2) ⟨_, rfl, k⟩
def spTop (C : Addr) : Sp := getSp C "_top"
def spBot (C : Addr) : Sp := getSp C "_bottom"
def spSign (C : Addr) : Sp := fun vs H Q _ => ∃ (p : Addr) (t b : Int), vs = [.ref p] ∧ RatAt C H p t b ∧ Q (.int (sgn t)) H
theorem scSelf : FnScope ["self"] ["self"] (defScope (sIn 4)) := ⟨rfl, rfl, rfl, by decide +kernel, rfl, by decide +kernel, by decide +kernel⟩
theorem ok_sign {f : Addr} {fd : FuncData} (F : Fun K "sign" "Ratio.sign" (sIn 4) f fd) (G : Gn K mg C) (S : Has P w K mg base "_sign_of" 1 ["number"] spSgn) : FnOk P w K mg base CX0 2 f fd ["self"] (spSign C) := by
  obtain ⟨fS, dS, GS, mS, kS, bS⟩ := S
  refine F.ok scSelf (fun vs H Q E h => ?_) (fun cdv A outer s H vs Q E hr h => ?_)
  · obtain ⟨p, t, b, rfl, _⟩ := h
    rfl
  · obtain ⟨p, t, b, rfl, ⟨dx, hp⟩, k⟩ := h
    refine ⟨_, pss_one (ps_ret (pe_call GS hr rfl mS kS bS .nil pass0 (pa_cons (pe_fld (pv 0) rfl) pa_nil))), ?_⟩
    exact ⟨_, rfl, p, C, dx, _, _, rfl, hp, G.cl, G.nT, rf_t _ _, t, rfl, k⟩
end
end Lk

set_option Elab.async false
set_option linter.all false
set_option maxRecDepth 100000
set_option maxHeartbeats 4000000
set_option exponentiation.threshold 10000
namespace Lk
open PySem L2
theorem mulB {x y : Int} {a b : Nat} (hx : x.natAbs < 2 ^ a) (hy : y.natAbs < 2 ^ b) (h0 : 0 < a := by decide) (h1 : 0 < b := by decide) (h : a + b ≤ 1000000 := by decide) : CMulW x y := wide_mul hx hy h0 h1 h
theorem prodB {x y : Int} (hx : Bd x) (hy : Bd y) : (x * y).natAbs < 2 ^ 4000 := lt_pow (wide_lt hx hy) (by decide)
theorem mul_ne {x y : Int} (hx : x ≠ 0) (hy : y ≠ 0) : x * y ≠ 0 := Int.mul_ne_zero hx hy
section
variable {P : Program} {w : World} {K : PySem.W.Frag} {mg : Str → Option Value} {base : Heap} {C : Addr}
/-- what every method of two ratios calls -/
structure Ms (P : Program) (w : World) (K : PySem.W.Frag) (mg : Str → Option Value) (base : Heap) (C : Addr) : Prop where
  of : Has P w K mg base "ratio_of" 4 ["value"] (spOf C)
  made : Has P w K mg base "made_ratio" 4 ["top", "bottom"] (spMade C)
  t : HasP P w K mg base C "top" 1 (spTop C)
  b : HasP P w K mg base C "bottom" 1 (spBot C)
/-! ### plus -/
def spPlus (C : Addr) : Sp := fun vs H Q _ => ∃ (p : Addr) (y : V) (t b u v : Int), vs = [.ref p, y] ∧ RatAt C H p t b ∧ Arg C H y u v ∧ Bd t ∧ Bd b ∧ Bd u ∧ Bd v ∧ b ≠ 0 ∧ v ≠ 0 ∧ NewRat C H (lT (t * v + u * b) (b * v)) (lB (t * v + u * b) (b * v)) Q
theorem scPlus : FnScope ["self", "other", "added", "top"] ["self", "other"] (defScope (sIn 5)) := ⟨rfl, rfl, rfl, by decide +kernel, rfl, by decide +kernel, by decide +kernel⟩
theorem ok_plus {f : Addr} {fd : FuncData} (F : Fun K "plus" "Ratio.plus" (sIn 5) f fd) (G : Gn K mg C) (M : Ms P w K mg base C) : FnOk P w K mg base CX0 5 f fd ["self", "other"] (spPlus C) := by
  obtain ⟨fO, dO, GO, mO, kO, bO⟩ := M.of
  obtain ⟨fM, dM, GM, mM, kM, bM⟩ := M.made
  obtain ⟨p1, g1, d1, pT, GT, bT⟩ := M.t
  obtain ⟨p2, g2, d2, pB, GB, bB⟩ := M.b
  refine F.ok scPlus (fun vs H Q E h => ?_) (fun cdv A outer s H vs Q E hr h => ?_)
  · obtain ⟨p, y, t, b, u, v, rfl, _⟩ := h
    rfl
  · obtain ⟨p, y, t, b, u, v, rfl, ⟨dx, hp⟩, ar, ht, hb, hu, hv, b0, v0, k⟩ := h
    refine ⟨_, pss_cons (ps_set (i := 2) scPlus.nd rfl (.inl rfl) (pe_call GO (hr.mono (by decide)) rfl mO kO bO .nil pass0 (pa_cons (pv 1) pa_nil))) (pss_cons (ps_set (i := 3) scPlus.nd rfl (.inl rfl) (pe_op op_add (pe_op op_mulW (pe_fld (pv 0) rfl) (pe_prop (pv 2) G.cl pB GB (hr.mono (by decide)) bB .nil pass0 rfl)) (pe_op op_mulW (pe_prop (pv 2) G.cl pT GT (hr.mono (by decide)) bT .nil pass0 rfl) (pe_fld (pv 0) rfl)))) (pss_one (ps_ret (pe_call GM (hr.mono (by decide)) rfl mM kM bM .nil pass0 (pa_cons (pv 3) (pa_cons (pe_op op_mulW (pe_fld (pv 0) rfl) (pe_prop (pv 2) G.cl pB GB (hr.mono (by decide)) bB .nil pass0 rfl)) pa_nil)))))), ?_⟩
    refine ⟨_, rfl, y, u, v, rfl, ar, fun H1 q s1 ⟨dq, hq⟩ => ?_⟩
    have hp1 := s1 _ _ hp
    have fin : ∀ {z : V}, True := fun {_} => trivial
    refine ⟨_, rfl, p, C, dx, _, _, rfl, hp1, G.cl, G.nT, rf_t _ _, _, rfl, q, dq, _, rfl, hq, q, dq, _, _, rfl, hq, rf_b _ _, _, _, rfl, rfl, mulB ht hv, _, rfl, q, dq, _, rfl, hq, q, dq, _, _, rfl, hq, rf_t _ _, _, rfl, p, C, dx, _, _, rfl, hp1, G.cl, G.nB, rf_b _ _, _, _, rfl, rfl, mulB hu hb, _, _, rfl, rfl, ?_⟩
    refine ⟨_, rfl, _, rfl, p, C, dx, _, _, rfl, hp1, G.cl, G.nB, rf_b _ _, _, rfl, q, dq, _, rfl, hq, q, dq, _, _, rfl, hq, rf_b _ _, _, _, rfl, rfl, mulB hb hv, _, _, rfl, mul_ne b0 v0, prodB hb hv, fun H2 x s2 nx r2 => k H2 x (Same.tr s1 s2) (L2.Same.free s1 nx) r2⟩
/-! ### minus -/
def spMinus (C : Addr) : Sp := fun vs H Q _ => ∃ (p : Addr) (y : V) (t b u v : Int), vs = [.ref p, y] ∧ RatAt C H p t b ∧ Arg C H y u v ∧ Bd t ∧ Bd b ∧ Bd u ∧ Bd v ∧ b ≠ 0 ∧ v ≠ 0 ∧ NewRat C H (lT (t * v - u * b) (b * v)) (lB (t * v - u * b) (b * v)) Q
theorem scMinus : FnScope ["self", "other", "taken", "top"] ["self", "other"] (defScope (sIn 6)) := ⟨rfl, rfl, rfl, by decide +kernel, rfl, by decide +kernel, by decide +kernel⟩
theorem ok_minus {f : Addr} {fd : FuncData} (F : Fun K "minus" "Ratio.minus" (sIn 6) f fd) (G : Gn K mg C) (M : Ms P w K mg base C) : FnOk P w K mg base CX0 5 f fd ["self", "other"] (spMinus C) := by
  obtain ⟨fO, dO, GO, mO, kO, bO⟩ := M.of
  obtain ⟨fM, dM, GM, mM, kM, bM⟩ := M.made
  obtain ⟨p1, g1, d1, pT, GT, bT⟩ := M.t
  obtain ⟨p2, g2, d2, pB, GB, bB⟩ := M.b
  refine F.ok scMinus (fun vs H Q E h => ?_) (fun cdv A outer s H vs Q E hr h => ?_)
  · obtain ⟨p, y, t, b, u, v, rfl, _⟩ := h
    rfl
  · obtain ⟨p, y, t, b, u, v, rfl, ⟨dx, hp⟩, ar, ht, hb, hu, hv, b0, v0, k⟩ := h
    refine ⟨_, pss_cons (ps_set (i := 2) scMinus.nd rfl (.inl rfl) (pe_call GO (hr.mono (by decide)) rfl mO kO bO .nil pass0 (pa_cons (pv 1) pa_nil))) (pss_cons (ps_set (i := 3) scMinus.nd rfl (.inl rfl) (pe_op op_sub (pe_op op_mulW (pe_fld (pv 0) rfl) (pe_prop (pv 2) G.cl pB GB (hr.mono (by decide)) bB .nil pass0 rfl)) (pe_op op_mulW (pe_prop (pv 2) G.cl pT GT (hr.mono (by decide)) bT .nil pass0 rfl) (pe_fld (pv 0) rfl)))) (pss_one (ps_ret (pe_call GM (hr.mono (by decide)) rfl mM kM bM .nil pass0 (pa_cons (pv 3) (pa_cons (pe_op op_mulW (pe_fld (pv 0) rfl) (pe_prop (pv 2) G.cl pB GB (hr.mono (by decide)) bB .nil pass0 rfl)) pa_nil)))))), ?_⟩
    refine ⟨_, rfl, y, u, v, rfl, ar, fun H1 q s1 ⟨dq, hq⟩ => ?_⟩
    have hp1 := s1 _ _ hp
    have fin : ∀ {z : V}, True := fun {_} => trivial
    refine ⟨_, rfl, p, C, dx, _, _, rfl, hp1, G.cl, G.nT, rf_t _ _, _, rfl, q, dq, _, rfl, hq, q, dq, _, _, rfl, hq, rf_b _ _, _, _, rfl, rfl, mulB ht hv, _, rfl, q, dq, _, rfl, hq, q, dq, _, _, rfl, hq, rf_t _ _, _, rfl, p, C, dx, _, _, rfl, hp1, G.cl, G.nB, rf_b _ _, _, _, rfl, rfl, mulB hu hb, _, _, rfl, rfl, ?_⟩
    refine ⟨_, rfl, _, rfl, p, C, dx, _, _, rfl, hp1, G.cl, G.nB, rf_b _ _, _, rfl, q, dq, _, rfl, hq, q, dq, _, _, rfl, hq, rf_b _ _, _, _, rfl, rfl, mulB hb hv, _, _, rfl, mul_ne b0 v0, prodB hb hv, fun H2 x s2 nx r2 => k H2 x (Same.tr s1 s2) (L2.Same.free s1 nx) r2⟩
/-! ### times -/
def spTimes (C : Addr) : Sp := fun vs H Q _ => ∃ (p : Addr) (y : V) (t b u v : Int), vs = [.ref p, y] ∧ RatAt C H p t b ∧ Arg C H y u v ∧ Bd t ∧ Bd b ∧ Bd u ∧ Bd v ∧ b ≠ 0 ∧ v ≠ 0 ∧ NewRat C H (lT (t * u) (b * v)) (lB (t * u) (b * v)) Q
theorem scTimes : FnScope ["self", "other", "factor"] ["self", "other"] (defScope (sIn 7)) := ⟨rfl, rfl, rfl, by decide +kernel, rfl, by decide +kernel, by decide +kernel⟩
theorem ok_times {f : Addr} {fd : FuncData} (F : Fun K "times" "Ratio.times" (sIn 7) f fd) (G : Gn K mg C) (M : Ms P w K mg base C) : FnOk P w K mg base CX0 5 f fd ["self", "other"] (spTimes C) := by
  obtain ⟨fO, dO, GO, mO, kO, bO⟩ := M.of
  obtain ⟨fM, dM, GM, mM, kM, bM⟩ := M.made
  obtain ⟨p1, g1, d1, pT, GT, bT⟩ := M.t
  obtain ⟨p2, g2, d2, pB, GB, bB⟩ := M.b
  refine F.ok scTimes (fun vs H Q E h => ?_) (fun cdv A outer s H vs Q E hr h => ?_)
  · obtain ⟨p, y, t, b, u, v, rfl, _⟩ := h
    rfl
  · obtain ⟨p, y, t, b, u, v, rfl, ⟨dx, hp⟩, ar, ht, hb, hu, hv, b0, v0, k⟩ := h
    refine ⟨_, pss_cons (ps_set (i := 2) scTimes.nd rfl (.inl rfl) (pe_call GO (hr.mono (by decide)) rfl mO kO bO .nil pass0 (pa_cons (pv 1) pa_nil))) (pss_one (ps_ret (pe_call GM (hr.mono (by decide)) rfl mM kM bM .nil pass0 (pa_cons (pe_op op_mulW (pe_fld (pv 0) rfl) (pe_prop (pv 2) G.cl pT GT (hr.mono (by decide)) bT .nil pass0 rfl)) (pa_cons (pe_op op_mulW (pe_fld (pv 0) rfl) (pe_prop (pv 2) G.cl pB GB (hr.mono (by decide)) bB .nil pass0 rfl)) pa_nil))))), ?_⟩
    refine ⟨_, rfl, y, u, v, rfl, ar, fun H1 q s1 ⟨dq, hq⟩ => ?_⟩
    have hp1 := s1 _ _ hp
    have fin : ∀ {z : V}, True := fun {_} => trivial
    exact ⟨_, rfl, p, C, dx, _, _, rfl, hp1, G.cl, G.nT, rf_t _ _, _, rfl, q, dq, _, rfl, hq, q, dq, _, _, rfl, hq, rf_t _ _, _, _, rfl, rfl, mulB ht hu, _, rfl, p, C, dx, _, _, rfl, hp1, G.cl, G.nB, rf_b _ _, _, rfl, q, dq, _, rfl, hq, q, dq, _, _, rfl, hq, rf_b _ _, _, _, rfl, rfl, mulB hb hv, _, _, rfl, mul_ne b0 v0, prodB hb hv, fun H2 x s2 nx r2 => k H2 x (Same.tr s1 s2) (L2.Same.free s1 nx) r2⟩
/-! ### over -/
def spOver (C : Addr) : Sp := fun vs H Q _ => ∃ (p : Addr) (y : V) (t b u v : Int), vs = [.ref p, y] ∧ RatAt C H p t b ∧ Arg C H y u v ∧ Bd t ∧ Bd b ∧ Bd u ∧ Bd v ∧ b ≠ 0 ∧ v ≠ 0 ∧ u ≠ 0 ∧ NewRat C H (lT (t * v) (b * u)) (lB (t * v) (b * u)) Q
theorem scOver : FnScope ["self", "other", "divisor"] ["self", "other"] (defScope (sIn 8)) := ⟨rfl, rfl, rfl, by decide +kernel, rfl, by decide +kernel, by decide +kernel⟩
theorem ok_over {f : Addr} {fd : FuncData} (F : Fun K "over" "Ratio.over" (sIn 8) f fd) (G : Gn K mg C) (M : Ms P w K mg base C) : FnOk P w K mg base CX0 5 f fd ["self", "other"] (spOver C) := by
  obtain ⟨fO, dO, GO, mO, kO, bO⟩ := M.of
  obtain ⟨fM, dM, GM, mM, kM, bM⟩ := M.made
  obtain ⟨p1, g1, d1, pT, GT, bT⟩ := M.t
  obtain ⟨p2, g2, d2, pB, GB, bB⟩ := M.b
  refine F.ok scOver (fun vs H Q E h => ?_) (fun cdv A outer s H vs Q E hr h => ?_)
  · obtain ⟨p, y, t, b, u, v, rfl, _⟩ := h
    rfl
  · obtain ⟨p, y, t, b, u, v, rfl, ⟨dx, hp⟩, ar, ht, hb, hu, hv, b0, v0, u0, k⟩ := h
    refine ⟨_, pss_cons (ps_set (i := 2) scOver.nd rfl (.inl rfl) (pe_call GO (hr.mono (by decide)) rfl mO kO bO .nil pass0 (pa_cons (pv 1) pa_nil))) (pss_cons (ps_if (pt_cmpR op_eq (pe_prop (pv 2) G.cl pT GT (hr.mono (by decide)) bT .nil pass0 rfl) pe_int (nomark _)) (pss_one ps_never) pss_nil) (pss_one (ps_ret (pe_call GM (hr.mono (by decide)) rfl mM kM bM .nil pass0 (pa_cons (pe_op op_mulW (pe_fld (pv 0) rfl) (pe_prop (pv 2) G.cl pB GB (hr.mono (by decide)) bB .nil pass0 rfl)) (pa_cons (pe_op op_mulW (pe_fld (pv 0) rfl) (pe_prop (pv 2) G.cl pT GT (hr.mono (by decide)) bT .nil pass0 rfl)) pa_nil)))))), ?_⟩
    refine ⟨_, rfl, y, u, v, rfl, ar, fun H1 q s1 ⟨dq, hq⟩ => ?_⟩
    have hp1 := s1 _ _ hp
    have fin : ∀ {z : V}, True := fun {_} => trivial
    refine ⟨_, rfl, q, dq, _, rfl, hq, q, dq, _, _, rfl, hq, rf_t _ _, rfl, _, rfl, itF (decide_eq_false (fun z => u0 (by cases z; rfl))) ?_⟩
    exact ⟨_, rfl, p, C, dx, _, _, rfl, hp1, G.cl, G.nT, rf_t _ _, _, rfl, q, dq, _, rfl, hq, q, dq, _, _, rfl, hq, rf_b _ _, _, _, rfl, rfl, mulB ht hv, _, rfl, p, C, dx, _, _, rfl, hp1, G.cl, G.nB, rf_b _ _, _, rfl, q, dq, _, rfl, hq, q, dq, _, _, rfl, hq, rf_t _ _, _, _, rfl, rfl, mulB hb hu, _, _, rfl, mul_ne b0 u0, prodB hb hu, fun H2 x s2 nx r2 => k H2 x (Same.tr s1 s2) (L2.Same.free s1 nx) r2⟩
end
end Lk

set_option Elab.async false
set_option linter.all false
set_option maxRecDepth 100000
set_option maxHeartbeats 4000000
set_option exponentiation.threshold 10000
namespace Lk
open PySem L2 Vx
/-! values of every kind, as arguments: whether a short integer -/
inductive Kd (K : PySem.W.Frag) (H : Hp) : V → Bool → Prop
  | int (i : Int) : Kd K H (.int i) (decide (-LONG < i) && decide (i < LONG))
  | bl (b : Bool) : Kd K H (.bl b) false
  | oth {y : V} {t : Value} (ty : TyX K H y t) (no : PySem.W.kitOne K t (.type "int") = some false) (nb : ∀ b, y ≠ .bl b) (ni : ∀ i, y ≠ .int i) : Kd K H y false
theorem Kd.same {K : PySem.W.Frag} {H H' : Hp} {i : Int} {b : Bool} (h : Kd K H (.int i) b) : Kd K H' (.int i) b := by
  cases h with
  | int i => exact .int i
  | oth ty no nb ni => exact absurd rfl (ni i)
theorem Kd.short {K : PySem.W.Frag} {H : Hp} {y : V} (h : Kd K H y true) : ∃ i, y = .int i ∧ -LONG < i ∧ i < LONG := by
  generalize e : true = b at h
  cases h with
  | int i =>
    have z := e.symm
    rw [Bool.and_eq_true, decide_eq_true_eq, decide_eq_true_eq] at z
    exact ⟨i, rfl, z.1, z.2⟩
  | bl b => cases e
  | oth => cases e
/-- an error of the class at CE with the one field f, whose value is v, is let out -/
def Ref (CE : Addr) (f : Str) (H : Hp) (E : XK) (v : V) : Prop := ∀ H' d, Same H H' → H d = none → H' d = some (.xd [(f, v)]) → E (.ref CE) (some d) H'
section
variable {P : Program} {w : World} {K : PySem.W.Frag} {mg : Str → Option Value} {base : Heap} {C CE fE : Addr} {B newId : String} {bm : List Value}
def spShortK (K : PySem.W.Frag) : Sp := fun vs H Q _ => ∃ (y : V) (b : Bool), vs = [y] ∧ Kd K H y b ∧ Q (.bl b) H
theorem ok_shortK {f : Addr} {fd : FuncData} (F : Fun K "is_short_integer" "is_short_integer" sShort f fd) (G : Gn K mg C) :
    FnOk P w K mg base CX0 1 f fd ["value"] (spShortK K) := by
  obtain ⟨tk, hTL⟩ := G.tl
  refine F.ok scShort (fun vs H Q E h => ?_) (fun cdv A outer s H vs Q E hr h => ?_)
  · obtain ⟨y, b, rfl, _⟩ := h
    rfl
  · obtain ⟨y, b, rfl, hk, k⟩ := h
    refine ⟨_, pss_one (ps_ret (pe_and (pe_callB call_isi (by rfl) G.isi (by decide +kernel) (pa_cons (pv 0) (pa_cons (pe_bltn (by rfl) G.bl.int (by decide +kernel) (show RelV (.ty "int") (.type "int") from rfl)) pa_nil)))
      (pe_and (pe_not (pe_callB call_isi (by rfl) G.isi (by decide +kernel) (pa_cons (pv 0) (pa_cons (pe_bltn (by rfl) G.bool (by decide +kernel) (show RelV (.ty "bool") (.type "bool") from rfl)) pa_nil))))
        (pe_one (pe_chain op_lt op_lt (pe_un un_neg (pe_glob rfl hTL (show RelV (.int LONG) (.int LONG tk) from ⟨_, rfl⟩))) (pv 0) (pe_glob rfl hTL (show RelV (.int LONG) (.int LONG tk) from ⟨_, rfl⟩))))))), ?_⟩
    cases hk with
    | int i =>
      refine ⟨_, rfl, _, _, _, _, true, rfl, .ty "int", .base (.int i), kit_ty (by decide +kernel), true, rfl, itT rfl ?_⟩
      refine ⟨_, rfl, _, _, _, _, false, rfl, .ty "bool", .base (.int i), kit_ty (by decide +kernel), false, rfl, true, rfl, itT rfl ?_⟩
      refine ⟨_, rfl, _, rfl, _, _, rfl, rfl, _, rfl, ?_⟩
      by_cases c : -LONG < i
      · rw [decide_eq_true c] at k
        exact itT (decide_eq_true c) ⟨_, _, rfl, rfl, k⟩
      · rw [decide_eq_false c] at k
        exact itF (decide_eq_false c) k
    | bl b =>
      refine ⟨_, rfl, _, _, _, _, true, rfl, .ty "int", .base (.bl b), kit_ty (by decide +kernel), true, rfl, itT rfl ?_⟩
      exact ⟨_, rfl, _, _, _, _, true, rfl, .ty "bool", .base (.bl b), kit_ty (by decide +kernel), true, rfl, false, rfl, itF rfl k⟩
    | oth ty no nb ni =>
      exact ⟨_, rfl, _, _, _, _, false, rfl, .ty "int", ty, no, false, rfl, itF rfl k⟩
/-! ### Ratio(top, bottom), refused or made -/
abbrev HShK (P : Program) (w : World) (K : PySem.W.Frag) (mg : Str → Option Value) (base : Heap) : Prop := Has P w K mg base "is_short_integer" 1 ["value"] (spShortK K)
def spInitK (K : PySem.W.Frag) (C CE : Addr) : Sp := fun vs H Q E => ∃ (p dx : Addr) (y z : V) (b1 b2 : Bool), vs = [.ref p, y, z] ∧ H p = some (.ins C dx []) ∧ Kd K H y b1 ∧ Kd K H z b2 ∧
  (b1 = false → Ref CE "value" H E y) ∧ (b1 = true → b2 = false → Ref CE "value" H E z) ∧
  (∀ t b : Int, y = .int t → z = .int b → b1 = true → b2 = true → (b = 0 → Ref CE "value" H E z) ∧ (b ≠ 0 → ∀ H', But p H H' → H' p = some (.ins C dx (rf (lT t b) (lB t b))) → Q .non H'))
theorem ok_initK {f : Addr} {fd : FuncData} {dvs : List V} {kws : List (Str × V)} (F : FunD K "__init__" "Ratio.__init__" (defArgs (sIn 0)) (defBody (sIn 0)) (defScope (sIn 0)) dvs kws f fd) (G : Gn K mg C) (T : ECls K mg "InvalidCount" "value" B newId bm CE fE)
    (S : HShK P w K mg base) (L : Has P w K mg base "_lowest_terms" 1 ["top", "bottom"] spLow) :
    FnOk P w K mg base (L2.CX P w) 3 f fd ["self", "top", "bottom"] (spInitK K C CE) := by
  obtain ⟨fS, dS, GS, mS, kS, bS⟩ := S
  obtain ⟨fL, dL, GL, mL, kL, bL⟩ := L
  refine F.ok scInit (fun vs H Q E h => ?_) (fun cdv A outer s H vs Q E hr h => ?_)
  · obtain ⟨p, dx, y, z, b1, b2, rfl, _⟩ := h
    rfl
  · obtain ⟨p, dx, y, z, b1, b2, rfl, hp, k1, k2, r1, r2, r3⟩ := h
    refine ⟨_, pss_cons (ps_if (pt_not (pt_val (pe_call GS (hr.mono (by decide)) rfl mS kS bS .nil pass0 (pa_cons (pv 1) pa_nil)))) (pss_one (ps_raiseE rfl T hr (takes_of rfl rfl rfl rfl) (pv 1))) pss_nil)
      (pss_cons (ps_if (PW.pt (pw_or (pt_not (pt_val (pe_call GS (hr.mono (by decide)) rfl mS kS bS .nil pass0 (pa_cons (pv 2) pa_nil)))) (pw_or1 (pt_cmpR op_eq (pv 2) pe_int (nomark _))))) (pss_one (ps_raiseE rfl T hr (takes_of rfl rfl rfl rfl) (pv 2))) pss_nil)
      (pss_one (ps_asg (pe_call GL (hr.mono (by decide)) rfl mL kL bL .nil pass0 (pa_cons (pv 1) (pa_cons (pv 2) pa_nil))) (pg_tup rfl (pgs_cons (pg_fld (pv 0)) (pgs_cons (pg_fld (pv 0)) pgs_nil)))))), ?_⟩
    cases b1 with
    | false => exact ⟨_, rfl, y, _, rfl, k1, _, rfl, itT rfl ⟨_, rfl, fun d hd => r1 rfl _ d (same_new hd) hd upd_same⟩⟩
    | true =>
      obtain ⟨t, rfl, t1, t2⟩ := k1.short
      refine ⟨_, rfl, _, _, rfl, k1, _, rfl, itF rfl ?_⟩
      cases b2 with
      | false => exact ⟨_, rfl, z, _, rfl, k2, _, rfl, itT rfl (itT rfl ⟨_, rfl, fun d hd => r2 rfl rfl _ d (same_new hd) hd upd_same⟩)⟩
      | true =>
        obtain ⟨b, rfl, u1, u2⟩ := k2.short
        obtain ⟨q0, q1⟩ := r3 t b rfl rfl rfl rfl
        refine ⟨_, rfl, _, _, rfl, k2, _, rfl, itF rfl ?_⟩
        refine ⟨_, rfl, rfl, _, rfl, ?_⟩
        by_cases b0 : b = 0
        · exact itT (by rw [b0]; rfl) ⟨_, rfl, fun d hd => q0 b0 _ d (same_new hd) hd upd_same⟩
        · refine itF (decide_eq_false (fun z => b0 (V.int.inj z))) ?_
          refine ⟨_, rfl, _, rfl, t, b, rfl, b0, lt_pow (long_lt u1 u2) (by decide), fun q hq => ?_⟩
          have npq : p ≠ q := ne_of_none hp hq
          refine ⟨q, _, rfl, .inl (.inl upd_same), rfl, _, _, rfl, ?_⟩
          refine ⟨_, rfl, p, C, dx, [], rfl, (by rw [upd_ne npq]; exact hp), G.cl, G.nT, (by show 0 < 1000; decide), _, _, rfl, ?_⟩
          refine ⟨_, rfl, p, C, dx, _, rfl, upd_same, G.cl, G.nB, (by show 1 < 1000; decide), rfl, ?_⟩
          refine q1 b0 _ (fun a o ne e => ?_) upd_same
          rw [upd_ne ne, upd_ne ne, upd_ne (ne_of_none e hq)]
          exact e
end
end Lk

set_option Elab.async false
set_option linter.all false
set_option maxRecDepth 100000
set_option maxHeartbeats 4000000
/-! math.isqrt and math.comb, as rules for a call (with pe_callBfun, as cr_gcd) -/
namespace Lk
open PySem PySem.Spec PyProof.Rows L2
section
variable {X : Cx}
def rSqrt : List V → Hp → VK → Prop := fun vs H Q => ∃ a : Int, vs = [.int a] ∧ 0 ≤ a ∧ a < 2 ^ 64 ∧ Q (.int ((Float64.isqrt a.toNat : Nat) : Int)) H
theorem cr_isqrt : CallR X (.builtin "math.isqrt") rSqrt := by
  intro pins s σ H vs us Q I r h
  obtain ⟨a, rfl, h0, h1, q⟩ := h
  obtain ⟨u, rfl, t, rfl⟩ := vals1 r
  exact PySem.W.mg_isqrt h0 h1 ⟨.int _, H, I.tok _, ⟨_, rfl⟩, q⟩
def rComb : List V → Hp → VK → Prop := fun vs H Q => ∃ a b : Int, vs = [.int a, .int b] ∧ 0 ≤ a ∧ 0 ≤ b ∧ a ≤ 18000 ∧ Q (.int (PySem.W.mcComb a b)) H
theorem cr_comb : CallR X (.builtin "math.comb") rComb := by
  intro pins s σ H vs us Q I r h
  obtain ⟨a, b, rfl, ha, hb, hk, q⟩ := h
  obtain ⟨t, u, rfl⟩ := Vals.int2 r
  exact PySem.W.mc_comb ha hb (by omega) (.inr hk) fun _ => ⟨.int _, H, I.tok _, ⟨_, rfl⟩, q⟩
end
end Lk

set_option Elab.async false
set_option linter.all false
set_option maxRecDepth 100000
set_option maxHeartbeats 4000000
set_option exponentiation.threshold 10000
namespace Lk
open PySem L2 Vx
/-! ratio_of and the methods of a ratio, where the other one is none -/
/-- an own error without an __init__ of its own, over ValueError -/
structure Pln (K : PySem.W.Frag) (mg : Str → Option Value) (x : Str) (C : Addr) : Prop where
  gP : mg x = some (.ref C)
  xP : PySem.W.excIn K C [.type "ValueError", .type "Exception", .type "BaseException", .type "object"] "ValueError.__new__" = true
  kP : PySem.W.keepIn K (.ref C) = true
  bP : PySem.W.subIn K (.ref C) (.type "BaseException") = some true
  tP : PySem.W.typeIn K (.ref C) = some (.type "type")
section
variable {X : Cx} {x m : Str} {CP : Addr} {W : WX} {j : Nat} {p p2 pos pos2 : Pos}
/-- raise X("..") -/
theorem ps_raiseP (hc : X.calm = true) (T : Pln X.K X.mg x CP) (tk : Takes X W) (hg : Gl X x := by rfl) (hdb : (x == ("__debug__" : Str)) = false := by decide) :
    PS X (.Raise (some (.Call (.Name x p) [.Constant (.str m) j p2] [] pos)) none pos2) (fun _ σ H => W (.ref CP) none σ H) :=
  ps_raise hc tk (pmk_own PySem.F.excBase_ValueError T.xP T.gP T.kP (raises_own T.bP T.tP) hg hdb)
end
/-- no ratio: its kind, and whether it is a short integer -/
def NoR (K : PySem.W.Frag) (C : Addr) (H : Hp) (y : V) (b : Bool) : Prop := ∃ t, TyX K H y t ∧ PySem.W.kitOne K t (.ref C) = some false ∧ Kd K H y b
section
variable {P : Program} {w : World} {K : PySem.W.Frag} {mg : Str → Option Value} {base : Heap} {C CE fE CR CO : Addr} {B newId : String} {bm : List Value}
/-- Ratio(..) as its callers have it -/
def HRatioK (P : Program) (w : World) (K : PySem.W.Frag) (mg : Str → Option Value) (base : Heap) (C CE : Addr) : Prop :=
  ∃ f fd, FnOk P w K mg base (L2.CX P w) 3 f fd ["self", "top", "bottom"] (spInitK K C CE) ∧ Mk K C f ∧ Binds K fd ["self", "top", "bottom"] [] ∧
    ∃ ds, Vals [V.int 1] ds ∧ Binds K fd ["self", "top", "bottom"] ds
def spOfK (K : PySem.W.Frag) (C CR : Addr) : Sp := fun vs H Q E => ∃ y : V, vs = [y] ∧
  ((∃ (q : Addr) (t b : Int), y = .ref q ∧ RatAt C H q t b ∧ Q (.ref q) H) ∨
   (∃ i : Int, y = .int i ∧ -LONG < i ∧ i < LONG ∧ ∀ (H' : Hp) (q : Addr), Same H H' → RatAt C H' q i 1 → Q (.ref q) H') ∨
   (NoR K C H y false ∧ E (.ref CR) none H))
theorem ok_ofK {f : Addr} {fd : FuncData} (F : Fun K "ratio_of" "ratio_of" sOf f fd) (G : Gn K mg C) (T : Pln K mg "InvalidRatio" CR) (S : HShK P w K mg base) (R : HRatioK P w K mg base C CE) :
    FnOk P w K mg base (L2.CX P w) 5 f fd ["value"] (spOfK K C CR) := by
  obtain ⟨fS, dS, GS, mS, kS, bS⟩ := S
  obtain ⟨fI, dI, GI, M, _, ds, vd, bD⟩ := R
  refine F.okX scOf (fun vs H Q E h => ?_) (fun cdv A outer s H vs Q E hr h => ?_)
  · obtain ⟨y, rfl, _⟩ := h
    rfl
  · obtain ⟨y, rfl, k⟩ := h
    refine ⟨_, pss_cons (ps_if (pt_val (pe_callB call_isi (by rfl) G.isi (by decide +kernel) (pa_cons (pv 0) (pa_cons (pe_glob rfl G.mgC (show RelV (.ref C) (.ref C) from rfl)) pa_nil)))) (pss_one (ps_ret (pv 0))) pss_nil)
      (pss_cons (ps_if (pt_not (pt_val (pe_call GS (hr.mono (by decide)) rfl mS kS bS .nil pass0 (pa_cons (pv 0) pa_nil)))) (pss_one (ps_raiseP rfl T (takes_of rfl rfl rfl rfl))) pss_nil)
      (pss_one (ps_ret (pe_make M GI hr rfl G.mgC bD vd passL (pa_cons (pv 0) pa_nil))))), ?_⟩
    rcases k with ⟨q, t, b, rfl, ⟨dx, hq⟩, k⟩ | ⟨i, rfl, i1, i2, k⟩ | ⟨⟨t, ty, no, kd⟩, k⟩
    · refine ⟨_, rfl, _, _, _, _, true, rfl, .own C, .base (.ins hq G.cl G.ca G.cn G.ct G.mo), (by unfold PySem.W.kitOne; simp), _, rfl, itT rfl ?_⟩
      exact ⟨_, rfl, k⟩
    · refine ⟨_, rfl, _, _, _, _, false, rfl, .own C, .base (.int i), G.ki, _, rfl, itF rfl ?_⟩
      have kd : Kd K H (.int i) true := by
        have := Kd.int (K := K) (H := H) i
        rw [both i1 i2] at this
        exact this
      refine ⟨_, rfl, _, _, rfl, kd, _, rfl, itF rfl ?_⟩
      refine ⟨_, rfl, fun x dx nx nd ne => ?_⟩
      refine ⟨x, dx, .int i, .int 1, true, true, rfl, upd_same, kd.same, Kd.int 1, (fun z => nomatch z), (fun _ z => nomatch z), fun t b et eb _ _ => ?_⟩
      cases et; cases eb
      refine ⟨(fun z => nomatch z), fun _ H' bu hx => ⟨rfl, ?_⟩⟩
      have e := low_int i
      rw [e.1, e.2] at hx
      refine k H' x (fun a o z => ?_) ⟨dx, hx⟩
      have nax := ne_of_none z nx
      refine bu a o nax ?_
      rw [upd_ne nax, upd_ne (ne_of_none z nd)]
      exact z
    · refine ⟨_, rfl, _, _, _, _, false, rfl, .own C, ty, no, _, rfl, itF rfl ?_⟩
      exact ⟨_, rfl, y, false, rfl, kd, _, rfl, itT rfl k⟩
def HOfK (P : Program) (w : World) (K : PySem.W.Frag) (mg : Str → Option Value) (base : Heap) (C CR : Addr) : Prop :=
  ∃ f fd, FnOk P w K mg base (L2.CX P w) 5 f fd ["value"] (spOfK K C CR) ∧ mg "ratio_of" = some (.ref f) ∧ PySem.W.keepIn K (.ref f) = true ∧ Binds K fd ["value"] []
end
end Lk

set_option Elab.async false
set_option linter.all false
set_option maxRecDepth 100000
set_option maxHeartbeats 4000000
set_option exponentiation.threshold 10000
namespace Lk
open PySem L2 Vx
section
variable {P : Program} {w : World} {K : PySem.W.Frag} {mg : Str → Option Value} {base : Heap} {C CE fE CR CO : Addr} {B newId : String} {bm : List Value}
/-- a method whose other one is no ratio and no short integer -/
def spBad (K : PySem.W.Frag) (C CR : Addr) : Sp := fun vs H Q E => ∃ (p : Addr) (y : V), vs = [.ref p, y] ∧ NoR K C H y false ∧ E (.ref CR) none H
theorem ok_plusB {f : Addr} {fd : FuncData} (F : Fun K "plus" "Ratio.plus" (sIn 5) f fd) (O : HOfK P w K mg base C CR) : FnOk P w K mg base (L2.CX P w) 6 f fd ["self", "other"] (spBad K C CR) := by
  obtain ⟨fO, dO, GO, mO, kO, bO⟩ := O
  refine F.okX scPlus (fun vs H Q E h => ?_) (fun cdv A outer s H vs Q E hr h => ?_)
  · obtain ⟨p, y, rfl, _⟩ := h
    rfl
  · obtain ⟨p, y, rfl, hy, k⟩ := h
    refine ⟨_, pss_cons (ps_set (i := 2) scPlus.nd rfl (.inl rfl) (pe_call GO hr rfl mO kO bO .nil (passes_call (takes_of rfl rfl rfl rfl) (fun _ _ _ _ h => h)) (pa_cons (pv 1) pa_nil))) pss_never, ?_⟩
    exact ⟨_, rfl, y, rfl, .inr (.inr ⟨hy, k⟩)⟩
theorem ok_minusB {f : Addr} {fd : FuncData} (F : Fun K "minus" "Ratio.minus" (sIn 6) f fd) (O : HOfK P w K mg base C CR) : FnOk P w K mg base (L2.CX P w) 6 f fd ["self", "other"] (spBad K C CR) := by
  obtain ⟨fO, dO, GO, mO, kO, bO⟩ := O
  refine F.okX scMinus (fun vs H Q E h => ?_) (fun cdv A outer s H vs Q E hr h => ?_)
  · obtain ⟨p, y, rfl, _⟩ := h
    rfl
  · obtain ⟨p, y, rfl, hy, k⟩ := h
    refine ⟨_, pss_cons (ps_set (i := 2) scMinus.nd rfl (.inl rfl) (pe_call GO hr rfl mO kO bO .nil (passes_call (takes_of rfl rfl rfl rfl) (fun _ _ _ _ h => h)) (pa_cons (pv 1) pa_nil))) pss_never, ?_⟩
    exact ⟨_, rfl, y, rfl, .inr (.inr ⟨hy, k⟩)⟩
theorem ok_timesB {f : Addr} {fd : FuncData} (F : Fun K "times" "Ratio.times" (sIn 7) f fd) (O : HOfK P w K mg base C CR) : FnOk P w K mg base (L2.CX P w) 6 f fd ["self", "other"] (spBad K C CR) := by
  obtain ⟨fO, dO, GO, mO, kO, bO⟩ := O
  refine F.okX scTimes (fun vs H Q E h => ?_) (fun cdv A outer s H vs Q E hr h => ?_)
  · obtain ⟨p, y, rfl, _⟩ := h
    rfl
  · obtain ⟨p, y, rfl, hy, k⟩ := h
    refine ⟨_, pss_cons (ps_set (i := 2) scTimes.nd rfl (.inl rfl) (pe_call GO hr rfl mO kO bO .nil (passes_call (takes_of rfl rfl rfl rfl) (fun _ _ _ _ h => h)) (pa_cons (pv 1) pa_nil))) pss_never, ?_⟩
    exact ⟨_, rfl, y, rfl, .inr (.inr ⟨hy, k⟩)⟩
theorem scCmpB : FnScope ["self", "other", "against"] ["self", "other"] (defScope (sIn 10)) := ⟨rfl, rfl, rfl, by decide +kernel, rfl, by decide +kernel, by decide +kernel⟩
theorem ok_cmpB {f : Addr} {fd : FuncData} (F : Fun K "compared" "Ratio.compared" (sIn 10) f fd) (O : HOfK P w K mg base C CR) : FnOk P w K mg base (L2.CX P w) 6 f fd ["self", "other"] (spBad K C CR) := by
  obtain ⟨fO, dO, GO, mO, kO, bO⟩ := O
  refine F.okX scCmpB (fun vs H Q E h => ?_) (fun cdv A outer s H vs Q E hr h => ?_)
  · obtain ⟨p, y, rfl, _⟩ := h
    rfl
  · obtain ⟨p, y, rfl, hy, k⟩ := h
    refine ⟨_, pss_cons (ps_set (i := 2) scCmpB.nd rfl (.inl rfl) (pe_call GO hr rfl mO kO bO .nil (passes_call (takes_of rfl rfl rfl rfl) (fun _ _ _ _ h => h)) (pa_cons (pv 1) pa_nil))) pss_never, ?_⟩
    exact ⟨_, rfl, y, rfl, .inr (.inr ⟨hy, k⟩)⟩
/-- over: what is none, and what is 0 -/
def spOverB (K : PySem.W.Frag) (C CR CO : Addr) : Sp := fun vs H Q E => ∃ (p : Addr) (y : V), vs = [.ref p, y] ∧
  ((NoR K C H y false ∧ E (.ref CR) none H) ∨ ((y = .int 0 ∨ ∃ q b, y = .ref q ∧ RatAt C H q 0 b) ∧ ∀ H', Same H H' → E (.ref CO) none H'))
theorem ok_overB {f : Addr} {fd : FuncData} (F : Fun K "over" "Ratio.over" (sIn 8) f fd) (G : Gn K mg C) (T : Pln K mg "InvalidOperation" CO) (O : HOfK P w K mg base C CR) (Tp : HasP P w K mg base C "top" 1 (spTop C)) :
    FnOk P w K mg base (L2.CX P w) 6 f fd ["self", "other"] (spOverB K C CR CO) := by
  obtain ⟨fO, dO, GO, mO, kO, bO⟩ := O
  obtain ⟨p1, g1, d1, pT, GT, bT⟩ := Tp
  refine F.okX scOver (fun vs H Q E h => ?_) (fun cdv A outer s H vs Q E hr h => ?_)
  · obtain ⟨p, y, rfl, _⟩ := h
    rfl
  · obtain ⟨p, y, rfl, k⟩ := h
    refine ⟨_, pss_cons (ps_set (i := 2) scOver.nd rfl (.inl rfl) (pe_call GO hr rfl mO kO bO .nil (passes_call (takes_of rfl rfl rfl rfl) (fun _ _ _ _ h => h)) (pa_cons (pv 1) pa_nil)))
      (pss_cons (ps_if (pt_cmpR op_eq (pe_prop (pv 2) G.cl pT GT (hr.mono (by decide)) bT .nil pass0 rfl) pe_int (nomark _)) (pss_one (ps_raiseP rfl T (takes_of rfl rfl rfl rfl))) pss_nil) pss_never), ?_⟩
    rcases k with ⟨hy, k⟩ | ⟨rfl | ⟨q, b, rfl, dx, hq⟩, k⟩
    · exact ⟨_, rfl, y, rfl, .inr (.inr ⟨hy, k⟩)⟩
    · refine ⟨_, rfl, _, rfl, .inr (.inl ⟨0, rfl, by decide, by decide, fun H1 q s1 ⟨dx, hq⟩ => ?_⟩)⟩
      exact ⟨_, rfl, q, dx, _, rfl, hq, q, dx, _, _, rfl, hq, rf_t _ _, rfl, _, rfl, itT rfl (k _ s1)⟩
    · refine ⟨_, rfl, _, rfl, .inl ⟨q, 0, b, rfl, ⟨dx, hq⟩, ?_⟩⟩
      exact ⟨_, rfl, q, dx, _, rfl, hq, q, dx, _, _, rfl, hq, rf_t _ _, rfl, _, rfl, itT rfl (k _ (same_refl H))⟩
end
end Lk

set_option Elab.async false
set_option linter.all false
set_option maxRecDepth 100000
set_option maxHeartbeats 4000000
set_option exponentiation.threshold 10000
namespace Lk
open PySem L2 Vx
/-! numbers: counts checked, binomials -/
section
variable {P : Program} {w : World} {K : PySem.W.Frag} {mg : Str → Option Value} {base : Heap} {C CE fE CT fT : Addr} {B newId B2 newId2 : String} {bm bm2 : List Value}
abbrev sIsI : Stmt := top 25
abbrev sChk : Stmt := top 28
abbrev sBin : Stmt := top 34
abbrev sFct : Stmt := top 37
theorem scIsI : FnScope ["value"] ["value"] (defScope sIsI) := ⟨rfl, rfl, rfl, by decide +kernel, rfl, by decide +kernel, by decide +kernel⟩
theorem ok_isI {f : Addr} {fd : FuncData} (F : Fun K "is_integer" "is_integer" sIsI f fd) (S : HShK P w K mg base) : FnOk P w K mg base CX0 2 f fd ["value"] (spShortK K) := by
  obtain ⟨fS, dS, GS, mS, kS, bS⟩ := S
  refine F.ok scIsI (fun vs H Q E h => ?_) (fun cdv A outer s H vs Q E hr h => ?_)
  · obtain ⟨y, b, rfl, _⟩ := h
    rfl
  · obtain ⟨y, b, rfl, kd, k⟩ := h
    refine ⟨_, pss_one (ps_ret (pe_call GS hr rfl mS kS bS .nil pass0 (pa_cons (pv 0) pa_nil))), ?_⟩
    exact ⟨_, rfl, y, b, rfl, kd, k⟩
abbrev HIsI (P : Program) (w : World) (K : PySem.W.Frag) (mg : Str → Option Value) (base : Heap) : Prop := Has P w K mg base "is_integer" 2 ["value"] (spShortK K)
/-- a count: short and within its bounds, or refused -/
def spChk (K : PySem.W.Frag) (CE : Addr) : Sp := fun vs H Q E => ∃ (y : V) (b : Bool) (lo hi : Int), vs = [y, .int lo, .int hi] ∧ Kd K H y b ∧
  (b = false → Ref CE "value" H E y) ∧ ∀ i : Int, y = .int i → b = true → (i < lo ∨ hi < i → Ref CE "value" H E y) ∧ (lo ≤ i → i ≤ hi → Q .non H)
theorem scChk : FnScope ["value", "low", "high"] ["value", "low", "high"] (defScope sChk) := ⟨rfl, rfl, rfl, by decide +kernel, rfl, by decide +kernel, by decide +kernel⟩
theorem ok_chk {f : Addr} {fd : FuncData} (F : Fun K "check_count" "check_count" sChk f fd) (T : ECls K mg "InvalidCount" "value" B newId bm CE fE) (S : HIsI P w K mg base) :
    FnOk P w K mg base (L2.CX P w) 4 f fd ["value", "low", "high"] (spChk K CE) := by
  obtain ⟨fS, dS, GS, mS, kS, bS⟩ := S
  refine F.okX scChk (fun vs H Q E h => ?_) (fun cdv A outer s H vs Q E hr h => ?_)
  · obtain ⟨y, b, lo, hi, rfl, _⟩ := h
    rfl
  · obtain ⟨y, b, lo, hi, rfl, kd, r1, r2⟩ := h
    refine ⟨_, pss_one (ps_if (PW.pt (pw_or (pt_not (pt_val (pe_call GS (hr.mono (by decide)) rfl mS kS bS .nil pass0 (pa_cons (pv 0) pa_nil)))) (pw_or (pt_cmpR op_lt (pv 0) (pv 1) (nomark _)) (pw_or1 (pt_cmpR op_gt (pv 0) (pv 2) (nomark _))))))
      (pss_one (ps_raiseE rfl T hr (takes_of rfl rfl rfl rfl) (pv 0))) pss_nil), ?_⟩
    cases b with
    | false => exact ⟨_, rfl, y, false, rfl, kd, _, rfl, itT rfl (itT rfl ⟨_, rfl, fun d hd => r1 rfl _ d (same_new hd) hd upd_same⟩)⟩
    | true =>
      obtain ⟨i, rfl, _, _⟩ := kd.short
      obtain ⟨q1, q2⟩ := r2 i rfl rfl
      refine ⟨_, rfl, _, true, rfl, kd, _, rfl, itF rfl ?_⟩
      refine ⟨_, rfl, _, rfl, _, _, rfl, rfl, _, rfl, ?_⟩
      by_cases c : i < lo
      · exact itT (decide_eq_true c) (itT rfl ⟨_, rfl, fun d hd => q1 (.inl c) _ d (same_new hd) hd upd_same⟩)
      · refine itF (decide_eq_false c) ?_
        refine ⟨_, rfl, _, rfl, _, _, rfl, rfl, _, rfl, ?_⟩
        by_cases c2 : hi < i
        · exact itT (decide_eq_true c2) ⟨_, rfl, fun d hd => q1 (.inr c2) _ d (same_new hd) hd upd_same⟩
        · exact itF (decide_eq_false c2) (q2 (by omega) (by omega))
def HChk (P : Program) (w : World) (K : PySem.W.Frag) (mg : Str → Option Value) (base : Heap) (CE : Addr) : Prop :=
  ∃ f fd, FnOk P w K mg base (L2.CX P w) 4 f fd ["value", "low", "high"] (spChk K CE) ∧ mg "check_count" = some (.ref f) ∧ PySem.W.keepIn K (.ref f) = true ∧ Binds K fd ["value", "low", "high"] []
/-- binomial(top, low) -/
def spBin (K : PySem.W.Frag) (CE : Addr) : Sp := fun vs H Q E => ∃ (y z : V) (b1 b2 : Bool), vs = [y, z] ∧ Kd K H y b1 ∧ Kd K H z b2 ∧
  ((b1 = false ∨ ∃ i, y = .int i ∧ (i < 0 ∨ 1000 < i)) → Ref CE "value" H E y) ∧
  (∀ i, b1 = true → y = .int i → 0 ≤ i → i ≤ 1000 → ((b2 = false ∨ ∃ j, z = .int j ∧ (j < 0 ∨ 1000 < j)) → Ref CE "value" H E z) ∧ ∀ j, b2 = true → z = .int j → 0 ≤ j → j ≤ 1000 → Q (.int (PySem.W.mcComb i j)) H)
theorem scBin : FnScope ["top", "low"] ["top", "low"] (defScope sBin) := ⟨rfl, rfl, rfl, by decide +kernel, rfl, by decide +kernel, by decide +kernel⟩
theorem ok_bin {f : Addr} {fd : FuncData} (F : Fun K "binomial" "binomial" sBin f fd) (S : HChk P w K mg base CE) (mC : mg "comb" = some (.builtin "math.comb")) (mM : ∃ t, mg "MAX_CHOSEN" = some (.int 1000 t)) :
    FnOk P w K mg base (L2.CX P w) 5 f fd ["top", "low"] (spBin K CE) := by
  obtain ⟨fS, dS, GS, mS, kS, bS⟩ := S
  obtain ⟨tk, hM⟩ := mM
  refine F.okX scBin (fun vs H Q E h => ?_) (fun cdv A outer s H vs Q E hr h => ?_)
  · obtain ⟨y, z, b1, b2, rfl, _⟩ := h
    rfl
  · obtain ⟨y, z, b1, b2, rfl, k1, k2, r1, r2⟩ := h
    refine ⟨_, pss_cons (ps_expr (pe_call GS hr rfl mS kS bS .nil (passes_call (takes_of rfl rfl rfl rfl) (fun _ _ _ _ h => h)) (pa_cons (pv 0) (pa_cons pe_int (pa_cons (pe_glob rfl hM (show RelV (.int 1000) (.int 1000 tk) from ⟨_, rfl⟩)) pa_nil)))))
      (pss_cons (ps_expr (pe_call GS hr rfl mS kS bS .nil (passes_call (takes_of rfl rfl rfl rfl) (fun _ _ _ _ h => h)) (pa_cons (pv 1) (pa_cons pe_int (pa_cons (pe_glob rfl hM (show RelV (.int 1000) (.int 1000 tk) from ⟨_, rfl⟩)) pa_nil)))))
      (pss_one (ps_ret (pe_callBfun cr_comb rfl mC (pa_cons (pv 0) (pa_cons (pv 1) pa_nil)))))), ?_⟩
    refine ⟨_, rfl, y, b1, 0, 1000, rfl, k1, fun z => r1 (.inl z), fun i ei eb => ⟨fun o => r1 (.inr ⟨i, ei, o⟩), fun i0 i1 => ?_⟩⟩
    obtain ⟨q1, q2⟩ := r2 i eb ei i0 i1
    refine ⟨_, rfl, z, b2, 0, 1000, rfl, k2, fun z => q1 (.inl z), fun j ej eb2 => ⟨fun o => q1 (.inr ⟨j, ej, o⟩), fun j0 j1 => ?_⟩⟩
    subst ei ej
    exact ⟨_, rfl, _, rfl, i, j, rfl, i0, j0, by omega, q2 j eb2 rfl j0 j1⟩
/-- what may be factored -/
def spFct (K : PySem.W.Frag) (CE CT : Addr) : Sp := fun vs H Q E => ∃ (y : V) (b : Bool), vs = [y] ∧ Kd K H y b ∧ (b = false → Ref CE "value" H E y) ∧
  ∀ i : Int, y = .int i → b = true → (i < 1 → Ref CE "value" H E y) ∧ (1000000000 < i → Ref CT "limit" H E (.int 1000000000)) ∧ (1 ≤ i → i ≤ 1000000000 → Q .non H)
theorem scFct : FnScope ["number"] ["number"] (defScope sFct) := ⟨rfl, rfl, rfl, by decide +kernel, rfl, by decide +kernel, by decide +kernel⟩
theorem ok_fct {f : Addr} {fd : FuncData} (F : Fun K "_check_factored" "_check_factored" sFct f fd) (T : ECls K mg "InvalidCount" "value" B newId bm CE fE) (T2 : ECls K mg "TooMany" "limit" B2 newId2 bm2 CT fT) (S : HIsI P w K mg base)
    (mM : ∃ t, mg "MAX_FACTORED" = some (.int 1000000000 t)) : FnOk P w K mg base (L2.CX P w) 4 f fd ["number"] (spFct K CE CT) := by
  obtain ⟨fS, dS, GS, mS, kS, bS⟩ := S
  obtain ⟨tk, hM⟩ := mM
  refine F.okX scFct (fun vs H Q E h => ?_) (fun cdv A outer s H vs Q E hr h => ?_)
  · obtain ⟨y, b, rfl, _⟩ := h
    rfl
  · obtain ⟨y, b, rfl, kd, r1, r2⟩ := h
    refine ⟨_, pss_cons (ps_if (PW.pt (pw_or (pt_not (pt_val (pe_call GS (hr.mono (by decide)) rfl mS kS bS .nil pass0 (pa_cons (pv 0) pa_nil)))) (pw_or1 (pt_cmpR op_lt (pv 0) pe_int (nomark _))))) (pss_one (ps_raiseE rfl T hr (takes_of rfl rfl rfl rfl) (pv 0))) pss_nil)
      (pss_one (ps_if (pt_cmpR op_gt (pv 0) (pe_glob rfl hM (show RelV (.int 1000000000) (.int 1000000000 tk) from ⟨_, rfl⟩)) (nomark _)) (pss_one (ps_raiseE rfl T2 hr (takes_of rfl rfl rfl rfl) (pe_glob rfl hM (show RelV (.int 1000000000) (.int 1000000000 tk) from ⟨_, rfl⟩)))) pss_nil)), ?_⟩
    cases b with
    | false => exact ⟨_, rfl, y, false, rfl, kd, _, rfl, itT rfl (itT rfl ⟨_, rfl, fun d hd => r1 rfl _ d (same_new hd) hd upd_same⟩)⟩
    | true =>
      obtain ⟨i, rfl, _, _⟩ := kd.short
      obtain ⟨q1, q2, q3⟩ := r2 i rfl rfl
      refine ⟨_, rfl, _, true, rfl, kd, _, rfl, itF rfl ?_⟩
      refine ⟨_, rfl, _, _, rfl, rfl, _, rfl, ?_⟩
      by_cases c : i < 1
      · exact itT (decide_eq_true c) ⟨_, rfl, fun d hd => q1 c _ d (same_new hd) hd upd_same⟩
      · refine itF (decide_eq_false c) ?_
        refine ⟨_, rfl, _, _, rfl, rfl, _, rfl, ?_⟩
        by_cases c2 : 1000000000 < i
        · exact itT (decide_eq_true c2) (fun d hd => q2 c2 _ d (same_new hd) hd upd_same)
        · exact itF (decide_eq_false c2) (q3 (by omega) (by omega))
end
end Lk

set_option Elab.async false
set_option linter.all false
set_option maxRecDepth 100000
set_option maxHeartbeats 4000000
set_option exponentiation.threshold 10000
namespace Lk
open PySem L2 Vx
/-! how often a prime divides -/
theorem pow_dvd_step {p r n : Int} {t : Nat} (h : r * p ^ t = n) (d : r % p = 0) (p0 : p ≠ 0) : r / p * p ^ (t + 1) = n := by
  have e : r / p * p = r := Int.ediv_mul_cancel (Int.dvd_of_emod_eq_zero d)
  rw [Int.pow_succ, Int.mul_comm (p ^ t) p, ← Int.mul_assoc, e, h]
theorem pow_dvd_end {p r n : Int} {t : Nat} (h : r * p ^ t = n) (d : r % p ≠ 0) (p0 : p ≠ 0) : p ^ t ∣ n ∧ ¬ p ^ (t + 1) ∣ n := by
  refine ⟨⟨r, by rw [← h, Int.mul_comm]⟩, fun ⟨c, hc⟩ => d ?_⟩
  have hp : p ^ t ≠ 0 := Int.pow_ne_zero p0
  have e : r * p ^ t = c * p * p ^ t := by
    rw [h, hc, Int.pow_succ, Int.mul_comm (p ^ t) p, Int.mul_comm (p * p ^ t) c, Int.mul_assoc]
  rw [Int.mul_eq_mul_right_iff hp |>.mp e]
  exact Int.mul_emod_left c p
theorem abs_div_lt {r p : Int} (h : 2 ≤ p) (r0 : r ≠ 0) (d : r % p = 0) : (r / p).natAbs < r.natAbs := by
  have e : r / p * p = r := Int.ediv_mul_cancel (Int.dvd_of_emod_eq_zero d)
  have e2 : (r / p).natAbs * p.natAbs = r.natAbs := by rw [← Int.natAbs_mul, e]
  have p2 : 2 ≤ p.natAbs := by omega
  have q0 : 0 < (r / p).natAbs := by
    rcases Nat.eq_zero_or_pos (r / p).natAbs with z | z
    · rw [z, Nat.zero_mul] at e2; omega
    · exact z
  have : (r / p).natAbs * 2 ≤ (r / p).natAbs * p.natAbs := Nat.mul_le_mul_left _ p2
  omega
section
variable {P : Program} {w : World} {K : PySem.W.Frag} {mg : Str → Option Value} {base : Heap}
abbrev sTd : Stmt := top 39
/-- the greatest power that divides: its exponent -/
def spTd : Sp := fun vs H Q _ => ∃ p n : Int, vs = [.int p, .int n] ∧ 2 ≤ p ∧ p.natAbs < 2 ^ 200 ∧ n ≠ 0 ∧ ∀ t : Nat, p ^ t ∣ n → ¬ p ^ (t + 1) ∣ n → Q (.int t) H
theorem scTd : FnScope ["prime", "number", "times", "rest"] ["prime", "number"] (defScope sTd) := ⟨rfl, rfl, rfl, by decide +kernel, rfl, by decide +kernel, by decide +kernel⟩
theorem ok_td {f : Addr} {fd : FuncData} (F : Fun K "_times_divided" "_times_divided" sTd f fd) : FnOk P w K mg base CX0 1 f fd ["prime", "number"] spTd := by
  refine F.ok scTd (fun vs H Q E h => ?_) (fun cdv A outer s H vs Q E hr h => ?_)
  · obtain ⟨p, n, rfl, _⟩ := h
    rfl
  · obtain ⟨p, n, rfl, p2, pb, n0, k⟩ := h
    refine ⟨_, pss_cons (ps_par (i := 2) (j := 3) (by rfl) scTd.nd rfl rfl (by decide) rfl rfl (pa_cons pe_int (pa_cons (pv 1) pa_nil)) (by rfl))
      (pss_cons (ps_while PassesOwn.never (pt_cmpR op_eq (pe_op op_mod (pv 3) (pv 0)) pe_int (nomark _))
        (pss_cons (ps_set (i := 3) scTd.nd rfl (.inl rfl) (pe_op op_fdivW (pv 3) (pv 0))) (pss_one (ps_aug (i := 2) scTd.nd rfl (.inl rfl) pe_int ip_add (.inl rfl)))))
      (pss_one (ps_ret (pv 2)))), ?_⟩
    refine ⟨_, rfl, _, _, rfl, ?_⟩
    refine while_by (fun σ H' => H' = H ∧ ∃ (t : Nat) (r : Int), σ = [some (.int p), some (.int n), some (.int t), some (.int r)] ∧ r ≠ 0 ∧ r * p ^ t = n)
      (fun σ _ => match σ with | [_, _, _, some (.int r)] => r.natAbs | _ => 0) ?_ ?_ ?_
    · exact ⟨rfl, 0, n, rfl, n0, by simp⟩
    · rintro σ H' ⟨rfl, t, r, rfl, r0, e⟩
      refine ⟨_, rfl, _, rfl, r, p, rfl, rfl, (by show 0 < p; omega), rfl, _, rfl, ?_⟩
      by_cases c : r % p = 0
      · refine itT (decide_eq_true (show V.int (r % p) = V.int 0 by rw [c])) ?_
        refine ⟨_, rfl, _, rfl, r, p, rfl, rfl, wide_div (by omega) pb (by decide) (by decide), ?_⟩
        refine ⟨_, rfl, _, _, rfl, rfl, ⟨rfl, t + 1, r / p, rfl, ?_, pow_dvd_step e c (by omega)⟩, ?_⟩
        · intro z
          have := Int.ediv_mul_cancel (Int.dvd_of_emod_eq_zero c)
          rw [z, Int.zero_mul] at this
          exact r0 this.symm
        · exact abs_div_lt p2 r0 c
      · refine itF (decide_eq_false (fun z => c (V.int.inj z))) ?_
        obtain ⟨a1, a2⟩ := pow_dvd_end e c (by omega)
        exact ⟨_, rfl, k t a1 a2⟩
    · rintro σ H' Q1 Q2 hq ⟨v, e1, v2, e2, i, j, a1, a2, a3, a4, q⟩
      obtain ⟨b', e3, q2⟩ := q
      exact ⟨v, e1, v2, e2, i, j, a1, a2, a3, a4, b', e3, hq _ _ q2⟩
end
end Lk

set_option Elab.async false
set_option linter.all false
set_option maxRecDepth 100000
set_option maxHeartbeats 4000000
set_option exponentiation.threshold 10000
namespace Lk
open PySem L2 Vx
/-! the least factor from a start on -/
def lfS (n lo : Int) (k : Nat) : Int := match (List.range k).find? (fun i => decide (n % (lo + (i : Nat) * 2) = 0)) with | some i => lo + (i : Nat) * 2 | none => n
def rt (n : Int) : Int := ((Float64.isqrt n.toNat : Nat) : Int) + 1
def lf (n s : Int) : Int := if s = 2 ∧ n % 2 = 0 then 2 else lfS n (Builtin.bitOr s 1) (Builtin.Range.rangeSize (Builtin.bitOr s 1) (rt n) 2).toNat
theorem find_at {p : Nat → Bool} {k i : Nat} (hi : i < k) (hp : p i = true) (no : ∀ j, j < i → p j = false) : (List.range k).find? p = some i := by
  rw [List.find?_range_eq_some]
  exact ⟨hp, List.mem_range.mpr hi, fun j hj => by rw [no j hj]; rfl⟩
theorem find_no {p : Nat → Bool} {k : Nat} (no : ∀ j, j < k → p j = false) : (List.range k).find? p = none := by
  rw [List.find?_range_eq_none]
  exact fun j hj => by rw [no j hj]; rfl
theorem or_lt {s : Int} (h0 : 0 ≤ s) (h1 : s < 2 ^ 40) : 0 ≤ Builtin.bitOr s 1 ∧ Builtin.bitOr s 1 < 2 ^ 40 := by
  rw [bitOr_nn h0 (by decide)]
  have h2 : s.toNat < 2 ^ 40 := by omega
  have h3 := Nat.or_lt_two_pow h2 (show (1 : Int).toNat < 2 ^ 40 by decide)
  constructor
  · exact Int.natCast_nonneg _
  · have e : ((2 : Int) ^ 40) = ((2 ^ 40 : Nat) : Int) := by decide
    rw [e]
    exact Int.ofNat_lt.mpr h3
theorem or_ge {s : Int} (h0 : 0 ≤ s) : 1 ≤ Builtin.bitOr s 1 := by
  rw [bitOr_nn h0 (by decide)]
  have : 1 ≤ s.toNat ||| (1 : Int).toNat := Nat.right_le_or
  omega
theorem small2 {a b : Int} (ha : -(2 ^ 62) ≤ a) (ha2 : a < 2 ^ 62) (hb : -(2 ^ 62) ≤ b) (hb2 : b < 2 ^ 62) : Builtin.Range.small a b 2 = true := by
  unfold Builtin.Range.small Builtin.Range.rangeSize
  simp only [Builtin.Range.rangeFitsLong, Bool.and_eq_true, Bool.or_eq_true, decide_eq_true_eq, beq_iff_eq, show (2 : Int) > 0 by decide, if_true]
  split <;> omega
theorem rt_lt {n : Int} (h0 : 0 ≤ n) (h1 : n < 2 ^ 40) : 0 ≤ rt n ∧ rt n < 2 ^ 41 := by
  unfold rt
  have : Float64.isqrt n.toNat ≤ n.toNat := by
    have q := (PySem.Float64.isqrt_spec n.toNat).1
    rcases Nat.eq_zero_or_pos (Float64.isqrt n.toNat) with z | z
    · omega
    · exact Nat.le_trans (Nat.le_mul_of_pos_left _ z) q
  omega
section
variable {P : Program} {w : World} {K : PySem.W.Frag} {mg : Str → Option Value} {base : Heap}
abbrev sLf : Stmt := top 38
def spLf : Sp := fun vs H Q _ => ∃ n s : Int, vs = [.int n, .int s] ∧ 2 ≤ n ∧ n < 2 ^ 40 ∧ 2 ≤ s ∧ s < 2 ^ 40 ∧ Q (.int (lf n s)) H
theorem scLf : FnScope ["number", "start", "factor"] ["number", "start"] (defScope sLf) := ⟨rfl, rfl, rfl, by decide +kernel, rfl, by decide +kernel, by decide +kernel⟩
theorem ok_lf {f : Addr} {fd : FuncData} (F : Fun K "_least_factor" "_least_factor" sLf f fd) (mI : mg "isqrt" = some (.builtin "math.isqrt")) (mR : mg "range" = none) : FnOk P w K mg base CX0 1 f fd ["number", "start"] spLf := by
  refine F.ok scLf (fun vs H Q E h => ?_) (fun cdv A outer s H vs Q E hr h => ?_)
  · obtain ⟨n, st, rfl, _⟩ := h
    rfl
  · obtain ⟨n, st, rfl, n2, n3, s2, s3, k⟩ := h
    refine ⟨_, pss_cons (ps_if (PW.pt (pw_and (pt_cmpR op_eq (pv 1) pe_int (nomark _)) (pw_and1 (pt_cmpR op_eq (pe_op op_mod (pv 0) pe_int) pe_int (nomark _))))) (pss_one (ps_ret pe_int)) pss_nil)
      (pss_cons (ps_for PassesOwn.never rfl (pi_range3 rfl mR (pa_cons (pe_op op_or (pv 1) pe_int) (pa_cons (pe_op op_add (pe_callBfun cr_isqrt rfl mI (pa_cons (pv 0) pa_nil)) pe_int) (pa_cons pe_int pa_nil)))) (pg_name (i := 2) scLf.nd rfl (.inl rfl))
        (pss_one (ps_if (pt_cmpR op_eq (pe_op op_mod (pv 0) (pv 2)) pe_int (nomark _)) (pss_one (ps_ret (pv 2))) pss_nil)))
      (pss_one (ps_ret (pv 0)))), ?_⟩
    have ol := or_lt (s := st) (by omega) s3
    have og := or_ge (s := st) (by omega)
    have rl := rt_lt (n := n) (by omega) n3
    have tail : ¬ (st = 2 ∧ n % 2 = 0) → lf n st = lfS n (Builtin.bitOr st 1) (Builtin.Range.rangeSize (Builtin.bitOr st 1) (rt n) 2).toNat := fun h => by unfold lf; rw [if_neg h]
    refine ⟨_, rfl, rfl, _, rfl, ?_⟩
    by_cases a : st = 2
    · refine itT (decide_eq_true (by rw [a])) ?_
      refine ⟨_, rfl, n, 2, rfl, rfl, (by show (0 : Int) < 2; decide), rfl, _, rfl, ?_⟩
      by_cases b : n % 2 = 0
      · refine itT (decide_eq_true (show V.int (n % 2) = V.int 0 by rw [b])) ?_
        have e : lf n st = 2 := by unfold lf; rw [if_pos ⟨a, b⟩]
        rw [e] at k
        exact k
      · refine itF (decide_eq_false (fun z => b (V.int.inj z))) ?_
        refine ⟨_, rfl, _, _, rfl, rfl, _, rfl, n, rfl, by omega, by omega, _, _, rfl, rfl, Builtin.bitOr st 1, rt n, 2, (Builtin.Range.rangeSize (Builtin.bitOr st 1) (rt n) 2).toNat, rfl, ⟨by decide, by decide, small2 (by omega) (by omega) (by omega) (by omega), PyProof.Rows.rangeSize_toNat _ _ _⟩,
          for_rangeC (fun i σ H' => H' = H ∧ ∃ v : Option V, σ = [some (.int n), some (.int st), v] ∧ ∀ j : Nat, j < i → n % (Builtin.bitOr st 1 + (j : Nat) * 2) ≠ 0) ⟨rfl, none, rfl, fun j hj => absurd hj (Nat.not_lt_zero j)⟩ ?_ ?_⟩
        · rintro i σ H' hi ⟨rfl, v, rfl, no⟩
          have pos : 0 < Builtin.bitOr st 1 + (i : Nat) * 2 := by omega
          refine ⟨_, rfl, _, rfl, n, Builtin.bitOr st 1 + (i : Nat) * 2, rfl, rfl, pos, rfl, _, rfl, ?_⟩
          by_cases c : n % (Builtin.bitOr st 1 + (i : Nat) * 2) = 0
          · refine itT (decide_eq_true (show V.int (n % (Builtin.bitOr st 1 + (i : Nat) * 2)) = V.int 0 by rw [c])) ⟨_, rfl, ?_⟩
            have e : lf n st = Builtin.bitOr st 1 + (i : Nat) * 2 := by
              rw [tail (fun h => b h.2)]
              unfold lfS
              rw [find_at hi (decide_eq_true c) (fun j hj => decide_eq_false (no j hj))]
            rw [e] at k
            exact k
          · refine itF (decide_eq_false (fun z => c (V.int.inj z))) ⟨rfl, _, rfl, fun j hj => ?_⟩
            rcases Nat.lt_succ_iff_lt_or_eq.mp hj with q | q
            · exact no j q
            · rw [q]; exact c
        · rintro σ H' ⟨rfl, v, rfl, no⟩
          have e : lf n st = n := by
            rw [tail (fun h => b h.2)]
            unfold lfS
            rw [find_no (fun j hj => decide_eq_false (no j hj))]
          rw [e] at k
          exact ⟨_, rfl, k⟩
    · refine itF (decide_eq_false (fun z => a (V.int.inj z))) (itF rfl ?_)
      refine ⟨_, rfl, _, _, rfl, rfl, _, rfl, n, rfl, by omega, by omega, _, _, rfl, rfl, Builtin.bitOr st 1, rt n, 2, (Builtin.Range.rangeSize (Builtin.bitOr st 1) (rt n) 2).toNat, rfl, ⟨by decide, by decide, small2 (by omega) (by omega) (by omega) (by omega), PyProof.Rows.rangeSize_toNat _ _ _⟩,
        for_rangeC (fun i σ H' => H' = H ∧ ∃ v : Option V, σ = [some (.int n), some (.int st), v] ∧ ∀ j : Nat, j < i → n % (Builtin.bitOr st 1 + (j : Nat) * 2) ≠ 0) ⟨rfl, none, rfl, fun j hj => absurd hj (Nat.not_lt_zero j)⟩ ?_ ?_⟩
      · rintro i σ H' hi ⟨rfl, v, rfl, no⟩
        have pos : 0 < Builtin.bitOr st 1 + (i : Nat) * 2 := by omega
        refine ⟨_, rfl, _, rfl, n, Builtin.bitOr st 1 + (i : Nat) * 2, rfl, rfl, pos, rfl, _, rfl, ?_⟩
        by_cases c : n % (Builtin.bitOr st 1 + (i : Nat) * 2) = 0
        · refine itT (decide_eq_true (show V.int (n % (Builtin.bitOr st 1 + (i : Nat) * 2)) = V.int 0 by rw [c])) ⟨_, rfl, ?_⟩
          have e : lf n st = Builtin.bitOr st 1 + (i : Nat) * 2 := by
            rw [tail (fun h => a h.1)]
            unfold lfS
            rw [find_at hi (decide_eq_true c) (fun j hj => decide_eq_false (no j hj))]
          rw [e] at k
          exact k
        · refine itF (decide_eq_false (fun z => c (V.int.inj z))) ⟨rfl, _, rfl, fun j hj => ?_⟩
          rcases Nat.lt_succ_iff_lt_or_eq.mp hj with q | q
          · exact no j q
          · rw [q]; exact c
      · rintro σ H' ⟨rfl, v, rfl, no⟩
        have e : lf n st = n := by
          rw [tail (fun h => a h.1)]
          unfold lfS
          rw [find_no (fun j hj => decide_eq_false (no j hj))]
        rw [e] at k
        exact ⟨_, rfl, k⟩
end
end Lk

set_option Elab.async false
set_option linter.all false
set_option maxRecDepth 100000
set_option maxHeartbeats 4000000
set_option exponentiation.threshold 10000
namespace Lk
open PySem L2 Vx
/-! primes judged and checked; valuations -/
section
variable {P : Program} {w : World} {K : PySem.W.Frag} {mg : Str → Option Value} {base : Heap} {C CE CR CO CPr : Addr}
abbrev sPr : Stmt := top 26
abbrev sCp : Stmt := top 27
abbrev sVal : Stmt := top 33
abbrev HLf (P : Program) (w : World) (K : PySem.W.Frag) (mg : Str → Option Value) (base : Heap) : Prop := Has P w K mg base "_least_factor" 1 ["number", "start"] spLf
def isP (i : Int) : Bool := decide (2 ≤ i) && (decide (i ≤ 1000000000) && decide (lf i 2 = i))
def spPr (K : PySem.W.Frag) : Sp := fun vs H Q _ => ∃ (y : V) (b : Bool), vs = [y] ∧ Kd K H y b ∧ (b = false → Q (.bl false) H) ∧ ∀ i : Int, y = .int i → b = true → Q (.bl (isP i)) H
theorem scPr : FnScope ["value"] ["value"] (defScope sPr) := ⟨rfl, rfl, rfl, by decide +kernel, rfl, by decide +kernel, by decide +kernel⟩
theorem ok_pr {f : Addr} {fd : FuncData} (F : Fun K "is_prime" "is_prime" sPr f fd) (S : HIsI P w K mg base) (L : HLf P w K mg base) (mM : ∃ t, mg "MAX_FACTORED" = some (.int 1000000000 t)) :
    FnOk P w K mg base CX0 3 f fd ["value"] (spPr K) := by
  obtain ⟨fS, dS, GS, mS, kS, bS⟩ := S
  obtain ⟨fL, dL, GL, mL, kL, bL⟩ := L
  obtain ⟨tk, hM⟩ := mM
  refine F.ok scPr (fun vs H Q E h => ?_) (fun cdv A outer s H vs Q E hr h => ?_)
  · obtain ⟨y, b, rfl, _⟩ := h
    rfl
  · obtain ⟨y, b, rfl, kd, r1, r2⟩ := h
    refine ⟨_, pss_cons (ps_if (PW.pt (pw_or (pt_not (pt_val (pe_call GS (hr.mono (by decide)) rfl mS kS bS .nil pass0 (pa_cons (pv 0) pa_nil)))) (pw_or (pt_cmpR op_lt (pv 0) pe_int (nomark _)) (pw_or1 (pt_cmpR op_gt (pv 0) (pe_glob rfl hM (show RelV (.int 1000000000) (.int 1000000000 tk) from ⟨_, rfl⟩)) (nomark _))))))
        (pss_one (ps_ret pe_bl)) pss_nil)
      (pss_one (ps_ret (pe_cmpR op_eq (pe_call GL (hr.mono (by decide)) rfl mL kL bL .nil pass0 (pa_cons (pv 0) (pa_cons pe_int pa_nil))) (pv 0) (nomark _)))), ?_⟩
    cases b with
    | false => exact ⟨_, rfl, y, false, rfl, kd, _, rfl, itT rfl (itT rfl (r1 rfl))⟩
    | true =>
      obtain ⟨i, rfl, _, _⟩ := kd.short
      have k := r2 i rfl rfl
      unfold isP at k
      refine ⟨_, rfl, _, true, rfl, kd, _, rfl, itF rfl ?_⟩
      refine ⟨_, rfl, _, _, rfl, rfl, _, rfl, ?_⟩
      by_cases c : i < 2
      · rw [decide_eq_false (show ¬ 2 ≤ i by omega), Bool.false_and] at k
        exact itT (decide_eq_true c) (itT rfl k)
      · refine itF (decide_eq_false c) ?_
        rw [decide_eq_true (show 2 ≤ i by omega), Bool.true_and] at k
        refine ⟨_, rfl, _, _, rfl, rfl, _, rfl, ?_⟩
        by_cases c2 : 1000000000 < i
        · rw [decide_eq_false (show ¬ i ≤ 1000000000 by omega), Bool.false_and] at k
          exact itT (decide_eq_true c2) k
        · refine itF (decide_eq_false c2) ?_
          rw [decide_eq_true (show i ≤ 1000000000 by omega), Bool.true_and] at k
          refine ⟨_, rfl, i, 2, rfl, by omega, by omega, by decide, by decide, _, rfl, rfl, ?_⟩
          have e : decide (V.int (lf i 2) = V.int i) = decide (lf i 2 = i) := by
            by_cases z : lf i 2 = i
            · rw [decide_eq_true z, decide_eq_true (by rw [z])]
            · rw [decide_eq_false z, decide_eq_false (fun q => z (V.int.inj q))]
          rw [e]
          exact k
abbrev HPr (P : Program) (w : World) (K : PySem.W.Frag) (mg : Str → Option Value) (base : Heap) : Prop := Has P w K mg base "is_prime" 3 ["value"] (spPr K)
def spCp (K : PySem.W.Frag) (CPr : Addr) : Sp := fun vs H Q E => ∃ (y : V) (b : Bool), vs = [y] ∧ Kd K H y b ∧ (b = false → E (.ref CPr) none H) ∧
  ∀ i : Int, y = .int i → b = true → ((isP i = false ∨ 997 < i) → E (.ref CPr) none H) ∧ (isP i = true → i ≤ 997 → Q .non H)
theorem scCp : FnScope ["prime"] ["prime"] (defScope sCp) := ⟨rfl, rfl, rfl, by decide +kernel, rfl, by decide +kernel, by decide +kernel⟩
theorem ok_cp {f : Addr} {fd : FuncData} (F : Fun K "check_prime" "check_prime" sCp f fd) (T : Pln K mg "InvalidPrime" CPr) (S : HPr P w K mg base) (mM : ∃ t, mg "MAX_PRIME" = some (.int 997 t)) :
    FnOk P w K mg base (L2.CX P w) 4 f fd ["prime"] (spCp K CPr) := by
  obtain ⟨fS, dS, GS, mS, kS, bS⟩ := S
  obtain ⟨tk, hM⟩ := mM
  refine F.okX scCp (fun vs H Q E h => ?_) (fun cdv A outer s H vs Q E hr h => ?_)
  · obtain ⟨y, b, rfl, _⟩ := h
    rfl
  · obtain ⟨y, b, rfl, kd, r1, r2⟩ := h
    refine ⟨_, pss_one (ps_if (PW.pt (pw_or (pt_not (pt_val (pe_call GS hr rfl mS kS bS .nil pass0 (pa_cons (pv 0) pa_nil)))) (pw_or1 (pt_cmpR op_gt (pv 0) (pe_glob rfl hM (show RelV (.int 997) (.int 997 tk) from ⟨_, rfl⟩)) (nomark _)))))
        (pss_one (ps_raiseP rfl T (takes_of rfl rfl rfl rfl))) pss_nil), ?_⟩
    cases b with
    | false => exact ⟨_, rfl, y, false, rfl, kd, fun _ => ⟨_, rfl, itT rfl (itT rfl (r1 rfl))⟩, fun _ _ z => nomatch z⟩
    | true =>
      obtain ⟨i, rfl, _, _⟩ := kd.short
      obtain ⟨q1, q2⟩ := r2 i rfl rfl
      refine ⟨_, rfl, _, true, rfl, kd, (fun z => nomatch z), fun j ej _ => ?_⟩
      cases ej
      refine ⟨_, rfl, ?_⟩
      by_cases c : isP i = true
      · refine itF (by rw [c]; rfl) ?_
        refine ⟨_, rfl, _, _, rfl, rfl, _, rfl, ?_⟩
        by_cases c2 : 997 < i
        · exact itT (decide_eq_true c2) (q1 (.inr c2))
        · exact itF (decide_eq_false c2) (q2 c (by omega))
      · have c' : isP i = false := by simpa using c
        exact itT (by rw [c']; rfl) (itT rfl (q1 (.inl c')))
end
end Lk

set_option Elab.async false
set_option linter.all false
set_option maxRecDepth 100000
set_option maxHeartbeats 4000000
set_option exponentiation.threshold 10000
namespace Lk
open PySem L2 Vx
section
variable {P : Program} {w : World} {K : PySem.W.Frag} {mg : Str → Option Value} {base : Heap} {C CE CR CO CPr : Addr}
def spVal (K : PySem.W.Frag) (C CR CO CPr : Addr) : Sp := fun vs H Q E => ∃ y z : V, vs = [y, z] ∧
  (((∃ b1, Kd K H y b1 ∧ (b1 = false ∨ ∃ i, y = .int i ∧ (isP i = false ∨ 997 < i))) ∧ E (.ref CPr) none H) ∨
   ∃ i : Int, y = .int i ∧ isP i = true ∧ i ≤ 997 ∧
     ((NoR K C H z false ∧ E (.ref CR) none H) ∨ ((z = .int 0 ∨ ∃ q b, z = .ref q ∧ RatAt C H q 0 b) ∧ ∀ H', Same H H' → E (.ref CO) none H') ∨
      ∃ t b : Int, Arg C H z t b ∧ t ≠ 0 ∧ b ≠ 0 ∧ ∀ (H' : Hp) (u v : Nat), Same H H' → i ^ u ∣ t → ¬ i ^ (u + 1) ∣ t → i ^ v ∣ b → ¬ i ^ (v + 1) ∣ b → Q (.int ((u : Int) - v)) H'))
theorem scVal : FnScope ["prime", "number", "ratio"] ["prime", "number"] (defScope sVal) := ⟨rfl, rfl, rfl, by decide +kernel, rfl, by decide +kernel, by decide +kernel⟩
def HCp (P : Program) (w : World) (K : PySem.W.Frag) (mg : Str → Option Value) (base : Heap) (CPr : Addr) : Prop :=
  ∃ f fd, FnOk P w K mg base (L2.CX P w) 4 f fd ["prime"] (spCp K CPr) ∧ mg "check_prime" = some (.ref f) ∧ PySem.W.keepIn K (.ref f) = true ∧ Binds K fd ["prime"] []
theorem isP_kd {K : PySem.W.Frag} {H : Hp} {i : Int} (h : i ≤ 997) (p : isP i = true) : Kd K H (.int i) true ∧ 2 ≤ i := by
  have p2 : 2 ≤ i := by
    unfold isP at p
    exact of_decide_eq_true (Bool.and_eq_true_iff.mp p).1
  refine ⟨?_, p2⟩
  have := Kd.int (K := K) (H := H) i
  rw [both (by unfold LONG; omega) (by unfold LONG; omega)] at this
  exact this
theorem ok_val {f : Addr} {fd : FuncData} (F : Fun K "valuation" "valuation" sVal f fd) (G : Gn K mg C) (Cp : HCp P w K mg base CPr) (O : HOfK P w K mg base C CR) (T : Pln K mg "InvalidOperation" CO)
    (Tp : HasP P w K mg base C "top" 1 (spTop C)) (Bp : HasP P w K mg base C "bottom" 1 (spBot C)) (D : Has P w K mg base "_times_divided" 1 ["prime", "number"] spTd) :
    FnOk P w K mg base (L2.CX P w) 6 f fd ["prime", "number"] (spVal K C CR CO CPr) := by
  obtain ⟨fC, dC, GC, mC, kC, bC⟩ := Cp
  obtain ⟨fO, dO, GO, mO, kO, bO⟩ := O
  obtain ⟨p1, g1, d1, pT, GT, bT⟩ := Tp
  obtain ⟨p2, g2, d2, pB, GB, bB⟩ := Bp
  obtain ⟨fD, dD, GD, mD, kD, bD⟩ := D
  refine F.okX scVal (fun vs H Q E h => ?_) (fun cdv A outer s H vs Q E hr h => ?_)
  · obtain ⟨y, z, rfl, _⟩ := h
    rfl
  · obtain ⟨y, z, rfl, k⟩ := h
    refine ⟨_, pss_cons (ps_expr (pe_call GC (hr.mono (by decide)) rfl mC kC bC .nil (passes_call (takes_of rfl rfl rfl rfl) (fun _ _ _ _ h => h)) (pa_cons (pv 0) pa_nil)))
      (pss_cons (ps_set (i := 2) scVal.nd rfl (.inl rfl) (pe_call GO hr rfl mO kO bO .nil (passes_call (takes_of rfl rfl rfl rfl) (fun _ _ _ _ h => h)) (pa_cons (pv 1) pa_nil)))
      (pss_cons (ps_if (pt_cmpR op_eq (pe_prop (pv 2) G.cl pT GT (hr.mono (by decide)) bT .nil pass0 rfl) pe_int (nomark _)) (pss_one (ps_raiseP rfl T (takes_of rfl rfl rfl rfl))) pss_nil)
      (pss_one (ps_ret (pe_op op_sub (pe_call GD (hr.mono (by decide)) rfl mD kD bD .nil pass0 (pa_cons (pv 0) (pa_cons (pe_prop (pv 2) G.cl pT GT (hr.mono (by decide)) bT .nil pass0 rfl) pa_nil)))
        (pe_call GD (hr.mono (by decide)) rfl mD kD bD .nil pass0 (pa_cons (pv 0) (pa_cons (pe_prop (pv 2) G.cl pB GB (hr.mono (by decide)) bB .nil pass0 rfl) pa_nil)))))))), ?_⟩
    rcases k with ⟨⟨b1, kd, why⟩, k⟩ | ⟨i, rfl, ip, i9, k⟩
    · refine ⟨_, rfl, y, b1, rfl, kd, fun _ => k, fun i ei eb => ⟨fun _ => k, fun a1 a2 => ?_⟩⟩
      rcases why with w1 | ⟨j, ej, w2⟩
      · rw [eb] at w1; cases w1
      · rw [ei] at ej; cases ej
        rcases w2 with w2 | w2
        · rw [a1] at w2; cases w2
        · omega
    · obtain ⟨kd, i2⟩ := isP_kd (K := K) (H := H) i9 ip
      have ib : i.natAbs < 2 ^ 200 := Nat.lt_of_le_of_lt (show i.natAbs ≤ 997 by omega) (by decide)
      refine ⟨_, rfl, _, true, rfl, kd, (fun z => nomatch z), fun j ej _ => ⟨fun w2 => ?_, fun _ _ => ?_⟩⟩
      · cases ej
        rcases w2 with w2 | w2
        · rw [ip] at w2; cases w2
        · omega
      · have fin : ∀ (H' : Hp) (q : Addr) (t b : Int), Same H H' → RatAt C H' q t b → t ≠ 0 → b ≠ 0 → (∀ (H' : Hp) (u v : Nat), Same H H' → i ^ u ∣ t → ¬ i ^ (u + 1) ∣ t → i ^ v ∣ b → ¬ i ^ (v + 1) ∣ b → Q (.int ((u : Int) - v)) H') → True := fun _ _ _ _ _ _ _ _ _ => trivial
        rcases k with ⟨hz, k⟩ | ⟨rfl | ⟨q, b, rfl, dx, hq⟩, k⟩ | ⟨t, b, ar, t0, b0, k⟩
        · exact ⟨_, rfl, z, rfl, .inr (.inr ⟨hz, k⟩)⟩
        · refine ⟨_, rfl, _, rfl, .inr (.inl ⟨0, rfl, by decide, by decide, fun H1 q s1 ⟨dx, hq⟩ => ?_⟩)⟩
          exact ⟨_, rfl, q, dx, _, rfl, hq, q, dx, _, _, rfl, hq, rf_t _ _, rfl, _, rfl, itT rfl (k _ s1)⟩
        · refine ⟨_, rfl, _, rfl, .inl ⟨q, 0, b, rfl, ⟨dx, hq⟩, ?_⟩⟩
          exact ⟨_, rfl, q, dx, _, rfl, hq, q, dx, _, _, rfl, hq, rf_t _ _, rfl, _, rfl, itT rfl (k _ (same_refl H))⟩
        · rcases ar with ⟨q, rfl, dx, hq⟩ | ⟨rfl, rfl, l1, l2⟩
          · refine ⟨_, rfl, _, rfl, .inl ⟨q, t, b, rfl, ⟨dx, hq⟩, ?_⟩⟩
            refine ⟨_, rfl, q, dx, _, rfl, hq, q, dx, _, _, rfl, hq, rf_t _ _, rfl, _, rfl, itF (decide_eq_false (fun z => t0 (V.int.inj z))) ?_⟩
            refine ⟨_, rfl, _, rfl, q, dx, _, rfl, hq, q, dx, _, _, rfl, hq, rf_t _ _, i, t, rfl, i2, ib, t0, fun u u1 u2 => ?_⟩
            exact ⟨_, rfl, _, rfl, q, dx, _, rfl, hq, q, dx, _, _, rfl, hq, rf_b _ _, i, b, rfl, i2, ib, b0, fun v v1 v2 => ⟨_, _, rfl, rfl, k _ u v (same_refl H) u1 u2 v1 v2⟩⟩
          · refine ⟨_, rfl, _, rfl, .inr (.inl ⟨t, rfl, l1, l2, fun H1 q s1 ⟨dx, hq⟩ => ?_⟩)⟩
            refine ⟨_, rfl, q, dx, _, rfl, hq, q, dx, _, _, rfl, hq, rf_t _ _, rfl, _, rfl, itF (decide_eq_false (fun z => t0 (V.int.inj z))) ?_⟩
            refine ⟨_, rfl, _, rfl, q, dx, _, rfl, hq, q, dx, _, _, rfl, hq, rf_t _ _, i, t, rfl, i2, ib, t0, fun u u1 u2 => ?_⟩
            exact ⟨_, rfl, _, rfl, q, dx, _, rfl, hq, q, dx, _, _, rfl, hq, rf_b _ _, i, 1, rfl, i2, ib, by decide, fun v v1 v2 => ⟨_, _, rfl, rfl, k _ u v s1 u1 u2 v1 v2⟩⟩
end
end Lk

set_option Elab.async false
set_option linter.all false
set_option maxRecDepth 100000
set_option maxHeartbeats 4000000
set_option exponentiation.threshold 10000
namespace Lk
open PySem L2 Vx
/-! prime powers -/
theorem pow_dvd_le {g : Int} {t u : Nat} (h : t ≤ u) : g ^ t ∣ g ^ u := by
  obtain ⟨m, rfl⟩ := Nat.le.dest h
  exact ⟨g ^ m, Int.pow_add g t m⟩
theorem pow_uniq {g n : Int} {t u : Nat} (h1 : g ^ t ∣ n) (h2 : ¬ g ^ (t + 1) ∣ n) (h3 : g ^ u ∣ n) (h4 : ¬ g ^ (u + 1) ∣ n) : t = u := by
  rcases Nat.lt_trichotomy t u with c | c | c
  · exact absurd (Int.dvd_trans (pow_dvd_le c) h3) h2
  · exact c
  · exact absurd (Int.dvd_trans (pow_dvd_le c) h1) h4
def mlt (g : Int) : Nat → Int → Nat
  | 0, _ => 0
  | k + 1, r => if r % g = 0 then mlt g k (r / g) + 1 else 0
theorem mlt_spec {g : Int} (g2 : 2 ≤ g) : ∀ (k : Nat) (r : Int), r ≠ 0 → r.natAbs < 2 ^ k → g ^ mlt g k r ∣ r ∧ ¬ g ^ (mlt g k r + 1) ∣ r
  | 0, r, h0, h => absurd (Int.natAbs_eq_zero.mp (by omega)) h0
  | k + 1, r, h0, h => by
    unfold mlt
    by_cases c : r % g = 0
    · rw [if_pos c]
      have e : r / g * g = r := Int.ediv_mul_cancel (Int.dvd_of_emod_eq_zero c)
      have q0 : r / g ≠ 0 := fun z => by rw [z, Int.zero_mul] at e; exact h0 e.symm
      have lt : (r / g).natAbs < 2 ^ k := by
        have e2 : (r / g).natAbs * g.natAbs = r.natAbs := by rw [← Int.natAbs_mul, e]
        have : (r / g).natAbs * 2 ≤ (r / g).natAbs * g.natAbs := Nat.mul_le_mul_left _ (by omega)
        rw [Nat.pow_succ] at h
        omega
      obtain ⟨a, b⟩ := mlt_spec g2 k (r / g) q0 lt
      constructor
      · rw [Int.pow_succ]
        have z := Int.mul_dvd_mul_right g a
        rw [e] at z
        exact z
      · intro z
        rw [Int.pow_succ] at z
        have z' : g ^ (mlt g k (r / g) + 1) * g ∣ r / g * g := by rw [e]; exact z
        exact b (Int.dvd_of_mul_dvd_mul_right (by omega) z')
    · rw [if_neg c]
      refine ⟨by rw [Int.pow_zero]; exact Int.one_dvd r, fun z => c ?_⟩
      rw [Nat.zero_add, Int.pow_one] at z
      exact Int.emod_eq_zero_of_dvd z
def ex (g r : Int) : Nat := mlt g 40 r
theorem ex_is {g r : Int} {t : Nat} (g2 : 2 ≤ g) (r0 : r ≠ 0) (hr : r.natAbs < 2 ^ 40) (h1 : g ^ t ∣ r) (h2 : ¬ g ^ (t + 1) ∣ r) : t = ex g r :=
  pow_uniq h1 h2 (mlt_spec g2 40 r r0 hr).1 (mlt_spec g2 40 r r0 hr).2
theorem lfS_is (n lo : Int) (k : Nat) : lfS n lo k = n ∨ (∃ i : Nat, i < k ∧ lfS n lo k = lo + (i : Nat) * 2 ∧ n % (lo + (i : Nat) * 2) = 0) := by
  unfold lfS
  cases e : (List.range k).find? (fun i => decide (n % (lo + (i : Nat) * 2) = 0)) with
  | none => exact .inl rfl
  | some i =>
    refine .inr ⟨i, ?_, rfl, ?_⟩
    · exact List.mem_range.mp (List.mem_of_find?_eq_some e)
    · exact of_decide_eq_true (show decide (n % (lo + (i : Nat) * 2) = 0) = true from List.find?_some (p := fun i => decide (n % (lo + ((i : Nat) : Int) * 2) = 0)) e)
theorem or_self {s : Int} (h0 : 0 ≤ s) : s ≤ Builtin.bitOr s 1 := by
  rw [bitOr_nn h0 (by decide)]
  have : s.toNat ≤ s.toNat ||| (1 : Int).toNat := Nat.left_le_or
  omega
theorem lf_good {n s : Int} (n2 : 2 ≤ n) (s2 : 2 ≤ s) : 2 ≤ lf n s ∧ lf n s ∣ n := by
  unfold lf
  split
  · rename_i h
    exact ⟨by decide, Int.dvd_of_emod_eq_zero h.2⟩
  · have o := or_self (s := s) (by omega)
    rcases lfS_is n (Builtin.bitOr s 1) (Builtin.Range.rangeSize (Builtin.bitOr s 1) (rt n) 2).toNat with e | ⟨i, hi, e, m⟩
    · rw [e]
      exact ⟨n2, Int.dvd_refl n⟩
    · rw [e]
      exact ⟨by omega, Int.dvd_of_emod_eq_zero m⟩
/-- what is found, from what is found so far, the rest and the factor -/
def pps : Nat → List (L2.Key × V) → Int → Int → List (L2.Key × V)
  | 0, acc, _, _ => acc
  | k + 1, acc, r, f => if 1 < r then pps k (putK acc (.inl (lf r f)) (.int (ex (lf r f) r))) (r / lf r f ^ ex (lf r f) r) (lf r f) else acc
def ppd (n : Int) : List (L2.Key × V) := pps 40 [] n 2
theorem pps_end {k : Nat} {acc : List (L2.Key × V)} {r f : Int} (h : ¬ 1 < r) : pps k acc r f = acc := by
  cases k with
  | zero => rfl
  | succ k => unfold pps; rw [if_neg h]
theorem putK_len (acc : List (L2.Key × V)) (k : L2.Key) (v : V) : (putK acc k v).length ≤ acc.length + 1 := by
  unfold putK
  split
  · rw [List.length_map]; omega
  · rw [List.length_append]; exact Nat.le_refl _
section
variable {P : Program} {w : World} {K : PySem.W.Frag} {mg : Str → Option Value} {base : Heap} {C CE CT : Addr}
abbrev sPp : Stmt := top 31
abbrev HTd (P : Program) (w : World) (K : PySem.W.Frag) (mg : Str → Option Value) (base : Heap) : Prop := Has P w K mg base "_times_divided" 1 ["prime", "number"] spTd
def HFct (P : Program) (w : World) (K : PySem.W.Frag) (mg : Str → Option Value) (base : Heap) (CE CT : Addr) : Prop :=
  ∃ f fd, FnOk P w K mg base (L2.CX P w) 4 f fd ["number"] (spFct K CE CT) ∧ mg "_check_factored" = some (.ref f) ∧ PySem.W.keepIn K (.ref f) = true ∧ Binds K fd ["number"] []
/-- prime_powers(number): refused, or the dict -/
def spPp (K : PySem.W.Frag) (CE CT : Addr) : Sp := fun vs H Q E => ∃ (y : V) (b : Bool), vs = [y] ∧ Kd K H y b ∧ (b = false → Ref CE "value" H E y) ∧
  ∀ i : Int, y = .int i → b = true → (i < 1 → Ref CE "value" H E y) ∧ (1000000000 < i → Ref CT "limit" H E (.int 1000000000)) ∧
    (1 ≤ i → i ≤ 1000000000 → ∀ p, H p = none → Q (.ref p) (upd H p (.dK (ppd i))))
theorem scPp : FnScope ["number", "found", "rest", "factor"] ["number"] (defScope sPp) := ⟨rfl, rfl, rfl, by decide +kernel, rfl, by decide +kernel, by decide +kernel⟩
theorem ok_pp {f : Addr} {fd : FuncData} (F : Fun K "prime_powers" "prime_powers" sPp f fd) (S : HFct P w K mg base CE CT) (L : HLf P w K mg base) (D : HTd P w K mg base) :
    FnOk P w K mg base (L2.CX P w) 5 f fd ["number"] (spPp K CE CT) := by
  obtain ⟨fS, dS, GS, mS, kS, bS⟩ := S
  obtain ⟨fL, dL, GL, mL, kL, bL⟩ := L
  obtain ⟨fD, dD, GD, mD, kD, bD⟩ := D
  refine F.okX scPp (fun vs H Q E h => ?_) (fun cdv A outer s H vs Q E hr h => ?_)
  · obtain ⟨y, b, rfl, _⟩ := h
    rfl
  · obtain ⟨y, b, rfl, kd, r1, r2⟩ := h
    refine ⟨_, pss_cons (ps_expr (pe_call GS hr rfl mS kS bS .nil (passes_call (takes_of rfl rfl rfl rfl) (fun _ _ _ _ h => h)) (pa_cons (pv 0) pa_nil)))
      (pss_cons (ps_set (i := 1) scPp.nd rfl (.inl rfl) pe_dnewK)
      (pss_cons (ps_par (i := 2) (j := 3) (by rfl) scPp.nd rfl rfl (by decide) rfl rfl (pa_cons (pv 0) (pa_cons pe_int pa_nil)) (by rfl))
      (pss_cons (ps_while (passes_of rfl) (pt_cmpR op_gt (pv 2) pe_int (nomark _))
        (pss_cons (ps_set (i := 3) scPp.nd rfl (.inl rfl) (pe_call GL (hr.mono (by decide)) rfl mL kL bL .nil pass0 (pa_cons (pv 2) (pa_cons (pv 3) pa_nil))))
        (pss_cons (ps_dput (hu_of hr) (pv 1) (pv 3) (pe_call GD (hr.mono (by decide)) rfl mD kD bD .nil pass0 (pa_cons (pv 3) (pa_cons (pv 2) pa_nil))) rfl)
        (pss_one (ps_while (passes_of rfl) (pt_cmpR op_eq (pe_op op_mod (pv 2) (pv 3)) pe_int (nomark _)) (pss_one (ps_set (i := 2) scPp.nd rfl (.inl rfl) (pe_op op_fdivW (pv 2) (pv 3)))))))))
      (pss_one (ps_ret (pv 1)))))), ?_⟩
    refine ⟨_, rfl, y, b, rfl, kd, r1, fun i ei eb => ?_⟩
    subst ei
    obtain ⟨q1, q2, q3⟩ := r2 i rfl eb
    refine ⟨q1, q2, fun i1 i9 p hp => ?_⟩
    refine ⟨_, rfl, _, _, rfl, ?_⟩
    refine while_by (fun σ H' => ∃ (acc : List (L2.Key × V)) (r f : Int) (k : Nat), σ = [some (.int i), some (.ref p), some (.int r), some (.int f)] ∧ H' = upd H p (.dK acc) ∧ 1 ≤ r ∧ r.natAbs < 2 ^ k ∧ acc.length + k ≤ 40 ∧ 2 ≤ f ∧ f < 2 ^ 40 ∧ pps k acc r f = ppd i)
      (fun σ _ => match σ with | [_, _, some (.int r), _] => r.natAbs | _ => 0) ?_ ?_ ?_
    · exact ⟨[], i, 2, 40, rfl, rfl, i1, Nat.lt_of_le_of_lt (show i.natAbs ≤ 1000000000 by omega) (by decide), by decide, by decide, by decide, rfl⟩
    · rintro σ H' ⟨acc, r, f, k, rfl, rfl, r0, rk, ak, f2, f3, e⟩
      refine ⟨_, rfl, _, _, rfl, rfl, _, rfl, ?_⟩
      by_cases c : 1 < r
      · refine itT (decide_eq_true c) ?_
        have k40 : 2 ^ k ≤ 2 ^ 40 := Nat.pow_le_pow_right (by decide) (by omega)
        have rb : r.natAbs < 2 ^ 40 := Nat.lt_of_lt_of_le rk k40
        have rb' : r < 2 ^ 40 := by omega
        refine ⟨_, rfl, _, rfl, r, f, rfl, by omega, rb', f2, f3, ?_⟩
        obtain ⟨g2, gd⟩ := lf_good (n := r) (s := f) (by omega) f2
        have gle : lf r f ≤ r := Int.le_of_dvd (by omega) gd
        cases k with
        | zero => exact absurd rk (by omega)
        | succ k =>
          unfold pps at e
          rw [if_pos c] at e
          generalize lf r f = g at *
          refine ⟨_, rfl, _, rfl, g, r, rfl, g2, Nat.lt_of_lt_of_le (show g.natAbs < 2 ^ 40 by omega) (by decide), by omega, fun t t1 t2 => ?_⟩
          have et := ex_is g2 (by omega) rb t1 t2
          subst et
          refine ⟨_, rfl, _, rfl, p, _, rfl, DPut.k (k := Sum.inl g) upd_same (Nat.lt_of_le_of_lt (show acc.length ≤ 40 by omega) (by decide)), ?_⟩
          rw [upd_upd]
          refine while_by (fun σ H' => ∃ (j : Nat) (x : Int), σ = [some (.int i), some (.ref p), some (.int x), some (.int g)] ∧ H' = upd H p (.dK (putK acc (Sum.inl g) (.int (ex g r)))) ∧ x ≠ 0 ∧ x * g ^ j = r ∧ (j = 0 → x = r))
            (fun σ _ => match σ with | [_, _, some (.int x), _] => x.natAbs | _ => 0) ?_ ?_ ?_
          · exact ⟨0, r, rfl, rfl, by omega, by simp, fun _ => rfl⟩
          · rintro σ H' ⟨j, x, rfl, rfl, x0, xe, _⟩
            refine ⟨_, rfl, _, rfl, x, g, rfl, rfl, (by show 0 < g; omega), rfl, _, rfl, ?_⟩
            by_cases d : x % g = 0
            · refine itT (decide_eq_true (show V.int (x % g) = V.int 0 by rw [d])) ?_
              refine ⟨_, rfl, _, rfl, x, g, rfl, rfl, wide_div (b := 200) (by omega) (Nat.lt_of_lt_of_le (show g.natAbs < 2 ^ 40 by omega) (by decide)) (by decide) (by decide), ⟨j + 1, x / g, rfl, rfl, ?_, pow_dvd_step xe d (by omega), fun z => nomatch z⟩, ?_⟩
              · intro z
                have := Int.ediv_mul_cancel (Int.dvd_of_emod_eq_zero d)
                rw [z, Int.zero_mul] at this
                exact x0 this.symm
              · exact abs_div_lt g2 x0 d
            · refine itF (decide_eq_false (fun z => d (V.int.inj z))) ?_
              obtain ⟨a1, a2⟩ := pow_dvd_end xe d (by omega)
              have ej := ex_is g2 (by omega) rb a1 a2
              subst ej
              have gp : g ^ ex g r ≠ 0 := Int.pow_ne_zero (by omega)
              have ex1 : x = r / g ^ ex g r := (Int.ediv_eq_of_eq_mul_left gp xe.symm).symm
              have pos1 : ex g r ≠ 0 := fun z => by
                apply t2
                rw [z, Int.pow_one]
                exact gd
              have gpos : 0 < g ^ ex g r := Int.pow_pos (by omega)
              have x1 : 1 ≤ x := by
                rcases Int.lt_or_le 0 x with h | h
                · omega
                · have : x * g ^ ex g r ≤ 0 := Int.mul_nonpos_of_nonpos_of_nonneg h (by omega)
                  omega
              have gge : 2 ≤ g ^ ex g r := by
                obtain ⟨m, hm⟩ : ∃ m, ex g r = m + 1 := ⟨ex g r - 1, by omega⟩
                rw [hm, Int.pow_succ]
                have : 1 ≤ g ^ m := by
                  have := Int.pow_pos (m := m) (show 0 < g by omega)
                  omega
                have : 1 * g ≤ g ^ m * g := Int.mul_le_mul_of_nonneg_right this (by omega)
                omega
              have xr : x * 2 ≤ r := by
                rw [← xe]
                exact Int.mul_le_mul_of_nonneg_left gge (by omega)
              refine ⟨⟨_, x, g, k, rfl, rfl, x1, ?_, ?_, g2, by omega, ?_⟩, ?_⟩
              · rw [Nat.pow_succ] at rk
                omega
              · have := putK_len acc (Sum.inl g) (.int (ex g r))
                omega
              · rw [ex1]
                exact e
              · show x.natAbs < r.natAbs
                omega
          · rintro σ H' Q1 Q2 hq ⟨v, e1, v2, e2, i, j, a1, a2, a3, a4, q⟩
            obtain ⟨b', e3, q2⟩ := q
            exact ⟨v, e1, v2, e2, i, j, a1, a2, a3, a4, b', e3, hq _ _ q2⟩
      · refine itF (decide_eq_false c) ?_
        rw [pps_end c] at e
        subst e
        exact ⟨_, rfl, q3 i1 i9 p hp⟩
    · rintro σ H' Q1 Q2 hq ⟨v, e1, a, b, e2, e3, b', e4, q⟩
      exact ⟨v, e1, a, b, e2, e3, b', e4, hq _ _ q⟩
end
end Lk

set_option Elab.async false
set_option linter.all false
set_option maxRecDepth 100000
set_option maxHeartbeats 4000000
/-! d.items() walked, of a dict that has just been made; list(e.values()), where e lets an error out -/
namespace Lk
open PySem PySem.Spec PyProof.Rows L2
section
variable {X : Cx} {te td : TE} {e : Expr} {p pos cpos apos : Pos}
def iItemsN (td : TE) : TI := fun σ H R => td σ H fun x H1 => ∃ d kvs, x = .ref d ∧ H1 d = some (.dK kvs) ∧ ∀ od, R (Iti d od kvs) (upd H1 d (.frz od (.dK kvs)))
theorem pi_itemsN {elts : List Expr} {kk : Nat} {tpos : Pos} (he : PE X e td) (hbase : attributeBase e "items" X.env (eval e X.env) = eval e X.env := by rfl) (hline : (apos.endLine == cpos.line) = true := by rfl) :
    PI X (.Tuple elts kk tpos) (.Call (.Attribute e "items" apos) [] [] cpos) (iItemsN td) := by
  refine ⟨fun pins s σ H R I h => ?_⟩
  refine wpAny_Call_method (T := "dict") (id := "dict.items") hbase rfl hline F.plainAttrs_dict F.slot_dict_items F.type_dict_items (thn (he.run pins s σ H _ I h) fun u s1 ⟨x, H0, I0, rx, d, kvs, ex, hd0, q0⟩ => ?_)
  subst ex
  obtain rfl : u = Value.ref d := rx
  obtain ⟨o, I1⟩ := I0.lock hd0 trivial
  have q := q0 o
  have hd : (upd H0 d (.frz o (.dK kvs))) d = some (.frz o (.dK kvs)) := upd_same
  generalize upd H0 d (.frz o (.dK kvs)) = H1 at *
  obtain ⟨hs, hgd, hx, es, ep, vs, hdt, hsz, kv, hm⟩ := I1.frzK hd
  have hl : kvs.length = vs.length := Paired.length kv
  refine ⟨hm.dictOf.typeIs, hm.dictOf.mapOf.noDict, ?_⟩
  have I2 : Inv X pins σ H1 { s1 with heap := s1.heap.push { cls := .type "dict_items", data := .fields #[.ref d] } } := I1.kept (t' := s1.toks) fun b ob q => Heap.get?_push_of_some _ q
  have fin : wpAny (model X.prog X.w) X.A (pyIter (.ref s1.heap.objs.size)) (PIE X pins σ (.Tuple elts kk tpos) R) X.xe { s1 with heap := s1.heap.push { cls := .type "dict_items", data := .fields #[.ref d] } } := by
    refine wpAny_pyIter_items (d := d) (knd := mixKind X.prog X.w) ⟨_, Heap.get?_push_size _ rfl, rfl, rfl⟩ (hm.push _) (pi_one (tk := s1.toks) I2 _ (turn_items _ hdt) ⟨.none, .none, ?_⟩ q)
    rw [hl]
    exact Heap.get?_push_size _ rfl
  show wpAny _ _ (callWith cpos (.builtin "dict.items") [.ref d] [] []) _ X.xe s1
  exact method_meetsIn F.slot_dict_items F.entry_dict_items rfl (PySem.evalArgs_none ⟨rfl, hm.dictOf.typeIs, F.args_dict_items_1 _, _, meets_dict_items (mixKind X.prog X.w) d hs, ⟨vs, hm.dictOf⟩, fin⟩)
/-- list(e.values()): e lets an error out -/
theorem pe_listValsX (he : PE X e te) (hg : Gl X "list") (hm : X.mg "list" = none) (hv : bootBuiltins "list" = some (.type "list") := by decide +kernel) (hbase : attributeBase e "values" X.env (eval e X.env) = eval e X.env := by rfl) (hline : (apos.endLine == cpos.line) = true := by rfl)
    (hs : starEach [.Call (.Attribute e "values" apos) [] [] cpos] X.env = (false, eval (.Call (.Attribute e "values" apos) [] [] cpos) X.env) :: starEach [] X.env := by rfl) :
    PE X (.Call (.Name "list" p) [.Call (.Attribute e "values" apos) [] [] cpos] [] pos) (fun σ H _ => te σ H fun _ _ => False) := by
  refine ⟨fun pins s σ H Q I hq => ?_⟩
  refine wpAny_Call_Name_kw (ld_blt I hg hm hv ?_)
  refine PyProof.Rows.callWith_type1 ?_ hs rfl
  rw [hs]
  show wpAny _ _ (spliced ((false, eval (.Call (.Attribute e "values" apos) [] [] cpos) X.env) :: backTo pos (starEach [] X.env))) _ _ s
  refine Calls.spliced_cons ?_
  exact wpAny_Call_method (T := "dict") (id := "dict.values") hbase rfl hline F.plainAttrs_dict F.slot_dict_values F.type_dict_values (thn (he.run pins s σ H _ I hq) fun u s1 ⟨x, H1, I1, rx, z⟩ => z.elim)
end
end Lk
namespace Lk
open PySem PySem.Spec PyProof.Rows L2
section
variable {X : Cx}
/-- xs[i] as what is read ahead of xs[i] += e -/
def rGetL (K : PySem.W.Frag) : V → V → Hp → VK → Prop := fun x y H Q => ∃ (p : Addr) (xs : List V) (i : Nat) (v : V), x = .ref p ∧ y = .int i ∧ SqL K H p xs ∧ xs[i]? = some v ∧ Q v H
theorem get_list : PGet X (rGetL X.K) := by
  intro pins s σ H x y v u Q I rx ry h
  obtain ⟨p, xs, i, z, rfl, rfl, hq, he, q⟩ := h
  cases rx
  obtain ⟨t, rfl⟩ := ry
  obtain ⟨its, r, pl, hz⟩ := I.list hq
  obtain ⟨w, ew, rw'⟩ := r.get he
  have hl := r.length
  have hn := line63
  obtain ⟨hi, _⟩ := List.getElem?_eq_some_iff.mp he
  exact wpAny_getItem_list pl.isList (by omega) (by omega) (by simpa using ew) ⟨z, H, I, rw', q⟩
end
end Lk

set_option Elab.async false
set_option linter.all false
set_option maxRecDepth 100000
set_option maxHeartbeats 4000000
set_option exponentiation.threshold 10000
namespace Lk
open PySem L2 Vx
/-! partitions counted; signs, step divisors and common divisors refused -/
def wIn (part : Nat) (ws : List Int) (t : Nat) : List Int := ws.set t (ws.getD t 0 + ws.getD (t - part) 0)
def wPart (k part : Nat) (ws : List Int) : List Int := (List.range k).foldl (fun ws j => wIn part ws (part + j)) ws
def wAll (n k : Nat) : List Int := (List.range k).foldl (fun ws i => wPart (n - i) (i + 1) ws) (1 :: List.replicate n 0)
theorem wIn_len (part t : Nat) (ws : List Int) : (wIn part ws t).length = ws.length := by unfold wIn; rw [List.length_set]
theorem wPart_succ (k part : Nat) (ws : List Int) : wPart (k + 1) part ws = wIn part (wPart k part ws) (part + k) := by
  unfold wPart; rw [List.range_succ, List.foldl_append]; rfl
theorem wPart_len (part : Nat) (ws : List Int) : ∀ k, (wPart k part ws).length = ws.length
  | 0 => rfl
  | k + 1 => by rw [wPart_succ, wIn_len, wPart_len part ws k]
theorem wAll_succ (n k : Nat) : wAll n (k + 1) = wPart (n - k) (k + 1) (wAll n k) := by
  unfold wAll; rw [List.range_succ, List.foldl_append]; rfl
theorem wAll_len (n : Nat) : ∀ k, (wAll n k).length = n + 1
  | 0 => by unfold wAll; simp
  | k + 1 => by rw [wAll_succ, wPart_len, wAll_len n k]
theorem rep1 (n : Nat) (x : V) : (List.replicate n [x]).flatten = List.replicate n x := by
  induction n with
  | zero => rfl
  | succ n ih => rw [List.replicate_succ, List.flatten_cons, ih, List.replicate_succ]; rfl
theorem getV {ws : List Int} {i : Nat} (h : i < ws.length) : (ws.map V.int)[i]? = some (.int (ws.getD i 0)) := by
  rw [List.getElem?_map, List.getElem?_eq_getElem h, List.getD_eq_getElem?_getD, List.getElem?_eq_getElem h]; rfl
theorem ixN_nat {n i : Nat} (h : i < n) : ixN n (i : Int) = some i := by
  unfold ixN
  rw [if_pos (by omega), if_pos (by omega)]; simp
section
variable {P : Program} {w : World} {K : PySem.W.Frag} {mg : Str → Option Value} {base : Heap} {C CE CT CO : Addr}
abbrev sPo : Stmt := top 36
/-- partitions_of(number) -/
def spPo (K : PySem.W.Frag) (CE : Addr) : Sp := fun vs H Q E => ∃ (y : V) (b : Bool), vs = [y] ∧ Kd K H y b ∧ (b = false → Ref CE "value" H E y) ∧
  ∀ i : Int, y = .int i → b = true → (i < 0 ∨ 200 < i → Ref CE "value" H E y) ∧ ∀ n : Nat, i = (n : Int) → n ≤ 200 → ∀ H', Same H H' → Q (.int ((wAll n n).getD n 0)) H'
theorem scPo : FnScope ["number", "ways", "part", "total"] ["number"] (defScope sPo) := ⟨rfl, rfl, rfl, by decide +kernel, rfl, by decide +kernel, by decide +kernel⟩
theorem ok_po {f : Addr} {fd : FuncData} (F : Fun K "partitions_of" "partitions_of" sPo f fd) (S : HChk P w K mg base CE) (mR : mg "range" = none) (mM : ∃ t, mg "_MAX_PARTITIONED" = some (.int 200 t)) :
    FnOk P w K mg base (L2.CX P w) 5 f fd ["number"] (spPo K CE) := by
  obtain ⟨fS, dS, GS, mS, kS, bS⟩ := S
  obtain ⟨tk, hM⟩ := mM
  refine F.okX scPo (fun vs H Q E h => ?_) (fun cdv A outer s H vs Q E hr h => ?_)
  · obtain ⟨y, b, rfl, _⟩ := h
    rfl
  · obtain ⟨y, b, rfl, kd, r1, r2⟩ := h
    refine ⟨_, pss_cons (ps_expr (pe_call GS hr rfl mS kS bS .nil (passes_call (takes_of rfl rfl rfl rfl) (fun _ _ _ _ h => h)) (pa_cons (pv 0) (pa_cons pe_int (pa_cons (pe_glob rfl hM (show RelV (.int 200) (.int 200 tk) from ⟨_, rfl⟩)) pa_nil)))))
      (pss_cons (ps_set (i := 1) scPo.nd rfl (.inl rfl) (pe_op op_cat (pe_lst (pa_cons pe_int pa_nil)) (pe_op op_rep (pe_lst (pa_cons pe_int pa_nil)) (pv 0))))
      (pss_cons (ps_for (passes_of rfl) rfl (pi_range2 rfl mR (pa_cons pe_int (pa_cons (pe_op op_add (pv 0) pe_int) pa_nil))) (pg_name (i := 2) scPo.nd rfl (.inl rfl))
        (pss_one (ps_for (passes_of rfl) rfl (pi_range2 rfl mR (pa_cons (pv 2) (pa_cons (pe_op op_add (pv 0) pe_int) pa_nil))) (pg_name (i := 3) scPo.nd rfl (.inl rfl))
          (pss_one (ps_asg (pe_op op_add (pe_ix ix_list (pv 1) (pv 3) (fun _ _ => rfl)) (pe_ix ix_list (pv 1) (pe_op op_sub (pv 3) (pv 2)) (fun _ _ => rfl))) (pg_sub (pv 1) (pv 3) set_list))))))
      (pss_one (ps_ret (pe_ix ix_list (pv 1) (pv 0) (fun _ _ => rfl)))))), ?_⟩
    refine ⟨_, rfl, y, b, 0, 200, rfl, kd, r1, fun i ei eb => ⟨fun o => (r2 i ei eb).1 o, fun i0 i1 => ?_⟩⟩
    subst ei
    obtain ⟨n, rfl⟩ : ∃ n : Nat, i = (n : Int) := ⟨i.toNat, by omega⟩
    have n200 : n ≤ 200 := by omega
    have k := (r2 (n : Int) rfl eb).2 n rfl n200
    refine ⟨(by show 1 ≤ sizeLine; decide), fun l1 n1 => ⟨(by show 1 ≤ sizeLine; decide), fun l2 n2 => ?_⟩⟩
    have n21 : l1 ≠ l2 := fun z => by rw [← z, upd_same] at n2; cases n2
    refine ⟨_, rfl, l2, n, _, rfl, rfl, upd_same, by omega, by omega, Nat.le_trans (show 1 * (n : Int).toNat ≤ 200 by omega) (by decide), fun p np => ?_⟩
    have npl : l1 ≠ p := fun z => by rw [← z, upd_ne n21, upd_same] at np; cases np
    rw [rep1, Int.toNat_natCast]
    refine ⟨l1, p, _, _, rfl, rfl, (by rw [upd_ne npl, upd_ne n21, upd_same]), upd_same, Nat.le_trans (show 1 + (List.replicate n (V.int 0)).length ≤ 201 by rw [List.length_replicate]; omega) (by decide), fun q nq => ?_⟩
    have sm : ∀ o, Same H (upd (upd (upd (upd H l1 (.lst [V.int 1])) l2 (.lst [V.int 0])) p (.lst (List.replicate n (V.int 0)))) q o) := fun o => Same.tr (same_new n1) (Same.tr (same_new n2) (Same.tr (same_new np) (same_new nq)))
    generalize upd (upd (upd H l1 (.lst [V.int 1])) l2 (.lst [V.int 0])) p (.lst (List.replicate n (V.int 0))) = H4 at *
    have e0 : [V.int 1] ++ List.replicate n (V.int 0) = (wAll n 0).map V.int := by
      unfold wAll
      simp
    rw [e0]
    refine ⟨_, rfl, _, _, rfl, rfl, 1, (n : Int) + 1, rfl, ⟨by decide, by decide, by omega, by omega⟩, for_range (fun i σ H' => ∃ u v : Option V, σ = [some (.int n), some (.ref q), u, v] ∧ H' = upd H4 q (.lst ((wAll n i).map V.int))) ⟨_, _, rfl, rfl⟩ ?_ ?_⟩
    · rintro i σ H' hi ⟨u, v, rfl, rfl⟩
      have hi' : i < n := by omega
      refine ⟨_, rfl, _, rfl, _, _, rfl, rfl, 1 + (i : Int), (n : Int) + 1, rfl, ⟨by omega, by omega, by omega, by omega⟩, for_range (fun j σ H' => ∃ v : Option V, σ = [some (.int n), some (.ref q), some (.int (1 + (i : Int))), v] ∧ H' = upd H4 q (.lst ((wPart j (i + 1) (wAll n i)).map V.int))) ⟨_, rfl, rfl⟩ ?_ ?_⟩
      · rintro j σ H' hj ⟨v, rfl, rfl⟩
        have hj' : j < n - i := by omega
        have len : (wPart j (i + 1) (wAll n i)).length = n + 1 := by rw [wPart_len, wAll_len]
        have e1 : (1 + (i : Int) + (j : Int)) = ((i + 1 + j : Nat) : Int) := by omega
        have e2 : (1 + (i : Int) + (j : Int)) - (1 + (i : Int)) = ((j : Nat) : Int) := by omega
        refine ⟨_, rfl, _, rfl, q, _, _, _, rfl, congrArg V.int e1, SqL.of upd_same, atI_nat (getV (by rw [len]; omega)), ?_⟩
        refine ⟨_, rfl, _, rfl, _, rfl, _, _, rfl, rfl, q, _, _, _, rfl, congrArg V.int e2, SqL.of upd_same, atI_nat (getV (by rw [len]; omega)), ?_⟩
        refine ⟨_, _, rfl, rfl, ?_⟩
        refine ⟨_, rfl, _, rfl, q, _, _, i + 1 + j, rfl, rfl, upd_same, (by rw [e1]; exact ixN_nat (by rw [List.length_map, len]; omega)), ⟨_, rfl, ?_⟩⟩
        rw [upd_upd, wPart_succ, ← List.map_set]
        unfold wIn
        rw [show i + 1 + j - (i + 1) = j by omega]
      · rintro σ H' ⟨v, rfl, rfl⟩
        refine ⟨_, _, rfl, ?_⟩
        rw [wAll_succ, show ((n : Int) + 1 - (1 + (i : Int))).toNat = n - i by omega]
    · rintro σ H' ⟨u, v, rfl, rfl⟩
      have e3 : ((n : Int) + 1 - 1).toNat = n := by omega
      rw [e3]
      exact ⟨_, rfl, _, rfl, q, _, n, _, rfl, rfl, SqL.of upd_same, atI_nat (getV (by rw [wAll_len]; omega)), k _ (sm _)⟩
end
end Lk

set_option Elab.async false
set_option linter.all false
set_option maxRecDepth 100000
set_option maxHeartbeats 4000000
set_option exponentiation.threshold 10000
namespace Lk
open PySem L2 Vx
/-! signs, step divisors and common divisors refused -/
theorem tyX_at {K : PySem.W.Frag} {H H' : Hp} {y : V} {t : Value} (h : TyX K H y t) (k : ∀ a o, y = .ref a → H a = some o → H' a = some o) : TyX K H' y t := by
  cases h with
  | base b =>
    refine .base ?_
    cases b with
    | non => exact .non
    | bl x => exact .bl x
    | int i => exact .int i
    | str x => exact .str x
    | flt x => exact .flt x
    | lst e => exact .lst (k _ _ rfl e)
    | frz e => exact .frz (k _ _ rfl e)
    | tup e => exact .tup (k _ _ rfl e)
    | dK e => exact .dK (k _ _ rfl e)
    | dT e => exact .dT (k _ _ rfl e)
    | ins e cl ha hn htk hm => exact .ins (k _ _ rfl e) cl ha hn htk hm
  | byt b => exact .byt b
  | set e => exact .set (k _ _ rfl e)
  | kList e c => exact .kList e c
  | kTuple e c => exact .kTuple e c
  | kDict e c => exact .kDict e c
  | fTuple e => exact .fTuple (k _ _ rfl e)
  | fDict e => exact .fDict (k _ _ rfl e)
theorem kd_at {K : PySem.W.Frag} {H H' : Hp} {y : V} {b : Bool} (h : Kd K H y b) (k : ∀ a o, y = .ref a → H a = some o → H' a = some o) : Kd K H' y b := by
  cases h with
  | int i => exact .int i
  | bl b => exact .bl b
  | oth ty no nb ni => exact .oth (tyX_at ty k) no nb ni
theorem noR_at {K : PySem.W.Frag} {C : Addr} {H H' : Hp} {y : V} {b : Bool} (h : NoR K C H y b) (k : ∀ a o, y = .ref a → H a = some o → H' a = some o) : NoR K C H' y b := by
  obtain ⟨t, ty, no, kd⟩ := h
  exact ⟨t, tyX_at ty k, no, kd_at kd k⟩
section
variable {P : Program} {w : World} {K : PySem.W.Frag} {mg : Str → Option Value} {base : Heap} {C CE CT CO : Addr}
abbrev sMo : Stmt := top 32
abbrev sSd : Stmt := top 35
abbrev sCd : Stmt := top 29
def HPp (P : Program) (w : World) (K : PySem.W.Frag) (mg : Str → Option Value) (base : Heap) (CE CT : Addr) : Prop :=
  ∃ f fd, FnOk P w K mg base (L2.CX P w) 5 f fd ["number"] (spPp K CE CT) ∧ mg "prime_powers" = some (.ref f) ∧ PySem.W.keepIn K (.ref f) = true ∧ Binds K fd ["number"] []
/-- what cannot be factored -/
def NoF (K : PySem.W.Frag) (CE CT : Addr) (H : Hp) (E : XK) (y : V) : Prop := ∃ b, Kd K H y b ∧ ((b = false ∧ Ref CE "value" H E y) ∨ ∃ i : Int, y = .int i ∧ b = true ∧ ((i < 1 ∧ Ref CE "value" H E y) ∨ (1000000000 < i ∧ Ref CT "limit" H E (.int 1000000000))))
def spNoF (K : PySem.W.Frag) (CE CT : Addr) : Sp := fun vs H _ E => ∃ y : V, vs = [y] ∧ NoF K CE CT H E y
theorem noF_pp {K : PySem.W.Frag} {CE CT : Addr} {H : Hp} {E : XK} {Q : VK} {y : V} (h : NoF K CE CT H E y) : spPp K CE CT [y] H Q E := by
  obtain ⟨b, kd, o⟩ := h
  rcases o with ⟨rfl, r⟩ | ⟨i, rfl, rfl, ⟨c, r⟩ | ⟨c, r⟩⟩
  · exact ⟨y, false, rfl, kd, fun _ => r, fun _ _ z => nomatch z⟩
  · refine ⟨_, true, rfl, kd, (fun z => nomatch z), fun j ej _ => ?_⟩
    cases ej
    exact ⟨fun _ => r, fun z => absurd z (by omega), fun z => absurd z (by omega)⟩
  · refine ⟨_, true, rfl, kd, (fun z => nomatch z), fun j ej _ => ?_⟩
    cases ej
    exact ⟨fun z => absurd z (by omega), fun _ => r, fun _ z => absurd z (by omega)⟩
theorem scMo : FnScope ["number", "exponents"] ["number"] (defScope sMo) := ⟨rfl, rfl, rfl, by decide +kernel, rfl, by decide +kernel, by decide +kernel⟩
theorem ok_moB {f : Addr} {fd : FuncData} (F : Fun K "moebius" "moebius" sMo f fd) (S : HPp P w K mg base CE CT) (mL : mg "list" = none) : FnOk P w K mg base (L2.CX P w) 6 f fd ["number"] (spNoF K CE CT) := by
  obtain ⟨fS, dS, GS, mS, kS, bS⟩ := S
  refine F.okX scMo (fun vs H Q E h => ?_) (fun cdv A outer s H vs Q E hr h => ?_)
  · obtain ⟨y, rfl, _⟩ := h
    rfl
  · obtain ⟨y, rfl, h⟩ := h
    refine ⟨_, pss_cons (ps_set (i := 1) scMo.nd rfl (.inl rfl) (pe_listValsX (pe_call GS hr rfl mS kS bS .nil (passes_call (takes_of rfl rfl rfl rfl) (fun _ _ _ _ h => h)) (pa_cons (pv 0) pa_nil)) rfl mL)) pss_never, ?_⟩
    exact ⟨_, rfl, (noF_pp h : spPp K CE CT [y] H (fun _ _ => False) E)⟩
theorem scSd : FnScope ["number", "primes"] ["number"] (defScope sSd) := ⟨rfl, rfl, rfl, by decide +kernel, rfl, by decide +kernel, by decide +kernel⟩
def spSdB (K : PySem.W.Frag) (CE : Addr) : Sp := fun vs H _ E => ∃ (y : V) (b : Bool), vs = [y] ∧ Kd K H y b ∧ (b = false ∨ ∃ i : Int, y = .int i ∧ b = true ∧ (i < 2 ∨ 1000 < i)) ∧ Ref CE "value" H E y
theorem ok_sdB {f : Addr} {fd : FuncData} (F : Fun K "step_divisor" "step_divisor" sSd f fd) (S : HChk P w K mg base CE) (mM : ∃ t, mg "MAX_CHOSEN" = some (.int 1000 t)) : FnOk P w K mg base (L2.CX P w) 5 f fd ["number"] (spSdB K CE) := by
  obtain ⟨fS, dS, GS, mS, kS, bS⟩ := S
  obtain ⟨tk, hM⟩ := mM
  refine F.okX scSd (fun vs H Q E h => ?_) (fun cdv A outer s H vs Q E hr h => ?_)
  · obtain ⟨y, b, rfl, _⟩ := h
    rfl
  · obtain ⟨y, b, rfl, kd, o, r⟩ := h
    refine ⟨_, pss_cons (ps_expr (pe_call GS hr rfl mS kS bS .nil (passes_call (takes_of rfl rfl rfl rfl) (fun _ _ _ _ h => h)) (pa_cons (pv 0) (pa_cons pe_int (pa_cons (pe_glob rfl hM (show RelV (.int 1000) (.int 1000 tk) from ⟨_, rfl⟩)) pa_nil))))) pss_never, ?_⟩
    refine ⟨_, rfl, y, b, 2, 1000, rfl, kd, fun _ => r, fun i ei eb => ⟨fun _ => r, fun i0 i1 => ?_⟩⟩
    rcases o with rfl | ⟨j, ej, _, o⟩
    · cases eb
    · rw [ei] at ej
      cases ej
      omega
theorem scCd : FnScope ["numbers", "number", "divisor"] ["numbers"] (defScope sCd) := ⟨rfl, rfl, rfl, by decide +kernel, rfl, by decide +kernel, by decide +kernel⟩
/-- no tuple, or one with a member that is no short integer -/
def spCdB (K : PySem.W.Frag) (CO : Addr) : Sp := fun vs H _ E => ∃ y : V, vs = [y] ∧
  ((∃ t, TyX K H y t ∧ PySem.W.kitOne K t (.type "tuple") = some false ∧ E (.ref CO) none H) ∨
   (∃ (a : Addr) (xs : List V) (bs : List Bool), y = .ref a ∧ H a = some (.tup xs) ∧ xs.length < 1000 ∧ bs.length = xs.length ∧ (∀ (i : Nat) (x : V) (b : Bool), xs[i]? = some x → bs[i]? = some b → Kd K H x b) ∧ bs.all id = false ∧ ∀ H', Same H H' → E (.ref CO) none H'))
theorem ok_cdB {f : Addr} {fd : FuncData} (F : Fun K "common_divisor" "common_divisor" sCd f fd) (T : Pln K mg "InvalidOperation" CO) (S : HIsI P w K mg base) (mI : mg "isinstance" = none) (mT : mg "tuple" = none) (mA : mg "all" = none) :
    FnOk P w K mg base (L2.CX P w) 3 f fd ["numbers"] (spCdB K CO) := by
  obtain ⟨fS, dS, GS, mS, kS, bS⟩ := S
  refine F.okX scCd (fun vs H Q E h => ?_) (fun cdv A outer s H vs Q E hr h => ?_)
  · obtain ⟨y, rfl, _⟩ := h
    rfl
  · obtain ⟨y, rfl, h⟩ := h
    refine ⟨_, pss_cons (ps_if (PW.pt (pw_or (pt_not (pt_val (pe_callB call_isi (by rfl) mI (by decide +kernel) (pa_cons (pv 0) (pa_cons (pe_bltn (by rfl) mT (by decide +kernel) (show RelV (.ty "tuple") (.type "tuple") from rfl)) pa_nil)))))
        (pw_or1 (pt_not (pt_val (pe_callB (cr_all rfl) (by rfl) mA (by decide +kernel) (pa_cons (pe_lc (own := [("number", 1)]) (g := gName 1) (tt := tYes) rfl scCd.nd (pi_tup (pv 0)) (blkOk_by (N := ["numbers", "number", "divisor"]) (sc := defScope sCd) (by decide +kernel))
          (fun _ _ _ _ _ => pg_name (i := 1) scCd.nd rfl (Or.inl rfl)) (fun _ _ _ _ _ => pts_nil) (fun _ _ _ _ _ => pe_call GS (hr.mono (by decide)) rfl mS kS bS .nil pass0 (pa_cons (pv 1) pa_nil))) pa_nil)))))))
        (pss_one (ps_raiseP rfl T (takes_of rfl rfl rfl rfl))) pss_nil) pss_never, ?_⟩
    rcases h with ⟨t, ty, no, r⟩ | ⟨a, xs, bs, rfl, ha, xl, bl, kd, al, r⟩
    · exact ⟨_, rfl, _, _, _, _, false, rfl, .ty "tuple", ty, no, _, rfl, itT rfl (itT rfl r)⟩
    · refine ⟨_, rfl, _, _, _, _, true, rfl, .ty "tuple", .base (.tup ha), kit_ty (by decide +kernel), _, rfl, itF rfl ?_⟩
      refine ⟨_, rfl, a, rfl, ⟨xs, SqT.of ha⟩, fun D hD => ?_⟩
      have nD : a ≠ D := ne_of_none ha hD
      refine lc_tup (xs := xs) (fun i H' => H' = upd H D (.lst ((bs.take i).map V.bl))) (by simp) ?_ ?_ ?_
      · rintro i H' _ rfl
        exact SqT.of (by rw [upd_ne nD]; exact ha)
      · rintro i x H' hx rfl
        have il : i < xs.length := (List.getElem?_eq_some_iff.mp hx).1
        obtain ⟨b, hb⟩ : ∃ b, bs[i]? = some b := ⟨bs[i]'(by omega), List.getElem?_eq_getElem (by omega)⟩
        refine ⟨rfl, ?_⟩
        refine ⟨_, rfl, x, b, rfl, kd_at (kd i x b hx hb) (fun c o _ e => by rw [upd_ne (ne_of_none e hD)]; exact e), (bs.take i).map V.bl, upd_same, ?_, ?_⟩
        · rw [List.length_map, List.length_take]
          exact Nat.lt_of_le_of_lt (show min i bs.length ≤ 1000 by omega) (by decide)
        · rw [upd_upd, List.take_add_one, hb, List.map_append]
          rfl
      · rintro H' rfl
        rw [← bl, List.take_length]
        refine ⟨D, bs, rfl, SqL.of upd_same, ?_⟩
        rw [al]
        exact ⟨_, rfl, itT rfl (r _ (same_new hD))⟩
end
end Lk

set_option Elab.async false
set_option linter.all false
set_option maxRecDepth 100000
set_option maxHeartbeats 4000000
set_option exponentiation.threshold 10000
namespace Lk
open PySem L2 Vx
/-! divisors -/
/-- turns of any body -/
theorem turns {J : It} {n : Nat} {G : Hp → Prop} {Y : Nat → Hp → V → Hp → Prop} (w : Walk J n G Y) {B : V → Hp → (Hp → Prop) → Prop} {Qd : Hp → Prop} {H0 : Hp} (Pv : Nat → Hp → Prop) (h0 : Pv 0 H0) (hG : ∀ i H, i ≤ n → Pv i H → G H)
    (hs : ∀ i x H H', i < n → Pv i H → Y i H x H' → B x H' (Pv (i + 1))) (hd : ∀ H, Pv n H → Qd H) :
    ∃ W : Nat → Nat → Hp → Prop, (∃ m, W 0 m H0) ∧ ∀ i m H, W i m H →
      (J.stop i H ∧ Qd H) ∨ (J.go i H ∧ ∃ Nx : Hp → Prop, (∀ H', Nx H' → ∃ m', m' < m ∧ W (i + 1) m' H') ∧ ∀ x H', J.yld i H x H' → B x H' Nx) := by
  refine ⟨fun i m H => m = n - i ∧ i ≤ n ∧ Pv i H, ⟨n, by simp, Nat.zero_le _, h0⟩, ?_⟩
  rintro i m H ⟨rfl, hi, p⟩
  have q := hG i H hi p
  by_cases hlt : i < n
  · exact .inr ⟨w.goes i H hlt q, Pv (i + 1), fun H' p' => ⟨n - (i + 1), by omega, rfl, hlt, p'⟩, fun x H' y => hs i x H H' hlt p (w.yields i H x H' hlt q y)⟩
  · have e : i = n := by omega
    subst e
    exact .inl ⟨w.stops H q, hd H p⟩
def fstep (acc : List Int) (z : Int × Nat) : List Int := acc.flatMap fun d => (List.range (z.2 + 1)).map fun j => d * z.1 ^ j
def dvs (prs : List (Int × Nat)) : List Int := prs.foldl fstep [1]
def kvOf (z : Int × Nat) : L2.Key × V := (Sum.inl z.1, .int (z.2 : Int))
theorem dvs_take {prs : List (Int × Nat)} {i : Nat} {z : Int × Nat} (h : prs[i]? = some z) : dvs (prs.take (i + 1)) = fstep (dvs (prs.take i)) z := by
  unfold dvs
  rw [List.take_add_one, h, List.foldl_append]
  rfl
/-- what divisors asks of the pairs -/
structure PrOk (prs : List (Int × Nat)) : Prop where
  pos : ∀ z ∈ prs, 1 ≤ z.1 ∧ z.1 ≤ 1000000000 ∧ z.2 < 1000 ∧ z.1 ^ z.2 ≤ 1000000000
  len : ∀ i, (dvs (prs.take i)).length < 1000000
theorem pow_le_of {g : Int} {j e : Nat} (g1 : 1 ≤ g) (h : j ≤ e) : 1 ≤ g ^ j ∧ g ^ j ≤ g ^ e := by
  have p : ∀ k : Nat, 1 ≤ g ^ k := fun k => by have := Int.pow_pos (m := k) (show 0 < g by omega); omega
  obtain ⟨m, rfl⟩ := Nat.le.dest h
  refine ⟨p j, ?_⟩
  rw [Int.pow_add]
  have : g ^ j * 1 ≤ g ^ j * g ^ m := Int.mul_le_mul_of_nonneg_left (p m) (by have := p j; omega)
  omega
theorem fl_take {acc : List Int} {z : Int × Nat} {i : Nat} {d : Int} (h : acc[i]? = some d) : (acc.take (i + 1)).flatMap (fun d => (List.range (z.2 + 1)).map fun j => d * z.1 ^ j) = (acc.take i).flatMap (fun d => (List.range (z.2 + 1)).map fun j => d * z.1 ^ j) ++ (List.range (z.2 + 1)).map fun j => d * z.1 ^ j := by
  rw [List.take_add_one, h, List.flatMap_append]
  simp
theorem fl_len {z : Int × Nat} : ∀ acc : List Int, (acc.flatMap (fun d => (List.range (z.2 + 1)).map fun j => d * z.1 ^ j)).length = acc.length * (z.2 + 1)
  | [] => by simp
  | d :: r => by rw [List.flatMap_cons, List.length_append, fl_len r, List.length_map, List.length_range, List.length_cons, Nat.add_mul, Nat.one_mul, Nat.add_comm]
theorem atI_last {xs : List V} {n : Nat} {v : V} (hl : xs.length = n + 1) (h : xs[n]? = some v) : atI xs (-1) = some v := by
  have e : ixN xs.length (-1) = some n := by
    unfold ixN
    rw [hl, if_neg (by decide), if_pos (by omega)]
    exact congrArg some (by omega)
  unfold atI; rw [e]; exact h
theorem ref_same {CE : Addr} {f : Str} {H H1 : Hp} {E : XK} {v : V} (s : Same H H1) (h : Ref CE f H E v) : Ref CE f H1 E v := fun H' d s2 nd e => h H' d (Same.tr s s2) (L2.Same.free s nd) e
theorem noF_same {K : PySem.W.Frag} {CE CT : Addr} {H H1 : Hp} {E : XK} {y : V} (s : Same H H1) (h : NoF K CE CT H E y) : NoF K CE CT H1 E y := by
  obtain ⟨b, kd, o⟩ := h
  refine ⟨b, kd_at kd (fun a u _ e => s a u e), ?_⟩
  rcases o with ⟨e, r⟩ | ⟨i, e1, e2, ⟨c, r⟩ | ⟨c, r⟩⟩
  · exact .inl ⟨e, ref_same s r⟩
  · exact .inr ⟨i, e1, e2, .inl ⟨c, ref_same s r⟩⟩
  · exact .inr ⟨i, e1, e2, .inr ⟨c, ref_same s r⟩⟩
theorem noF_parts {K : PySem.W.Frag} {CE CT : Addr} {H : Hp} {E : XK} {y : V} (h : NoF K CE CT H E y) : ∃ b, Kd K H y b ∧ (b = false → Ref CE "value" H E y) ∧
    ∀ i : Int, y = .int i → b = true → (i < 1 → Ref CE "value" H E y) ∧ (1000000000 < i → Ref CT "limit" H E (.int 1000000000)) ∧ (1 ≤ i → i ≤ 1000000000 → False) := by
  obtain ⟨b, kd, o⟩ := h
  rcases o with ⟨rfl, r⟩ | ⟨i, rfl, rfl, ⟨c, r⟩ | ⟨c, r⟩⟩
  · exact ⟨false, kd, fun _ => r, fun _ _ z => nomatch z⟩
  · refine ⟨true, kd, (fun z => nomatch z), fun j ej _ => ?_⟩
    cases ej
    exact ⟨fun _ => r, fun z => absurd z (by omega), fun z => absurd z (by omega)⟩
  · refine ⟨true, kd, (fun z => nomatch z), fun j ej _ => ?_⟩
    cases ej
    exact ⟨fun z => absurd z (by omega), fun _ => r, fun _ z => absurd z (by omega)⟩
theorem snoc_map (A : List Int) (f : Nat → Int) (j : Nat) : (A ++ (List.range j).map f).map V.int ++ [V.int (f j)] = (A ++ (List.range (j + 1)).map f).map V.int := by
  rw [List.range_succ]; simp
theorem rangeV (n : Nat) (f : Nat → Int) (i : Nat) (h : i < n) : ((List.range n).map fun m => V.int (f m))[i]? = some (.int (f i)) := by
  rw [List.getElem?_map, List.getElem?_range h]; rfl
section
variable {P : Program} {w : World} {K : PySem.W.Frag} {mg : Str → Option Value} {base : Heap} {C CE CT CO : Addr}
abbrev sDv : Stmt := top 30
abbrev nDv : List Str := ["number", "found", "prime", "exponent", "powers", "_", "divisor", "power"]
theorem scDv : FnScope nDv ["number"] (defScope sDv) := ⟨rfl, rfl, rfl, by decide +kernel, rfl, by decide +kernel, by decide +kernel⟩
def spDv (K : PySem.W.Frag) (CE CT : Addr) : Sp := fun vs H Q E => ∃ y : V, vs = [y] ∧ (NoF K CE CT H E y ∨
  ∃ (i : Int) (prs : List (Int × Nat)), y = .int i ∧ 1 ≤ i ∧ i ≤ 1000000000 ∧ ppd i = prs.map kvOf ∧ PrOk prs ∧
    ∀ (H' : Hp) (t : Addr) (ns : List Int), Same H H' → ns.Perm (dvs prs) → ns.Pairwise (· ≤ ·) → H' t = some (.tup (ns.map V.int)) → Q (.ref t) H')
theorem ok_dv {f : Addr} {fd : FuncData} (F : Fun K "divisors" "divisors" sDv f fd) (S : HPp P w K mg base CE CT) (mR : mg "range" = none) (mT : mg "tuple" = none) (mS : mg "sorted" = none) :
    FnOk P w K mg base (L2.CX P w) 6 f fd ["number"] (spDv K CE CT) := by
  obtain ⟨fP, dP, GP, mP, kP, bP⟩ := S
  refine F.okX scDv (fun vs H Q E h => ?_) (fun cdv A outer s H vs Q E hr h => ?_)
  · obtain ⟨y, rfl, _⟩ := h
    rfl
  · obtain ⟨y, rfl, h⟩ := h
    refine ⟨_, pss_cons (ps_set (i := 1) scDv.nd rfl (.inl rfl) (pe_lst (pa_cons pe_int pa_nil)))
      (pss_cons (ps_for (passes_of rfl) rfl (pi_itemsN (pe_call GP hr rfl mP kP bP .nil (passes_call (takes_of rfl rfl rfl rfl) (fun _ _ _ _ h => h)) (pa_cons (pv 0) pa_nil))) (pg_tup rfl (pgs_cons (pg_name (i := 2) scDv.nd rfl (.inl rfl)) (pgs_cons (pg_name (i := 3) scDv.nd rfl (.inl rfl)) pgs_nil)))
        (pss_cons (ps_set (i := 4) scDv.nd rfl (.inr rfl) (pe_lst (pa_cons pe_int pa_nil)))
        (pss_cons (ps_for (passes_of rfl) rfl (pi_range1 rfl mR (pa_cons (pv 3) pa_nil)) (pg_name (i := 5) scDv.nd rfl (.inl rfl))
          (pss_one (ps_expr (pe_bm PySem.F.plainAttrs_list PySem.F.slot_list_append PySem.F.type_list_append mt_append (pv 4) (pa_cons (pe_op op_mul (pe_ix ix_list (pv 4) (pe_un un_neg pe_int) (fun _ _ => rfl)) (pv 2)) pa_nil)))))
        (pss_one (ps_setLc2 (i := 1) (own := [("divisor", 6), ("power", 7)]) (vs1 := [7]) (g := gName 6) (tt := tYes) (g1 := gName 7) (tt1 := tYes) (wi1 := iList K (tVar 4)) rfl scDv.nd rfl rfl (sw_true rfl rfl rfl (by decide +kernel)) (pi_list (pv 1)) (blkOk_by (N := nDv) (sc := defScope sDv) (by decide +kernel)) (by decide)
          (fun _ _ _ _ _ => pg_name (i := 6) scDv.nd rfl (.inl rfl)) (fun _ _ _ _ _ => pts_nil) (fun _ _ _ _ _ => pi_list (pv 4)) (fun _ _ _ _ _ => pg_name (i := 7) scDv.nd rfl (.inl rfl)) (fun _ _ _ _ _ => pts_nil) (fun _ _ _ _ _ => pe_op op_mul (pv 6) (pv 7)))))))
      (pss_one (ps_ret (pe_callTy call_tuple_of (by rfl) mT (by decide +kernel) (pa_cons (pe_callB cr_sortedI (by rfl) mS (by decide +kernel) (pa_cons (pv 1) pa_nil)) pa_nil))))), ?_⟩
    refine ⟨(by show 1 ≤ sizeLine; decide), fun l1 n1 => ?_⟩
    refine ⟨_, rfl, ?_⟩
    rcases h with h | ⟨i0, prs, rfl, i1, i9, ep, ok, k⟩
    · obtain ⟨b, kd, r1, r2⟩ := noF_parts (noF_same (same_new n1 (o := .lst [V.int 1])) h)
      exact ⟨y, b, rfl, kd, r1, fun i ei eb => ⟨(r2 i ei eb).1, (r2 i ei eb).2.1, fun a c => ((r2 i ei eb).2.2 a c).elim⟩⟩
    have kd : Kd K (upd H l1 (.lst [V.int 1])) (.int i0) true := by
      have := Kd.int (K := K) (H := upd H l1 (.lst [V.int 1])) i0
      rw [both (by unfold LONG; omega) (by unfold LONG; omega)] at this
      exact this
    refine ⟨_, true, rfl, kd, (fun z => nomatch z), fun j ej _ => ?_⟩
    cases ej
    refine ⟨fun z => absurd z (by omega), fun z => absurd z (by omega), fun _ _ p np => ?_⟩
    rw [ep]
    refine ⟨p, _, rfl, upd_same, fun od => ?_⟩
    rw [upd_upd]
    have nlp : l1 ≠ p := fun z => by rw [← z, upd_same] at np; cases np
    have s02 : Same H (upd (upd H l1 (.lst [V.int 1])) p (.frz od (.dK (prs.map kvOf)))) := Same.tr (same_new n1) (same_new np)
    have h2l : (upd (upd H l1 (.lst [V.int 1])) p (.frz od (.dK (prs.map kvOf)))) l1 = some (.lst [V.int 1]) := by rw [upd_ne nlp, upd_same]
    have h2p : (upd (upd H l1 (.lst [V.int 1])) p (.frz od (.dK (prs.map kvOf)))) p = some (.frz od (.dK (prs.map kvOf))) := upd_same
    generalize upd (upd H l1 (.lst [V.int 1])) p (.frz od (.dK (prs.map kvOf))) = H2 at *
    refine for_it walk_items (fun i σ H' => ∃ (a : Addr) (u2 u3 u4 u5 : Option V), σ = [some (.int i0), some (.ref a), u2, u3, u4, u5, none, none] ∧ Same H2 H' ∧ H' a = some (.lst ((dvs (prs.take i)).map V.int))) ?_ ?_ ?_ ?_
    · exact ⟨l1, none, none, none, none, rfl, same_refl H2, h2l⟩
    · rintro i σ H' _ ⟨a, u2, u3, u4, u5, rfl, sm, ha⟩
      exact sm _ _ h2p
    · rintro i x σ H' H'' hi ⟨a, u2, u3, u4, u5, rfl, sm, ha⟩ ⟨T, kx, vx, rfl, nT, rfl, ek, ev⟩
      rw [List.length_map] at hi
      obtain ⟨z, hz⟩ : ∃ z, prs[i]? = some z := ⟨prs[i], List.getElem?_eq_getElem hi⟩
      have hzm : z ∈ prs := List.mem_of_getElem? hz
      obtain ⟨z1, z9, ze, zp⟩ := ok.pos z hzm
      dsimp only at ek ev
      rw [List.getElem?_map, hz] at ek ev
      cases ek
      cases ev
      have naT : a ≠ T := ne_of_none ha nT
      refine ⟨T, _, rfl, .inl (.inl upd_same), rfl, _, _, rfl, _, _, rfl, rfl, ?_⟩
      refine ⟨(by show 1 ≤ sizeLine; decide), fun q nq => ?_⟩
      have sq : Same H' (upd H' T (.tup [kV (kvOf z).1, (kvOf z).2])) := same_new nT
      generalize upd H' T (.tup [kV (kvOf z).1, (kvOf z).2]) = Hq at *
      have haq : Hq a = some (.lst ((dvs (prs.take i)).map V.int)) := sq _ _ ha
      have naq : a ≠ q := ne_of_none haq nq
      refine ⟨_, rfl, (z.2 : Int), rfl, by omega, by omega, for_range (fun j σ H3 => ∃ u5 : Option V, σ = [some (.int i0), some (.ref a), some (.int z.1), some (.int (z.2 : Int)), some (.ref q), u5, none, none] ∧ H3 = upd Hq q (.lst ((List.range (j + 1)).map fun m => V.int (z.1 ^ m)))) ⟨_, rfl, ?_⟩ ?_ ?_⟩
      · show upd Hq q (.lst [V.int 1]) = upd Hq q (.lst [V.int (z.1 ^ 0)])
        rw [Int.pow_zero]
      · rintro j σ H3 hj ⟨u5, rfl, rfl⟩
        have hj' : j < z.2 := by omega
        obtain ⟨pw1, pw2⟩ := pow_le_of (j := j) (e := z.2) z1 (by omega)
        refine ⟨_, rfl, .inl ⟨rfl, _, SqL.of upd_same⟩, ?_⟩
        refine ⟨_, rfl, _, rfl, q, _, -1, _, rfl, rfl, SqL.of upd_same, atI_last (n := j) (by rw [List.length_map, List.length_range]) (rangeV (j + 1) (fun m => z.1 ^ m) j (by omega)), ?_⟩
        refine ⟨_, rfl, _, _, rfl, rfl, .inl ⟨by omega, by omega⟩, ?_⟩
        refine ⟨q, _, _, rfl, rfl, upd_same, ?_, _, rfl, ?_⟩
        · rw [List.length_map, List.length_range]
          exact Nat.lt_of_le_of_lt (show j + 1 ≤ 1000 by omega) (by decide)
        · rw [upd_upd, List.range_succ (n := j + 1), List.map_append]
          show upd Hq q (.lst (_ ++ [V.int (z.1 ^ j * z.1)])) = upd Hq q (.lst (_ ++ [V.int (z.1 ^ (j + 1))]))
          rw [Int.pow_succ]
      · rintro σ H3 ⟨u5, rfl, rfl⟩
        rw [Int.toNat_natCast]
        have h3a : (upd Hq q (.lst ((List.range (z.2 + 1)).map fun m => V.int (z.1 ^ m)))) a = some (.lst ((dvs (prs.take i)).map V.int)) := by rw [upd_ne naq]; exact haq
        have h3q : (upd Hq q (.lst ((List.range (z.2 + 1)).map fun m => V.int (z.1 ^ m)))) q = some (.lst ((List.range (z.2 + 1)).map fun m => V.int (z.1 ^ m))) := upd_same
        have s3 : Same H2 (upd Hq q (.lst ((List.range (z.2 + 1)).map fun m => V.int (z.1 ^ m)))) := Same.tr sm (Same.tr sq (same_new nq))
        generalize upd Hq q (.lst ((List.range (z.2 + 1)).map fun m => V.int (z.1 ^ m))) = H3 at *
        refine ⟨_, rfl, a, rfl, ⟨_, SqL.of h3a⟩, fun D nD => ?_⟩
        have naD : a ≠ D := ne_of_none h3a nD
        have nqD : q ≠ D := ne_of_none h3q nD
        refine turns (walk_list (xs := (dvs (prs.take i)).map V.int)) (fun i' H4 => H4 = upd H3 D (.lst ((((dvs (prs.take i)).take i').flatMap (fun d => (List.range (z.2 + 1)).map fun j => d * z.1 ^ j)).map V.int))) (by simp) ?_ ?_ ?_
        · rintro i' H4 _ rfl
          exact SqL.of (by rw [upd_ne naD]; exact h3a)
        · rintro i' x H4 H5 hi' rfl ⟨rfl, hx⟩
          rw [List.length_map] at hi'
          obtain ⟨d, hd⟩ : ∃ d, (dvs (prs.take i))[i']? = some d := ⟨(dvs (prs.take i))[i'], List.getElem?_eq_getElem hi'⟩
          rw [List.getElem?_map, hd] at hx
          cases hx
          refine ⟨rfl, ?_⟩
          refine ⟨_, rfl, q, rfl, ⟨_, SqL.of (by rw [upd_ne nqD]; exact h3q)⟩, ?_⟩
          refine turns (walk_list (xs := (List.range (z.2 + 1)).map fun m => V.int (z.1 ^ m))) (fun j H4 => H4 = upd H3 D (.lst ((((dvs (prs.take i)).take i').flatMap (fun d => (List.range (z.2 + 1)).map fun j => d * z.1 ^ j) ++ (List.range j).map fun j => d * z.1 ^ j).map V.int))) (by simp) ?_ ?_ ?_
          · rintro j H4 _ rfl
            exact SqL.of (by rw [upd_ne nqD]; exact h3q)
          · rintro j x H4 H5 hj rfl ⟨rfl, hx⟩
            rw [List.length_map, List.length_range] at hj
            rw [rangeV (z.2 + 1) (fun m => z.1 ^ m) j hj] at hx
            cases hx
            obtain ⟨pw1, pw2⟩ := pow_le_of (j := j) (e := z.2) z1 (by omega)
            refine ⟨rfl, ⟨_, rfl, _, rfl, _, _, rfl, rfl, .inr ⟨by omega, by omega⟩, _, upd_same, ?_, ?_⟩⟩
            · have l1 := ok.len (i + 1)
              rw [dvs_take hz] at l1
              unfold fstep at l1
              rw [fl_len] at l1
              rw [List.length_map, List.length_append, fl_len, List.length_take, List.length_map, List.length_range, Nat.min_eq_left (by omega)]
              have : (i' + 1) * (z.2 + 1) ≤ (dvs (prs.take i)).length * (z.2 + 1) := Nat.mul_le_mul_right _ (by omega)
              rw [Nat.add_mul, Nat.one_mul] at this
              exact Nat.lt_of_lt_of_le (show i' * (z.2 + 1) + j < 1000000 by omega) (by decide)
            · show upd (upd H3 D (.lst (((((dvs (prs.take i)).take i').flatMap (fun d => (List.range (z.2 + 1)).map fun j => d * z.1 ^ j)) ++ (List.range j).map fun j => d * z.1 ^ j).map V.int))) D (.lst (_ ++ [V.int (d * z.1 ^ j)])) = upd H3 D (.lst (((((dvs (prs.take i)).take i').flatMap (fun d => (List.range (z.2 + 1)).map fun j => d * z.1 ^ j)) ++ (List.range (j + 1)).map fun j => d * z.1 ^ j).map V.int))
              rw [upd_upd, ← snoc_map _ (fun j => d * z.1 ^ j) j]
          · rintro H4 rfl
            rw [List.length_map, List.length_range, fl_take hd]
        · rintro H4 rfl
          rw [List.length_map, List.take_length]
          refine ⟨D, _, _, _, _, rfl, Same.tr s3 (same_new nD), ?_⟩
          rw [upd_same, dvs_take hz]
          rfl
    · rintro σ H' ⟨a, u2, u3, u4, u5, rfl, sm, ha⟩
      rw [List.length_map, List.take_length] at ha
      exact ⟨_, rfl, a, dvs prs, rfl, SqL.of ha, fun ns p2 pe so np2 => ⟨p2, _, rfl, .inl ⟨SqL.of upd_same, fun t nt => k _ t ns (Same.tr s02 (Same.tr sm (Same.tr (same_new np2) (same_new nt)))) pe so upd_same⟩⟩⟩
end
end Lk

set_option Elab.async false
set_option linter.all false
set_option maxRecDepth 100000
set_option maxHeartbeats 4000000
/-! == of nested lists and tuples that are equal, the same objects among them -/
namespace Lk
open PySem PySem.Spec PyProof.Rows L2
/-- one and the same; or two lists, or two tuples, of equal items -/
def EqT (K : PySem.W.Frag) (H : Hp) : Nat → V → V → Prop
  | 0 => fun _ _ => False
  | n + 1 => fun x y => (x = y ∧ flatB x = true) ∨ (∃ a, x = .ref a ∧ y = .ref a) ∨
      ∃ a b xs ys, x = .ref a ∧ y = .ref b ∧ ((SqL K H a xs ∧ SqL K H b ys) ∨ (SqT K H a xs ∧ SqT K H b ys)) ∧ Paired (EqT K H n) xs ys
theorem itemsT_run {A : Around} {s : Shared} {F : V → V → Prop} (ih : ∀ x y v u, F x y → RelV x v → RelV y u → SeqAt.EqAt A s v u true) {xs ys : List V} (hp : Paired F xs ys) :
    ∀ {us ws : List Value}, Vals xs us → Vals ys ws → ∀ j (h1 : j < us.length) (h2 : j < ws.length), SeqAt.EqAt A s us[j] ws[j] true := by
  induction hp with
  | nil =>
    intro us ws r1 r2 j h1 h2
    cases r1
    exact absurd h1 (Nat.not_lt_zero j)
  | cons h _ k =>
    intro us ws r1 r2 j h1 h2
    cases r1 with
    | cons a1 b1 =>
      cases r2 with
      | cons a2 b2 =>
        cases j with
        | zero => exact ih _ _ _ _ h a1 a2
        | succ j => exact k b1 b2 j (Nat.lt_of_succ_lt_succ h1) (Nat.lt_of_succ_lt_succ h2)
section
variable {X : Cx} {pins : List (Addr × Obj)} {σ : L2.St} {H : Hp} {s : Shared}
theorem rcT_run (I : Inv X pins σ H s) {A : Around} {F : V → V → Prop} (hu : A.units < cLine) (ih : ∀ x y v u, F x y → RelV x v → RelV y u → SeqAt.EqAt A.in1 s v u true) {a b : Addr} {xs ys : List V}
    (h : (SqL X.K H a xs ∧ SqL X.K H b ys) ∨ (SqT X.K H a xs ∧ SqT X.K H b ys)) (hp : Paired F xs ys) : SeqAt.RcAt A s (.ref a) (.ref b) true := by
  rcases h with ⟨ha, hb⟩ | ⟨ha, hb⟩
  · obtain ⟨us, r1, p1, _⟩ := I.list ha
    obtain ⟨ws, r2, p2, _⟩ := I.list hb
    have hsz : us.toArray.size = ws.toArray.size := by
      rw [List.size_toArray, List.size_toArray, ← r1.length, ← r2.length]
      exact Paired.length hp
    have q := SeqAt.RcAt.lists (e := fun _ => true) p1.isList p2.isList hsz hu (fun j h1 h2 => by
      have k := itemsT_run ih hp r1 r2 j (by simpa using h1) (by simpa using h2)
      simpa using k)
    rw [show ((List.range us.toArray.size).all fun _ => true) = true from List.all_eq_true.mpr fun _ _ => rfl] at q
    exact q
  · obtain ⟨us, r1, p1, _⟩ := I.tuple ha
    obtain ⟨ws, r2, p2, _⟩ := I.tuple hb
    have hsz : us.toArray.size = ws.toArray.size := by
      rw [List.size_toArray, List.size_toArray, ← r1.length, ← r2.length]
      exact Paired.length hp
    have q := SeqAt.RcAt.tuples (e := fun _ => true) p1 p2 hu (fun j h1 h2 => by
      have k := itemsT_run ih hp r1 r2 j (by simpa using h1) (by simpa using h2)
      simpa using k)
    rw [show ((List.range (min us.toArray.size ws.toArray.size)).all fun _ => true) = true from List.all_eq_true.mpr fun _ _ => rfl, hsz, Bool.true_and, beq_self_eq_true] at q
    exact q
theorem eqT_run (I : Inv X pins σ H s) : ∀ (n : Nat) (A : Around), A.units + n < cLine → ∀ (x y : V) (v u : Value), EqT X.K H n x y → RelV x v → RelV y u → SeqAt.EqAt A s v u true
  | 0, _, _, _, _, _, _, h, _, _ => (show False from h).elim
  | n + 1, A, hu, x, y, v, u, h, rx, ry => by
    rcases h with ⟨rfl, f⟩ | ⟨a, rfl, rfl⟩ | ⟨a, b, xs, ys, rfl, rfl, h, hp⟩
    · exact eqAt_same rx ry f
    · cases (show v = Value.ref a from rx)
      cases (show u = Value.ref a from ry)
      exact SeqAt.EqAt.same _
    · cases (show v = Value.ref a from rx)
      cases (show u = Value.ref b from ry)
      by_cases e : a = b
      · subst e
        exact SeqAt.EqAt.same _
      · exact SeqAt.EqAt.of_refs e (rcT_run I (A := A) (by omega) (eqT_run I n A.in1 (by show A.units + 1 + n < cLine; omega)) h hp)
end
section
variable {X : Cx}
/-- a == b, two lists, or two tuples, that are equal -/
def rEqT (K : PySem.W.Frag) : R2 := fun x y H Q => ∃ n a b xs ys, n ≤ 60 ∧ x = .ref a ∧ y = .ref b ∧ ((SqL K H a xs ∧ SqL K H b ys) ∨ (SqT K H a xs ∧ SqT K H b ys)) ∧ Paired (EqT K H n) xs ys ∧ Q (.bl true) H
theorem op_eqT (hu : X.A.units + 64 < cLine) : OpR X (compareOp .Eq) (rEqT X.K) := by
  intro pins s σ H x y v u Q I rx ry h
  obtain ⟨n, a, b, xs, ys, hn, rfl, rfl, h, hp, q⟩ := h
  cases (show v = Value.ref a from rx)
  cases (show u = Value.ref b from ry)
  exact rcT_run I (A := X.A) (by omega) (eqT_run I n X.A.in1 (by show X.A.units + 1 + n < cLine; omega)) h hp X.prog X.w _ _ ⟨.bl true, H, I, rfl, q⟩
theorem eqT_flat {K : PySem.W.Frag} {H : Hp} {n : Nat} {x : V} (f : flatB x = true) : EqT K H (n + 1) x x := .inl ⟨rfl, f⟩
theorem eqT_ref {K : PySem.W.Frag} {H : Hp} {n : Nat} {a : Addr} : EqT K H (n + 1) (.ref a) (.ref a) := .inr (.inl ⟨a, rfl, rfl⟩)
theorem eqT_same {K : PySem.W.Frag} {H : Hp} {n : Nat} {x : V} (f : flatB x = true ∨ ∃ a, x = .ref a) : EqT K H (n + 1) x x := by
  rcases f with f | ⟨a, rfl⟩
  · exact eqT_flat f
  · exact eqT_ref
theorem eqT_tup {K : PySem.W.Frag} {H : Hp} {n : Nat} {a b : Addr} {xs ys : List V} (h1 : SqT K H a xs) (h2 : SqT K H b ys) (hp : Paired (EqT K H n) xs ys) : EqT K H (n + 1) (.ref a) (.ref b) := .inr (.inr ⟨a, b, xs, ys, rfl, rfl, .inr ⟨h1, h2⟩, hp⟩)
theorem eqT_lst {K : PySem.W.Frag} {H : Hp} {n : Nat} {a b : Addr} {xs ys : List V} (h1 : SqL K H a xs) (h2 : SqL K H b ys) (hp : Paired (EqT K H n) xs ys) : EqT K H (n + 1) (.ref a) (.ref b) := .inr (.inr ⟨a, b, xs, ys, rfl, rfl, .inl ⟨h1, h2⟩, hp⟩)
end
end Lk

set_option Elab.async false
set_option linter.all false
set_option maxRecDepth 100000
set_option maxHeartbeats 4000000
/-! a try with several clauses, each with a name or without -/
namespace Lk
open PySem PySem.Spec PyProof.Rows L2
/-- what a suite finds: what it is to do with the caught error -/
abbrev Sut := Addr → Value → Option Addr → TS
/-- the ends of a suite whose clause names the slot i: the slot is empty behind it -/
def clr (i : Nat) (D : Ends) : Ends := { nx := fun σ H => D.nx (σ.set i none) H, rt := D.rt, bk := fun σ H => D.bk (σ.set i none) H, ct := fun σ H => D.ct (σ.set i none) H }
/-- how a suite begins: without a name, or with the error in the slot i -/
def enterBy (o : Option Nat) (ts : Sut) (a : Addr) (cls : Value) (d : Option Addr) (D : Ends) (σ : L2.St) (H : Hp) : Prop :=
  match o with
  | none => ts a cls d D σ H
  | some i => ts a cls d (clr i D) (σ.set i (some (.ref a))) H
def wMix (K : PySem.W.Frag) (Wout : WX) (D : Ends) : List (Value × Option Nat × Sut) → WX
  | [] => Wout
  | (c, o, ts) :: r => fun cls d σ H => ∃ b, PySem.W.exmOne K cls c = some b ∧ (b = true → ∀ a, H a = none → enterBy o ts a cls d D σ H) ∧ (b = false → wMix K Wout D r cls d σ H)
abbrev SutOk (X : Cx) (b₀ : Stmt) (suite : List Stmt) (ts : Sut) : Prop :=
  ∀ (a : Addr) (oe : Obj) (cls : Value) (d : Option Addr) (pn : List (Addr × Obj)), Zc cls d oe → (∃ vs, oe.data = .fields vs) → PSs (X.suite a ((a, oe) :: pn)) (b₀ :: suite) (ts a cls d)
inductive Hs (X : Cx) : List ExceptHandler → List (Value × Option Nat × Sut) → Prop
  | nil : Hs X [] []
  | plain {x : Str} {c : Value} {ts : Sut} {b₀ : Stmt} {suite : List Stmt} {np pq : Pos} {hds : List ExceptHandler} {l : List (Value × Option Nat × Sut)} (hc : Names X x c) (hsu : SutOk X b₀ suite ts) (r : Hs X hds l) :
      Hs X (.ExceptHandler (some (.Name x np)) none (b₀ :: suite) pq :: hds) ((c, none, ts) :: l)
  | named {x n : Str} {c : Value} {i : Nat} {ts : Sut} {b₀ : Stmt} {suite : List Stmt} {np pq : Pos} {hds : List ExceptHandler} {l : List (Value × Option Nat × Sut)} (hi : X.N[i]? = some n) (hl : X.env.kindOf n = some .local) (hc : Names X x c) (hsu : SutOk X b₀ suite ts) (r : Hs X hds l) :
      Hs X (.ExceptHandler (some (.Name x np)) (some n) (b₀ :: suite) pq :: hds) ((c, some i, ts) :: l)
section
variable {X : Cx} {body : List Stmt} {g₀ : ExceptHandler} {gs : List ExceptHandler} {l : List (Value × Option Nat × Sut)} {pos : Pos} {tb : WX → TS} {Wout : WX}
theorem ps_try_mix (st : X.stack = X.env :: X.outer) (fr : X.env.frame = some X.env.locals) (nd : X.N.Nodup) (tk : Takes X Wout)
    (hb : ∀ (W : WX) (pn : List (Addr × Obj)) (xe : Value → Shared → Prop), Takes (X.tr pn xe) W → PassesOwn (model X.prog X.w) X.A X.env xe → PSs (X.tr pn xe) body (tb W))
    (hh : Hs X (g₀ :: gs) l) : PS X (.Try body (g₀ :: gs) [] [] pos) (fun D σ H => tb (wMix X.K Wout D l) D σ H) := by
  refine ⟨fun pins s σ H D I h => ?_⟩
  have good := I.ok
  have frames : X.A.frames = some (X.env :: X.outer) := by rw [good.frames, st]
  refine wpAny_Try_except (wpAny_mono ((hb (wMix X.K Wout D l) (X.pn ++ pins) (fun e s1 => wpAny (model X.prog X.w) X.A (noteFrame e X.env) (fun _ s2 => wpAny (model X.prog X.w) X.A (setFlight e none) (fun _ s3 =>
    wpAny (model X.prog X.w) X.A (handleBy e X.env (g₀ :: gs)) (SP X pins D) X.xe s3) X.xe s2) X.xe s1) (fun u s' air => ?_) PassesOwn.looking).run [] s σ H D (I.toTry _) h) (fun fl s1 q => ?_) (fun _ _ q => q))
  · obtain ⟨a, B, sI, pins1, σ1, H1, cls, d, rfl, J0, same, up, sky, none_a, os, ag, wish⟩ := air
    have J : Inv X pins σ1 H1 sI := J0.ofTry good
    have sky1 : Sky B (X.env :: X.outer) a (Zc cls d) X.env.locals s'.heap := st ▸ sky
    show wpAny (model X.prog X.w) X.A (noteFrame (.ref a) X.env) _ _ _
    refine Sky.land Zc.steady frames fr sky1 fun h3 fly up3 => ?_
    have J3 : Inv X pins σ1 H1 { s' with heap := h3 } := J.landed same fly.1 (up.trans up3) os ag
    obtain ⟨oe, vs, he, hz, hd⟩ := fly.there
    have out : a ∉ frs (X.env :: X.outer) := fun hm => by
      obtain ⟨_, o2, e2, nf⟩ := fly.2.2.1.mem hm
      rw [he] at e2; cases e2
      exact nf _ hd
    have nL : a ≠ X.env.locals := fun z => out (List.mem_filterMap.mpr ⟨X.env, List.mem_cons_self, by rw [fr, z]⟩)
    have nF : a ∉ X.fs := fun hm => by
      obtain ⟨e, m, q⟩ := List.mem_filterMap.mp hm
      exact out (List.mem_filterMap.mpr ⟨e, List.mem_cons_of_mem _ m, q⟩)
    have S3 := J3.suite he hd none_a nL nF
    have typ : PySem.W.Looks (model X.prog X.w) h3 (typeOf (.ref a)) cls := fun A Q E s k q => wpAny_typeOf_ref (k _ _ he) (by rw [hz.1]; exact q)
    have name : ∀ {x : Str} {c : Value} {np : Pos} {Q E : Value → Shared → Prop}, Names X x c → Q c { s' with heap := h3 } → wpAny (model X.prog X.w) (X.A.mark (some (.ref a))) (eval (.Name x np) X.env) Q E { s' with heap := h3 } := by
      intro x c np Q E hc q
      obtain ⟨hg, hdb, hm | ⟨hm, hv, hnn⟩⟩ := hc
      · exact ld_glob (X := X.suite a ((a, oe) :: (X.pn ++ pins))) S3 hg hm q hdb
      · exact ld_blt (X := X.suite a ((a, oe) :: (X.pn ++ pins))) S3 hg hm hv q hnn hdb
    have go : ∀ {hs : List ExceptHandler} {m : List (Value × Option Nat × Sut)}, Hs X hs m → wMix X.K Wout D m cls d σ1 H1 → wpAny (model X.prog X.w) X.A (handleBy (.ref a) X.env hs) (SP X pins D) X.xe { s' with heap := h3 } := by
      intro hs m hk
      induction hk with
      | nil =>
        intro w
        refine wpAny_handleBy_nil ?_
        obtain ⟨_, _, _, o1, v1, T, _, _, e1, _, d1, f1, _⟩ := id fly
        unfold PySem.passOn
        refine wpAny_bind (wpAny_field e1 d1 f1 ?_)
        rw [if_neg (show ¬ ((Value.ref T == Value.none) = true) from by simp)]
        have fin : wpAny (model X.prog X.w) X.A (setFlight (.ref a) X.env.frame) (fun _ s4 => wpAny (model X.prog X.w) X.A (throw (.ref a) : Sem Flow) (SP X pins D) X.xe s4) X.xe { s' with heap := h3 } := by
          rw [fr]
          refine HandSPX.setFlight_upZ fly fun h4 held up4 => wpAny_throw (tk _ _ ?_)
          exact ⟨a, B, sI, pins, σ1, H1, cls, d, rfl, J, same, (up.trans up3).trans up4, .inr (.inr (by rw [st]; exact held)), none_a, os, ag, w⟩
        first
          | exact wpAny_bind (wpAny_pure (wpAny_bind fin))
          | exact wpAny_bind fin
      | @plain x c ts b₀ suite np pq hds m hc hsu r ih =>
        intro w
        obtain ⟨b, hb1, yes, no⟩ := w
        refine wpAny_handleBy_cons (codeAny_handlers_test ?_) (by intro q; cases q)
        refine name hc ((PySem.W.exm_one (M := model X.prog X.w) J3.kIn typ hb1).here ?_)
        cases b with
        | true =>
          refine codeAny_handlers_suite ?_
          refine HandSPX.lands_againZ fly fun h4 fly4 up4 => ?_
          have J4 : Inv X pins σ1 H1 { s' with heap := h4 } := J.landed same fly4.1 ((up.trans up3).trans up4) os ag
          obtain ⟨oe4, _, he4, hz4, hd4⟩ := fly4.there
          have S4 := J4.suite he4 hd4 none_a nL nF
          refine wpAny_mono ((hsu a oe4 cls d (X.pn ++ pins) hz4 ⟨_, hd4⟩).run [] _ _ H1 _ S4 (yes rfl a none_a)) (fun fl s6 q => ?_) (fun _ _ z => z.elim)
          cases fl with
          | ret u => obtain ⟨v6, σ6, H6, S6, r6, q6⟩ := q; exact ⟨_, _, _, S6.unsuite good, r6, q6⟩
          | next => obtain ⟨σ6, H6, S6, q6⟩ := q; exact ⟨_, _, S6.unsuite good, q6⟩
          | brk => obtain ⟨σ6, H6, S6, q6⟩ := q; exact ⟨_, _, S6.unsuite good, q6⟩
          | cont => obtain ⟨σ6, H6, S6, q6⟩ := q; exact ⟨_, _, S6.unsuite good, q6⟩
        | false =>
          show wpAny _ X.A (handleBy (.ref a) X.env hds) _ _ _
          exact ih (no rfl)
      | @named x n c i ts b₀ suite np pq hds m hi hl hc hsu r ih =>
        intro w
        obtain ⟨b, hb1, yes, no⟩ := w
        refine wpAny_handleBy_cons (codeAny_handlers_test ?_) (by intro q; cases q)
        refine name hc ((PySem.W.exm_one (M := model X.prog X.w) J3.kIn typ hb1).here ?_)
        cases b with
        | true =>
          refine codeAny_handlers_suite_as ?_
          refine HandSPX.lands_againZ fly fun h4 fly4 up4 => ?_
          have J4 : Inv X pins σ1 H1 { s' with heap := h4 } := J.landed same fly4.1 ((up.trans up3).trans up4) os ag
          obtain ⟨oe4, _, he4, hz4, hd4⟩ := fly4.there
          have S4 := J4.suite he4 hd4 none_a nL nF
          refine store_ok (X := X.suite a ((a, oe4) :: (X.pn ++ pins))) (v := .ref a) S4 nd hi (.inl hl) rfl (fun s5 S5 => ?_) (.inr hl)
          refine wpAny_mono ((hsu a oe4 cls d (X.pn ++ pins) hz4 ⟨_, hd4⟩).run [] s5 _ H1 _ S5 (yes rfl a none_a)) (fun fl s6 q => ?_) (fun _ _ z => z.elim)
          cases fl with
          | ret u => obtain ⟨v6, σ6, H6, S6, r6, q6⟩ := q; exact gone_ok (S6.unsuite good) nd hi hl fun s7 J7 => ⟨_, _, _, J7, r6, q6⟩
          | next => obtain ⟨σ6, H6, S6, q6⟩ := q; exact gone_ok (S6.unsuite good) nd hi hl fun s7 J7 => ⟨_, _, J7, q6⟩
          | brk => obtain ⟨σ6, H6, S6, q6⟩ := q; exact gone_ok (S6.unsuite good) nd hi hl fun s7 J7 => ⟨_, _, J7, q6⟩
          | cont => obtain ⟨σ6, H6, S6, q6⟩ := q; exact gone_ok (S6.unsuite good) nd hi hl fun s7 J7 => ⟨_, _, J7, q6⟩
        | false =>
          show wpAny _ X.A (handleBy (.ref a) X.env hds) _ _ _
          exact ih (no rfl)
    exact go hh wish
  · cases fl with
    | next => obtain ⟨σ1, H1, J1, q1⟩ := q; exact wpAny_execs_nil ⟨σ1, H1, J1.ofTry good, q1⟩
    | brk => obtain ⟨σ1, H1, J1, q1⟩ := q; exact ⟨σ1, H1, J1.ofTry good, q1⟩
    | cont => obtain ⟨σ1, H1, J1, q1⟩ := q; exact ⟨σ1, H1, J1.ofTry good, q1⟩
    | ret u => obtain ⟨v, σ1, H1, J1, r1, q1⟩ := q; exact ⟨v, σ1, H1, J1.ofTry good, r1, q1⟩
end
end Lk

set_option Elab.async false
set_option linter.all false
set_option maxRecDepth 100000
set_option maxHeartbeats 4000000
/-! a def that gets a lambda, calls it in a try with several clauses, and has a word for each -/
namespace Lk
open PySem PySem.Spec PyProof.Rows L2
section
variable {X : Cx}
/-- what is taken is asked only of as many slots as there are -/
theorem takes_len {W : WX} (tk : Takes X W) : Takes X (fun cls d σ H => σ.length = X.N.length → W cls d σ H) := fun u s' air => by
  obtain ⟨a, B, sI, pins, σ, H, cls, d, e, I, nb, up, sky, na, os, ag, w⟩ := air
  exact tk u s' ⟨a, B, sI, pins, σ, H, cls, d, e, I, nb, up, sky, na, os, ag, w I.len⟩
/-- what such a def makes of the lambda's reading tl: ret where nothing is let out, else the word of the first clause that fits -/
def TTw (K : PySem.W.Frag) (Ng : List Str) (ret : Str) (l : List (Value × Option Nat × Sut)) : (XK → Hp → VK → Prop) → Hp → VK → Prop := fun tl H Q =>
  tl (fun cls d H1 => ∀ σ : L2.St, σ.length = Ng.length → wMix K (fun _ _ _ _ => False) { nx := fun _ H2 => Q (.str ret) H2, rt := Q } l cls d σ H1) H (fun _ H1 => Q (.str ret) H1)
theorem word_gives {Ng : List Str} {x a q ret : Str} {sg : Scope} {g : Addr} {cdg : Value} {j : Nat} {p1 p2 p3 p5 p6 pos : Pos} {g0 : ExceptHandler} {gs : List ExceptHandler} {l : List (Value × Option Nat × Sut)} (nd : Ng.Nodup)
    (h0 : ∀ f : Addr, (L2.start Ng [V.ref f])[0]? = some (some (V.ref f)))
    (hh : ∀ (s : Shared) (H : Hp), Hs (cxOf C8.CX0 X.prog X.w X.K X.mg X.base Ng x sg g cdg X.A X.stack s H C8.E0).nox (g0 :: gs) l) :
    LamX.GivesTo X Ng x sg g cdg [.Try [.Expr (.Call (.Name a p1) [] [] p2) p3] (g0 :: gs) [] [] pos, .Return (some (.Constant (.str ret) j p5)) p6] a q (TTw X.K Ng ret l) := by
  intro f c1 s H Q tl act hc h
  refine ⟨_, pss_cons (ps_try_mix (X := (cxOf C8.CX0 X.prog X.w X.K X.mg X.base Ng x sg g cdg X.A X.stack s H C8.E0).nox)
      (tb := fun W D σ H => ∃ E : XK, (∀ cls d σ1 H1, σ1.length = Ng.length → E cls d H1 → W cls d σ1 H1) ∧ σ[0]? = some (some (.ref f)) ∧ H c1 = some (LamX.CodeO c1 q) ∧ tl E H (fun _ H1 => D.nx σ H1))
      rfl rfl nd LamX.takes0 (fun W pn xe tk _ => ?_) (hh s H)) (pss_one (ps_ret pe_str)), ?_⟩
  · refine ⟨fun pins s1 σ H1 D I h1 => ?_⟩
    obtain ⟨E, hW, e1, e2, e3⟩ := h1
    have called := act (fun cls d σ H => σ.length = Ng.length → W cls d σ H) pn xe E p1 p2 (takes_len tk) (fun cls d σ1 H1 e n => hW cls d σ1 H1 n e)
    exact (pss_one (ps_expr (pos := p3) called)).run pins s1 σ H1 D I ⟨e1, e2, e3⟩
  · exact ⟨_, fun cls d σ1 H1 n e => e σ1 n, h0 f, hc, h⟩
end
end Lk

set_option Elab.async false
set_option linter.all false
set_option maxRecDepth 100000
set_option maxHeartbeats 4000000
set_option exponentiation.threshold 10000
namespace Lk
open PySem L2 Vx
/-! the law's word for what a call lets out -/
theorem exm_is {K : PySem.W.Frag} {S : Value} {T : Addr} {b : Bool} (h1 : PySem.W.subIn K (.ref T) (.type "BaseException") = some true) (h2 : PySem.W.isClsIn K T = true) (h3 : PySem.W.typeIn K (.ref T) = some (.type "type")) (h4 : PySem.W.subIn K S (.ref T) = some b) :
    PySem.W.exmOne K S (.ref T) = some b := by
  have e1 : (PySem.W.subIn K (.ref T) (.type "BaseException") == some true) = true := by rw [h1] <;> rfl
  have e2 : ((PySem.W.clsIn K T).isSome && PySem.W.typeIn K (.ref T) == some (.type "type")) = true := by
    have h2' : (PySem.W.clsIn K T).isSome = true := h2
    rw [h2', h3] <;> rfl
  show (if (PySem.W.subIn K (.ref T) (.type "BaseException") == some true) = true then (if ((PySem.W.clsIn K T).isSome && PySem.W.typeIn K (.ref T) == some (.type "type")) = true then PySem.W.subIn K S (.ref T) else none) else none) = some b
  rw [if_pos e1, if_pos e2]
  exact h4
abbrev sWord : Stmt := top 44
abbrev nWord : List Str := ["_law_call", "error"]
theorem scWord : FnScope nWord ["_law_call"] (defScope sWord) := ⟨rfl, rfl, rfl, by decide +kernel, rfl, by decide +kernel, by decide +kernel⟩
/-- which of the five classes an error is of -/
structure Wd (K : PySem.W.Frag) (CO CPr CR CE CT : Addr) : Prop where
  oo : PySem.W.exmOne K (.ref CO) (.ref CO) = some true
  po : PySem.W.exmOne K (.ref CPr) (.ref CO) = some false
  pp : PySem.W.exmOne K (.ref CPr) (.ref CPr) = some true
  ro : PySem.W.exmOne K (.ref CR) (.ref CO) = some false
  rp : PySem.W.exmOne K (.ref CR) (.ref CPr) = some false
  rr : PySem.W.exmOne K (.ref CR) (.ref CR) = some true
  eo : PySem.W.exmOne K (.ref CE) (.ref CO) = some false
  ep : PySem.W.exmOne K (.ref CE) (.ref CPr) = some false
  er : PySem.W.exmOne K (.ref CE) (.ref CR) = some false
  ee : PySem.W.exmOne K (.ref CE) (.ref CE) = some true
  to : PySem.W.exmOne K (.ref CT) (.ref CO) = some false
  tp : PySem.W.exmOne K (.ref CT) (.ref CPr) = some false
  tr : PySem.W.exmOne K (.ref CT) (.ref CR) = some false
  te : PySem.W.exmOne K (.ref CT) (.ref CE) = some false
  tt : PySem.W.exmOne K (.ref CT) (.ref CT) = some true
/-- the suites of the word -/
def WL (CO CPr CR CE CT : Addr) : List (Value × Option Nat × Sut) :=
  [(.ref CO, none, fun _ _ _ => tRet (tC (.str "operation"))), (.ref CPr, none, fun _ _ _ => tRet (tC (.str "prime"))), (.ref CR, none, fun _ _ _ => tRet (tC (.str "ratio"))),
   (.ref CE, some 1, fun a cls d => tRet (tTup (tCons (tC (.str "count")) (tCons (tByE CE "value" a cls d (tVar 1)) tNil)))), (.ref CT, some 1, fun a cls d => tRet (tTup (tCons (tC (.str "many")) (tCons (tByE CT "limit" a cls d (tVar 1)) tNil))))]
/-- what is asked where an error is let out in the call -/
def WX5 (K : PySem.W.Frag) (CO CPr CR CE CT : Addr) (Q : VK) : XK := fun cls d H1 => ∀ σ : L2.St, σ.length = nWord.length → wMix K (fun _ _ _ _ => False) { nx := fun _ H2 => Q (.str "right") H2, rt := Q } (WL CO CPr CR CE CT) cls d σ H1
section
variable {K : PySem.W.Frag} {CO CPr CR CE CT : Addr} {Q : VK} {H : Hp} {d : Option Addr} {dd : Addr} {v : V}
theorem w_op (W : Wd K CO CPr CR CE CT) (h : Q (.str "operation") H) : WX5 K CO CPr CR CE CT Q (.ref CO) d H := fun σ _ => ⟨true, W.oo, fun _ a _ => h, fun z => nomatch z⟩
theorem w_pr (W : Wd K CO CPr CR CE CT) (h : Q (.str "prime") H) : WX5 K CO CPr CR CE CT Q (.ref CPr) d H := fun σ _ => ⟨false, W.po, (fun z => nomatch z), fun _ => ⟨true, W.pp, fun _ a _ => h, fun z => nomatch z⟩⟩
theorem w_ra (W : Wd K CO CPr CR CE CT) (h : Q (.str "ratio") H) : WX5 K CO CPr CR CE CT Q (.ref CR) d H := fun σ _ => ⟨false, W.ro, (fun z => nomatch z), fun _ => ⟨false, W.rp, (fun z => nomatch z), fun _ => ⟨true, W.rr, fun _ a _ => h, fun z => nomatch z⟩⟩⟩
theorem two_slots {σ : L2.St} (h : σ.length = nWord.length) (x : Option V) : (σ.set 1 x)[1]? = some x := by
  have h' : σ.length = 2 := h
  rw [List.getElem?_set_self (by omega)]
theorem w_co (W : Wd K CO CPr CR CE CT) (hd : H dd = some (.xd [("value", v)])) (h : ∀ t, H t = none → Q (.ref t) (upd H t (.tup [.str "count", v]))) : WX5 K CO CPr CR CE CT Q (.ref CE) (some dd) H :=
  fun σ l => ⟨false, W.eo, (fun z => nomatch z), fun _ => ⟨false, W.ep, (fun z => nomatch z), fun _ => ⟨false, W.er, (fun z => nomatch z), fun _ => ⟨true, W.ee, fun _ a _ =>
    ⟨_, two_slots l _, rfl, rfl, dd, v, rfl, hd, (by show 2 ≤ sizeLine; decide), h⟩, fun z => nomatch z⟩⟩⟩⟩
theorem w_ma (W : Wd K CO CPr CR CE CT) (hd : H dd = some (.xd [("limit", v)])) (h : ∀ t, H t = none → Q (.ref t) (upd H t (.tup [.str "many", v]))) : WX5 K CO CPr CR CE CT Q (.ref CT) (some dd) H :=
  fun σ l => ⟨false, W.to, (fun z => nomatch z), fun _ => ⟨false, W.tp, (fun z => nomatch z), fun _ => ⟨false, W.tr, (fun z => nomatch z), fun _ => ⟨false, W.te, (fun z => nomatch z), fun _ => ⟨true, W.tt, fun _ a _ =>
    ⟨_, two_slots l _, rfl, rfl, dd, v, rfl, hd, (by show 2 ≤ sizeLine; decide), h⟩, fun z => nomatch z⟩⟩⟩⟩⟩
/-- as Ref -/
theorem ref_count (W : Wd K CO CPr CR CE CT) (h : ∀ (H' : Hp) (t : Addr), Same H H' → H' t = some (.tup [.str "count", v]) → Q (.ref t) H') : Ref CE "value" H (WX5 K CO CPr CR CE CT Q) v :=
  fun H' d s _ e => w_co W e fun t nt => h _ t (Same.tr s (same_new nt)) upd_same
theorem ref_many (W : Wd K CO CPr CR CE CT) (h : ∀ (H' : Hp) (t : Addr), Same H H' → H' t = some (.tup [.str "many", v]) → Q (.ref t) H') : Ref CT "limit" H (WX5 K CO CPr CR CE CT Q) v :=
  fun H' d s _ e => w_ma W e fun t nt => h _ t (Same.tr s (same_new nt)) upd_same
end
/-- a def of the text with its own code object -/
structure FunC (K : PySem.W.Frag) (x qual : Str) (st : Stmt) (f : Addr) (fd : FuncData) (c : Addr) : Prop where
  ex : ∃ (oc : Value) (od : Option Addr) (kV doc pm : Value) (an : Option Addr) (ct : Value) (osl : Array (Option Value)),
    fd = PySem.W.fnOf x qual (defArgs st) (defBody st) (defScope st) .none kV doc pm an (.ref c) ct ∧ K.lookup f = some ⟨oc, od, .func fd, osl⟩ ∧ PySem.W.codeIn K (.ref c) qual = true
  kp : PySem.W.keepIn K (.ref f) = true
section
variable {P : Program} {w : World} {K : PySem.W.Frag} {mg : Str → Option Value} {base : Heap}
theorem FunC.ok {x qual : Str} {st : Stmt} {f c : Addr} {fd : FuncData} {N ps : List Str} {k : Nat} {sp : Sp} (F : FunC K x qual st f fd c) (S : FnScope N ps (defScope st)) (len : ∀ vs H Q E, sp vs H Q E → vs.length = ps.length)
    (hbody : ∀ (A : Around) (outer : List Env) (s : Shared) (H : Hp) (vs : List V) (Q : VK) (E : XK), Room k (A.deeper (PyProof.Rows.envOfC qual (defScope st) s.heap.objs.size f (.ref c))) → sp vs H Q E →
      ∃ t, PSs (cxOf CX0 P w K mg base N qual (defScope st) f (.ref c) A outer s H E).nox (defBody st) t ∧ t { nx := fun _ H' => Q .non H', rt := Q } (L2.start N vs) H) : FnOk P w K mg base CX0 (k + 1) f fd ps sp := by
  obtain ⟨oc, od, kV, doc, pm, an, ct, osl, rfl, lk, hcd⟩ := F.ex
  exact fn_of lk hcd S len fun A outer s H vs Q E hr hsp => by
    obtain ⟨t, h1, h2⟩ := hbody A outer s H vs Q E hr hsp
    exact ⟨t, h1.nox, h2⟩
/-- the word as its callers have it -/
structure HWord (K : PySem.W.Frag) (mg : Str → Option Value) (CO CPr CR CE CT fE fT : Addr) : Prop where
  wd : Wd K CO CPr CR CE CT
  gO : mg "InvalidOperation" = some (.ref CO)
  gP : mg "InvalidPrime" = some (.ref CPr)
  gR : mg "InvalidRatio" = some (.ref CR)
  eE : ∃ B newId bm, ECls K mg "InvalidCount" "value" B newId bm CE fE
  eT : ∃ B newId bm, ECls K mg "TooMany" "limit" B newId bm CT fT
  ex : ∃ (g : Addr) (oc : Value) (od : Option Addr) (kV doc pm : Value) (an : Option Addr) (cdv ct : Value) (osl : Array (Option Value)),
    mg "_law_word" = some (.ref g) ∧ PySem.W.keepIn K (.ref g) = true ∧ K.lookup g = some ⟨oc, od, .func (PySem.W.fnOf "_law_word" "_law_word" (defArgs sWord) (defBody sWord) (defScope sWord) .none kV doc pm an cdv ct), osl⟩ ∧
    PySem.W.codeIn K cdv "_law_word" = true ∧ L2.Binds K (PySem.W.fnOf "_law_word" "_law_word" (defArgs sWord) (defBody sWord) (defScope sWord) .none kV doc pm an cdv ct) ["_law_call"] []
end
section
variable {X : Cx} {CO CPr CR CE CT fE fT : Addr}
theorem word_hs {X : Cx} (W : HWord X.K X.mg CO CPr CR CE CT fE fT) {q : Str} {f : Addr} {cdv : Value} {A : Around} {outer : List Env} {s : Shared} {H : Hp} {hs : List ExceptHandler} (e : ∃ b r p, defBody sWord = [.Try b hs [] [] p, r]) :
    Hs (cxOf C8.CX0 X.prog X.w X.K X.mg X.base nWord q (defScope sWord) f cdv A outer s H C8.E0).nox hs (WL CO CPr CR CE CT) := by
  obtain ⟨B1, n1, b1, E1⟩ := W.eE
  obtain ⟨B2, n2, b2, E2⟩ := W.eT
  obtain ⟨b, r, p, e⟩ := e
  cases e
  refine .plain ⟨rfl, by decide, .inl W.gO⟩ (fun a oe cls d pn _ _ => pss_one (ps_ret pe_str)) ?_
  refine .plain ⟨rfl, by decide, .inl W.gP⟩ (fun a oe cls d pn _ _ => pss_one (ps_ret pe_str)) ?_
  refine .plain ⟨rfl, by decide, .inl W.gR⟩ (fun a oe cls d pn _ _ => pss_one (ps_ret pe_str)) ?_
  refine .named (i := 1) rfl rfl ⟨rfl, by decide, .inl E1.gC⟩ (fun a oe cls d pn hz hf => pss_one (ps_ret (pe_tup (pa_cons pe_str (pa_cons (pe_byE E1 hz hf (pv 1)) pa_nil))))) ?_
  refine .named (i := 1) rfl rfl ⟨rfl, by decide, .inl E2.gC⟩ (fun a oe cls d pn hz hf => pss_one (ps_ret (pe_tup (pa_cons pe_str (pa_cons (pe_byE E2 hz hf (pv 1)) pa_nil))))) ?_
  exact .nil
end
end Lk

set_option Elab.async false
set_option linter.all false
set_option maxRecDepth 100000
set_option maxHeartbeats 4000000
set_option exponentiation.threshold 10000
namespace Lk
open PySem L2 Vx
section
variable {X : Cx} {CO CPr CR CE CT fE fT : Addr}
theorem pe_word (W : HWord X.K X.mg CO CPr CR CE CT fE fT) {T : List (Addr × Str)} {c P : Addr} {k : Nat} {params : Arguments} {body : Expr} {scope : Scope} {t : XK → TE} {p lpos pos : Pos}
    (TB : LamX.TabB X.base X.mg c P) (hcode : X.env.code = .ref c) (hmT : (P, X.env.qual ++ "<lambda>") ∈ T) (hu : ∀ p ∈ T, p.1 = P → p.2 = X.env.qual ++ "<lambda>") (hr : Room (k + 2) X.A) (L : LamX.LamS X.env.scope scope)
    (hbody : ∀ (A : Around) (outer : List Env) (s : Shared) (H : Hp) (E : XK) (f c' : Addr), Room k (A.deeper (LamX.lamEnv X scope s.heap.objs.size f c')) → PE (LamX.lamCx X A outer s H E scope f c') body (t E))
    (hg : Gl X "_law_word" := by rfl) (hdef : defaultsOf params X.env = ([], []) := by rfl)
    (hbind : ∀ (q : Str) (cl : List (Str × Addr)) (pm cv ctv : Value), bindArgs (PySem.W.kla_fn "<lambda>" q params body scope cl pm cv ctv) ⟨[], []⟩ = pure [] := by intros; rfl) :
    PE X (.Call (.Name "_law_word" p) [.Lambda params body scope lpos] [] pos) (LamX.tLam T (TTw X.K nWord "right" (WL CO CPr CR CE CT)) t) := by
  obtain ⟨g, oc, od, kV, doc, pm, an, cdv, ct, osl, hm, hk, lk, hcd, hb⟩ := W.ex
  have hG : LamX.GivesTo X nWord "_law_word" (defScope sWord) g cdv (defBody sWord) "_law_call" (X.env.qual ++ "<lambda>") (TTw X.K nWord "right" (WL CO CPr CR CE CT)) :=
    word_gives (Ng := nWord) (a := "_law_call") (ret := "right") scWord.nd (fun _ => rfl) (fun s H => word_hs W ⟨_, _, _, rfl⟩)
  exact LamX.pe_lamcall hg hm hk lk hcd hb scWord rfl (.inl rfl) hG TB hcode hmT hu hr L hdef hbind hbody
end
end Lk

set_option Elab.async false
set_option linter.all false
set_option maxRecDepth 100000
set_option maxHeartbeats 4000000
set_option exponentiation.threshold 10000
namespace Lk
open PySem L2 Vx
/-! what the law's parts need: heaps of which one thing and the tables change; values of the wrong kinds -/
def Kp (p : Addr) (H H' : Hp) : Prop := ∀ b o, b ≠ p → (∀ ps, o ≠ .tbl ps) → H b = some o → H' b = some o
theorem Kp.refl {p : Addr} {H : Hp} : Kp p H H := fun _ _ _ _ e => e
theorem Kp.trans {p : Addr} {H H1 H2 : Hp} (a : Kp p H H1) (b : Kp p H1 H2) : Kp p H H2 := fun c o n t e => b c o n t (a c o n t e)
theorem kp_same {p : Addr} {H H' : Hp} (s : Same H H') : Kp p H H' := fun b o _ _ e => s b o e
theorem kp_ext {p : Addr} {H H' : Hp} (s : LamX.ExtN H H') : Kp p H H' := fun b o _ t e => s b o e t
theorem kp_upd {p : Addr} {H : Hp} {o : HO} : Kp p H (upd H p o) := fun b u n _ e => by rw [upd_ne n]; exact e
theorem Kp.get {p b : Addr} {H H' : Hp} {o : HO} (k : Kp p H H') (n : b ≠ p) (e : H b = some o) (t : ∀ ps, o ≠ .tbl ps := by intro _ z; cases z) : H' b = some o := k b o n t e
theorem ext_get {b : Addr} {H H' : Hp} {o : HO} (s : LamX.ExtN H H') (e : H b = some o) (t : ∀ ps, o ≠ .tbl ps := by intro _ z; cases z) : H' b = some o := s b o e t
/-- a new one may go on changing -/
theorem kp_new {p L : Addr} {H H1 H2 : Hp} (a : Kp p H H1) (n : H1 L = none) (b : Kp L H1 H2) : Kp p H H2 := fun c o nc t e => b c o (ne_of_none (a c o nc t e) n) t (a c o nc t e)
theorem tabs_lst {T : List (Addr × Str)} {H : Hp} {p : Addr} {xs ys : List V} (t : LamX.Tabs T H) (h : H p = some (.lst xs)) : LamX.Tabs T (upd H p (.lst ys)) := fun q hq => by
  obtain ⟨ps, h1, h2, h3⟩ := t q hq
  have n1 : q.1 ≠ p := fun z => by rw [z, h] at h1; cases h1
  refine ⟨ps, by rw [upd_ne n1]; exact h1, h2, fun pos cv hc => ?_⟩
  obtain ⟨c, e, hcc⟩ := h3 pos cv hc
  have n2 : c ≠ p := fun z => by
    rw [z, h] at hcc
    unfold LamX.CodeO at hcc
    cases hcc
  exact ⟨c, e, by rw [upd_ne n2]; exact hcc⟩
theorem tabs_same {T : List (Addr × Str)} {H H' : Hp} (t : LamX.Tabs T H) (s : Same H H') : LamX.Tabs T H' := LamX.Tabs.ext t s
/-- a value that is no ratio and no short integer -/
def Gd (K : PySem.W.Frag) (C p : Addr) (H : Hp) (x : V) : Prop := NoR K C H x false ∧ (flatB x = true ∨ ∃ a o, x = .ref a ∧ a ≠ p ∧ H a = some o ∧ ∀ ps, o ≠ .tbl ps)
theorem Gd.at {K : PySem.W.Frag} {C p : Addr} {H H' : Hp} {x : V} (h : Gd K C p H x) (k : Kp p H H') : Gd K C p H' x := by
  obtain ⟨nr, o⟩ := h
  rcases o with f | ⟨a, o, rfl, na, e, t⟩
  · refine ⟨noR_at nr (fun b u e => ?_), .inl f⟩
    subst e
    cases f
  · refine ⟨noR_at nr (fun b u e2 e3 => ?_), .inr ⟨a, o, rfl, na, k a o na t e, t⟩⟩
    cases e2
    rw [e] at e3
    cases e3
    exact k a o na t e
theorem Gd.fl {K : PySem.W.Frag} {C p : Addr} {H : Hp} {x : V} (h : Gd K C p H x) : flatB x = true ∨ ∃ a, x = .ref a := by
  rcases h.2 with f | ⟨a, _, e, _⟩
  · exact .inl f
  · exact .inr ⟨a, e⟩
theorem Gd.kd {K : PySem.W.Frag} {C p : Addr} {H : Hp} {x : V} (h : Gd K C p H x) : Kd K H x false := h.1.choose_spec.2.2
theorem Gd.re {K : PySem.W.Frag} {C p q : Addr} {H : Hp} {x : V} (h : Gd K C p H x) (n : H q = none) : Gd K C q H x := by
  refine ⟨h.1, ?_⟩
  rcases h.2 with f | ⟨a, o, e, _, e2, t⟩
  · exact .inl f
  · exact .inr ⟨a, o, e, ne_of_none e2 n, e2, t⟩
/-- no built-in kind is a ratio -/
structure NoK (K : PySem.W.Frag) (C : Addr) : Prop where
  n : PySem.W.kitOne K (.type "NoneType") (.ref C) = some false
  b : PySem.W.kitOne K (.type "bool") (.ref C) = some false
  i : PySem.W.kitOne K (.type "int") (.ref C) = some false
  s : PySem.W.kitOne K (.type "str") (.ref C) = some false
  t : PySem.W.kitOne K (.type "tuple") (.ref C) = some false
  l : PySem.W.kitOne K (.type "list") (.ref C) = some false
  d : PySem.W.kitOne K (.type "dict") (.ref C) = some false
section
variable {K : PySem.W.Frag} {C p a : Addr} {H : Hp}
theorem gd_non (N : NoK K C) : Gd K C p H .non := ⟨⟨_, .base .non, N.n, .oth (.base .non) (kit_ty (by decide +kernel)) (fun _ => nofun) (fun _ => nofun)⟩, .inl rfl⟩
theorem gd_bl (N : NoK K C) (b : Bool) : Gd K C p H (.bl b) := ⟨⟨_, .base (.bl b), N.b, .bl b⟩, .inl rfl⟩
theorem gd_str (N : NoK K C) (x : Str) : Gd K C p H (.str x) := ⟨⟨_, .base (.str x), N.s, .oth (.base (.str x)) (kit_ty (by decide +kernel)) (fun _ => nofun) (fun _ => nofun)⟩, .inl rfl⟩
theorem gd_int (N : NoK K C) (i : Int) (h : (decide (-LONG < i) && decide (i < LONG)) = false) : Gd K C p H (.int i) := ⟨⟨_, .base (.int i), N.i, by have z := Kd.int (K := K) (H := H) i; rw [h] at z; exact z⟩, .inl rfl⟩
theorem gd_tup (N : NoK K C) {xs : List V} (na : a ≠ p) (e : H a = some (.tup xs)) : Gd K C p H (.ref a) := ⟨⟨_, .base (.tup e), N.t, .oth (.base (.tup e)) (kit_ty (by decide +kernel)) (fun _ => nofun) (fun _ => nofun)⟩, .inr ⟨a, _, rfl, na, e, fun _ => nofun⟩⟩
theorem gd_lst (N : NoK K C) {xs : List V} (na : a ≠ p) (e : H a = some (.lst xs)) : Gd K C p H (.ref a) := ⟨⟨_, .base (.lst e), N.l, .oth (.base (.lst e)) (kit_ty (by decide +kernel)) (fun _ => nofun) (fun _ => nofun)⟩, .inr ⟨a, _, rfl, na, e, fun _ => nofun⟩⟩
theorem gd_dct (N : NoK K C) {kvs : List (L2.Key × V)} (na : a ≠ p) (e : H a = some (.dK kvs)) : Gd K C p H (.ref a) := ⟨⟨_, .base (.dK e), N.d, .oth (.base (.dK e)) (kit_ty (by decide +kernel)) (fun _ => nofun) (fun _ => nofun)⟩, .inr ⟨a, _, rfl, na, e, fun _ => nofun⟩⟩
end
/-- one of the members -/
theorem mem_at {Pr : V → Prop} {xs : List V} (h : ∀ x ∈ xs, Pr x) {i : Nat} {x : V} (e : xs[i]? = some x) : Pr x := h x (List.mem_of_getElem? e)
theorem all_c {Pr : V → Prop} {x : V} {xs : List V} (h : Pr x) (t : ∀ y ∈ xs, Pr y) : ∀ y ∈ x :: xs, Pr y := fun y hy => by
  rcases List.mem_cons.mp hy with e | e
  · rw [e]; exact h
  · exact t y e
theorem all_n {Pr : V → Prop} : ∀ y ∈ ([] : List V), Pr y := fun y hy => by cases hy
theorem spPick_of {K : PySem.W.Frag} {p q : Addr} {a b c : Int} {xs : List V} {H : Hp} {Q : VK} {E : XK} {vs : List V} (R : V → Hp → Prop) (ev : vs = [.ref p, .ref q]) (hp : H p = some (.lst [.int a, .int b, .int c])) (hq : SqL K H q xs) (ne : q ≠ p) (l0 : 0 < xs.length) (l1 : xs.length < 1000)
    (hR : ∀ (i : Nat) (x : V) (a' c' : Int), xs[i]? = some x → R x (upd H p (.lst [.int a', .int b, .int c']))) (hQ : ∀ x H', R x H' → Q x H') : spPick K vs H Q E :=
  ⟨p, q, a, b, c, xs, ev, hp, hq, ne, l0, l1, fun i x a' c' h => hQ _ _ (hR i x a' c' h)⟩
theorem mk_same {H : Hp} {x dx : Addr} {o o' : HO} (nx : H x = none) (nd : H dx = none) : Same H (upd (upd H dx o) x o') := fun a u e => by
  rw [upd_ne (ne_of_none e nx), upd_ne (ne_of_none e nd)]
  exact e
theorem but_mk {H H' : Hp} {x dx : Addr} {o o' : HO} (nx : H x = none) (nd : H dx = none) (bu : But x (upd (upd H dx o) x o') H') : Same H H' := fun a u e => bu a u (ne_of_none e nx) (mk_same nx nd a u e)
theorem spInit_non {K : PySem.W.Frag} {C CE L p dx : Addr} {H : Hp} {E : XK} {Q : VK} {vs : List V} {non : V} (ev : vs = [.ref p, .int 3, non]) (g : Gd K C L H non ∨ non = .int 0) (hp : H p = some (.ins C dx [])) (r : Ref CE "value" H E non) : spInitK K C CE vs H Q E := by
  rcases g with g | rfl
  · exact ⟨p, dx, _, _, true, false, ev, hp, Kd.int 3, g.kd, (fun z => nomatch z), fun _ _ => r, fun _ _ _ _ _ z => nomatch z⟩
  · refine ⟨p, dx, _, _, true, true, ev, hp, Kd.int 3, Kd.int 0, (fun z => nomatch z), (fun _ z => nomatch z), fun t b et eb _ _ => ?_⟩
    cases et; cases eb
    exact ⟨fun _ => r, fun z => absurd rfl z⟩
section
variable {P : Program} {w : World} {K : PySem.W.Frag} {mg : Str → Option Value} {base : Heap} {C CE CR CO CPr CT fE fT : Addr}
def HasX (P : Program) (w : World) (K : PySem.W.Frag) (mg : Str → Option Value) (base : Heap) (nm : Str) (k : Nat) (ps : List Str) (sp : Sp) : Prop :=
  ∃ f fd, FnOk P w K mg base (L2.CX P w) k f fd ps sp ∧ mg nm = some (.ref f) ∧ PySem.W.keepIn K (.ref f) = true ∧ Binds K fd ps []
def HasMX (P : Program) (w : World) (K : PySem.W.Frag) (mg : Str → Option Value) (base : Heap) (C : Addr) (nm : Str) (k : Nat) (ps : List Str) (sp : Sp) : Prop :=
  ∃ f fd, FnOk P w K mg base (L2.CX P w) k f fd ps sp ∧ Meth K C nm f ∧ Binds K fd ps []
abbrev HPick (P : Program) (w : World) (K : PySem.W.Frag) (mg : Str → Option Value) (base : Heap) : Prop := Has P w K mg base "_law_pick" 2 ["_law_dice_here", "_law_items"] (spPick K)
/-- a part of the law: the dice at p change, and the tables -/
def spPart (T : List (Addr × Str)) : Sp := fun vs H Q _ => ∃ (p : Addr) (a b c : Int), vs = [.ref p] ∧ H p = some (.lst [.int a, .int b, .int c]) ∧ LamX.Tabs T H ∧
  ∀ (H' : Hp) (a' b' c' : Int), Kp p H H' → LamX.Tabs T H' → H' p = some (.lst [.int a', .int b', .int c']) → Q (.bl true) H'
abbrev sRR : Stmt := top 45
abbrev nRR : List Str := ["_law_dice_here", "_law_told", "_law_bad", "_law_half", "_law_none", "_law_odd"]
theorem scRR : FnScope nRR ["_law_dice_here"] (defScope sRR) := ⟨rfl, rfl, rfl, by decide +kernel, rfl, by decide +kernel, by decide +kernel⟩
structure RM (P : Program) (w : World) (K : PySem.W.Frag) (mg : Str → Option Value) (base : Heap) (C CE CR CO : Addr) : Prop where
  ratio : HRatioK P w K mg base C CE
  pl : HasMX P w K mg base C "plus" 6 ["self", "other"] (spBad K C CR)
  mi : HasMX P w K mg base C "minus" 6 ["self", "other"] (spBad K C CR)
  ti : HasMX P w K mg base C "times" 6 ["self", "other"] (spBad K C CR)
  ov : HasMX P w K mg base C "over" 6 ["self", "other"] (spOverB K C CR CO)
  cm : HasMX P w K mg base C "compared" 6 ["self", "other"] (spBad K C CR)
theorem ok_rr {f c Pt : Addr} {fd : FuncData} {T : List (Addr × Str)} (F : FunC K "_law_ratios_right" "_law_ratios_right" sRR f fd c) (G : Gn K mg C) (N : NoK K C) (W : HWord K mg CO CPr CR CE CT fE fT) (TB : LamX.TabB base mg c Pt)
    (hmT : (Pt, ("_law_ratios_right" : Str) ++ ".<locals>." ++ "<lambda>") ∈ T) (hu : ∀ p ∈ T, p.1 = Pt → p.2 = ("_law_ratios_right" : Str) ++ ".<locals>." ++ "<lambda>") (R : RM P w K mg base C CE CR CO) (Pk : HPick P w K mg base) :
    FnOk P w K mg base CX0 9 f fd ["_law_dice_here"] (spPart T) := by
  obtain ⟨fK, dK, GK, mK, kK, bK⟩ := Pk
  obtain ⟨fI, dI, GI, M, bI, ds, vd, bD⟩ := R.ratio
  obtain ⟨f1, d1, G1, m1, b1⟩ := R.pl
  obtain ⟨f2, d2, G2, m2, b2⟩ := R.mi
  obtain ⟨f3, d3, G3, m3, b3⟩ := R.ti
  obtain ⟨f4, d4, G4, m4, b4⟩ := R.ov
  obtain ⟨f5, d5, G5, m5, b5⟩ := R.cm
  refine F.ok scRR (fun vs H Q E h => ?_) (fun A outer s H vs Q E hr h => ?_)
  · obtain ⟨p, a, b, c, rfl, _⟩ := h
    rfl
  · obtain ⟨p, a, b, c, rfl, hp, tb, k⟩ := h
    refine ⟨_, pss_cons (ps_set (i := 2) scRR.nd rfl (.inr rfl) (pe_call GK (hr.mono (by decide)) rfl mK kK bK .nil pass0 (pa_cons (pv 0) (pa_cons (pe_lst (pa_cons pe_non (pa_cons pe_bl (pa_cons pe_str (pa_cons (pe_tup (pa_cons pe_int pa_nil)) (pa_cons (pe_op op_pow pe_int pe_int) (pa_cons (pe_un un_neg (pe_op op_pow pe_int pe_int)) (pa_cons pe_dnewK pa_nil)))))))) pa_nil))))
      (pss_cons (ps_set (i := 4) scRR.nd rfl (.inr rfl) (pe_call GK (hr.mono (by decide)) rfl mK kK bK .nil pass0 (pa_cons (pv 0) (pa_cons (pe_lst (pa_cons pe_non (pa_cons pe_bl (pa_cons pe_str (pa_cons (pe_op op_pow pe_int pe_int) (pa_cons (pe_tup (pa_cons pe_int pa_nil)) (pa_cons (pe_lst pa_nil) (pa_cons pe_int pa_nil)))))))) pa_nil))))
      (pss_cons (ps_set (i := 5) scRR.nd rfl (.inr rfl) (pe_call GK (hr.mono (by decide)) rfl mK kK bK .nil pass0 (pa_cons (pv 0) (pa_cons (pe_lst (pa_cons pe_non (pa_cons pe_bl (pa_cons pe_str (pa_cons (pe_tup (pa_cons pe_int (pa_cons pe_int pa_nil))) (pa_cons (pe_op op_pow pe_int pe_int) (pa_cons (pe_lst (pa_cons pe_int pa_nil)) (pa_cons pe_dnewK pa_nil)))))))) pa_nil))))
      (pss_cons (ps_set (i := 3) scRR.nd rfl (.inr rfl) (pe_make M GI (hr.mono (by decide)) rfl G.mgC bI .nil passL (pa_cons pe_int (pa_cons pe_int pa_nil))))
      (pss_cons (ps_set (i := 1) scRR.nd rfl (.inl rfl) (pe_lst (pa_cons (pe_word W TB rfl hmT hu hr (LamX.lamS_by (sc := defScope sRR) (by decide +kernel)) (fun A outer s H E f c' hr2 =>
          pe_make M GI (hr2.mono (by decide)) rfl G.mgC bI .nil (passes_call (takes_of rfl rfl rfl rfl) (fun _ _ _ _ h => h)) (pa_cons (pv 2) (pa_cons (pv 4) pa_nil)))) pa_nil)))
      (pss_cons (ps_expr (pe_bm PySem.F.plainAttrs_list PySem.F.slot_list_append PySem.F.type_list_append mt_append (pv 1) (pa_cons (pe_word W TB rfl hmT hu hr (LamX.lamS_by (sc := defScope sRR) (by decide +kernel)) (fun A outer s H E f c' hr2 =>
          pe_make M GI (hr2.mono (by decide)) rfl G.mgC bI .nil (passes_call (takes_of rfl rfl rfl rfl) (fun _ _ _ _ h => h)) (pa_cons pe_int (pa_cons (pv 4) pa_nil)))) pa_nil)))
      (pss_cons (ps_expr (pe_bm PySem.F.plainAttrs_list PySem.F.slot_list_append PySem.F.type_list_append mt_append (pv 1) (pa_cons (pe_word W TB rfl hmT hu hr (LamX.lamS_by (sc := defScope sRR) (by decide +kernel)) (fun A outer s H E f c' hr2 =>
          pe_meth (pv 3) G.cl m1 G1 hr2 b1 .nil (passes_call (takes_of rfl rfl rfl rfl) (fun _ _ _ _ h => h)) (pa_cons (pv 5) pa_nil))) pa_nil)))
      (pss_cons (ps_expr (pe_bm PySem.F.plainAttrs_list PySem.F.slot_list_append PySem.F.type_list_append mt_append (pv 1) (pa_cons (pe_word W TB rfl hmT hu hr (LamX.lamS_by (sc := defScope sRR) (by decide +kernel)) (fun A outer s H E f c' hr2 =>
          pe_meth (pv 3) G.cl m2 G2 hr2 b2 .nil (passes_call (takes_of rfl rfl rfl rfl) (fun _ _ _ _ h => h)) (pa_cons (pv 5) pa_nil))) pa_nil)))
      (pss_cons (ps_expr (pe_bm PySem.F.plainAttrs_list PySem.F.slot_list_append PySem.F.type_list_append mt_append (pv 1) (pa_cons (pe_word W TB rfl hmT hu hr (LamX.lamS_by (sc := defScope sRR) (by decide +kernel)) (fun A outer s H E f c' hr2 =>
          pe_meth (pv 3) G.cl m3 G3 hr2 b3 .nil (passes_call (takes_of rfl rfl rfl rfl) (fun _ _ _ _ h => h)) (pa_cons (pv 5) pa_nil))) pa_nil)))
      (pss_cons (ps_expr (pe_bm PySem.F.plainAttrs_list PySem.F.slot_list_append PySem.F.type_list_append mt_append (pv 1) (pa_cons (pe_word W TB rfl hmT hu hr (LamX.lamS_by (sc := defScope sRR) (by decide +kernel)) (fun A outer s H E f c' hr2 =>
          pe_meth (pv 3) G.cl m4 G4 hr2 b4 .nil (passes_call (takes_of rfl rfl rfl rfl) (fun _ _ _ _ h => h)) (pa_cons (pv 5) pa_nil))) pa_nil)))
      (pss_cons (ps_expr (pe_bm PySem.F.plainAttrs_list PySem.F.slot_list_append PySem.F.type_list_append mt_append (pv 1) (pa_cons (pe_word W TB rfl hmT hu hr (LamX.lamS_by (sc := defScope sRR) (by decide +kernel)) (fun A outer s H E f c' hr2 =>
          pe_meth (pv 3) G.cl m5 G5 hr2 b5 .nil (passes_call (takes_of rfl rfl rfl rfl) (fun _ _ _ _ h => h)) (pa_cons (pv 5) pa_nil))) pa_nil)))
      (pss_cons (ps_expr (pe_bm PySem.F.plainAttrs_list PySem.F.slot_list_append PySem.F.type_list_append mt_append (pv 1) (pa_cons (pe_word W TB rfl hmT hu hr (LamX.lamS_by (sc := defScope sRR) (by decide +kernel)) (fun A outer s H E f c' hr2 =>
          pe_meth (pv 3) G.cl m4 G4 hr2 b4 .nil (passes_call (takes_of rfl rfl rfl rfl) (fun _ _ _ _ h => h)) (pa_cons pe_int pa_nil))) pa_nil)))
      (pss_cons (ps_expr (pe_bm PySem.F.plainAttrs_list PySem.F.slot_list_append PySem.F.type_list_append mt_append (pv 1) (pa_cons (pe_word W TB rfl hmT hu hr (LamX.lamS_by (sc := defScope sRR) (by decide +kernel)) (fun A outer s H E f c' hr2 =>
          pe_meth (pv 3) G.cl m4 G4 hr2 b4 .nil (passes_call (takes_of rfl rfl rfl rfl) (fun _ _ _ _ h => h)) (pa_cons (pe_make M GI (hr2.mono (by decide)) rfl G.mgC bD vd passL (pa_cons pe_int pa_nil)) pa_nil))) pa_nil)))
      (pss_one (ps_ret (pe_cmpR (op_eqT hr.units) (pv 1) (pe_op op_cat (pe_op op_cat (pe_lst (pa_cons (pe_tup (pa_cons pe_str (pa_cons (pv 2) pa_nil))) (pa_cons (pe_tup (pa_cons pe_str (pa_cons (pv 4) pa_nil))) pa_nil))) (pe_op op_rep (pe_lst (pa_cons pe_str pa_nil)) pe_int)) (pe_op op_rep (pe_lst (pa_cons pe_str pa_nil)) pe_int)) (nomark _)))))))))))))))), ?_⟩
    -- the first value
    refine ⟨_, rfl, (by show 1 ≤ sizeLine; decide), fun t1 nt1 => ⟨_, _, rfl, rfl, ⟨by decide, by decide, by decide⟩, _, _, rfl, rfl, ⟨by decide, by decide, by decide⟩, _, rfl, fun d1 nd1 => ⟨(by show 7 ≤ sizeLine; decide), fun l1 nl1 => ?_⟩⟩⟩
    dsimp only [tNil, List.append_nil]
    have s1 := Same.tr (same_new nt1 (o := .tup [.int 1])) (same_new nd1 (o := .dK []))
    have hp1 := s1 _ _ hp
    refine spPick_of (fun x Hb => Kp p H Hb ∧ LamX.Tabs T Hb ∧ (∃ a c : Int, Hb p = some (.lst [.int a, .int b, .int c])) ∧ Gd K C p Hb x) rfl (same_new nl1 _ _ hp1) (SqL.of upd_same) (Ne.symm (ne_of_none hp1 nl1)) (by show 0 < 7; decide) (by show 7 < 1000; decide) (fun i x a1 c1 hx => ?_) ?_
    · refine ⟨(kp_same (Same.tr s1 (same_new nl1))).trans kp_upd, tabs_lst (tabs_same tb (Same.tr s1 (same_new nl1))) (same_new nl1 _ _ hp1), ⟨a1, c1, upd_same⟩, Gd.at (mem_at (all_c (gd_non N) (all_c (gd_bl N _) (all_c (gd_str N _) (all_c (gd_tup N (Ne.symm (ne_of_none hp nt1)) (same_new nl1 _ _ (same_new nd1 _ _ upd_same))) (all_c (gd_int N _ (by decide +kernel)) (all_c (gd_int N _ (by decide +kernel)) (all_c (gd_dct N (Ne.symm (ne_of_none (same_new nt1 _ _ hp) nd1)) (same_new nl1 _ _ upd_same)) all_n))))))) hx) kp_upd⟩
    rintro bad Hb ⟨kb, tb1, ⟨a1, c1, hpb⟩, gb⟩
    -- the second value
    refine ⟨_, rfl, _, _, rfl, rfl, ⟨by decide, by decide, by decide⟩, (by show 1 ≤ sizeLine; decide), fun t2 nt2 => ⟨(by show 0 ≤ sizeLine; decide), fun d2 nd2 => ⟨(by show 7 ≤ sizeLine; decide), fun l2 nl2 => ?_⟩⟩⟩
    dsimp only [tNil, List.append_nil]
    have s2 := Same.tr (same_new nt2 (o := .tup [.int 2])) (same_new nd2 (o := .lst []))
    have hp2 := s2 _ _ hpb
    refine spPick_of (fun x Hb => Kp p H Hb ∧ LamX.Tabs T Hb ∧ (∃ a c : Int, Hb p = some (.lst [.int a, .int b, .int c])) ∧ (Gd K C p Hb x ∨ x = .int 0) ∧ Gd K C p Hb bad) rfl (same_new nl2 _ _ hp2) (SqL.of upd_same) (Ne.symm (ne_of_none hp2 nl2)) (by show 0 < 7; decide) (by show 7 < 1000; decide) (fun i x a1 c1 hx => ?_) ?_
    · refine ⟨kb.trans ((kp_same (Same.tr s2 (same_new nl2))).trans kp_upd), tabs_lst (tabs_same tb1 (Same.tr s2 (same_new nl2))) (same_new nl2 _ _ hp2), ⟨a1, c1, upd_same⟩, mem_at (Pr := fun x => Gd K C p _ x ∨ x = V.int 0) (all_c (.inl (gd_non N)) (all_c (.inl (gd_bl N _)) (all_c (.inl (gd_str N _)) (all_c (.inl (gd_int N _ (by decide +kernel))) (all_c (.inl (Gd.at (gd_tup N (Ne.symm (ne_of_none hpb nt2)) (same_new nl2 _ _ (same_new nd2 _ _ upd_same))) kp_upd)) (all_c (.inl (Gd.at (gd_lst N (Ne.symm (ne_of_none (same_new nt2 _ _ hpb) nd2)) (same_new nl2 _ _ upd_same)) kp_upd)) (all_c (.inr rfl) all_n))))))) hx, gb.at ((kp_same (Same.tr s2 (same_new nl2))).trans kp_upd)⟩
    clear gb hpb kb tb1 hp2 s2
    rintro non Hc ⟨kb, tb1, ⟨a2, c2, hpb⟩, gn, gb⟩
    -- the third value
    refine ⟨_, rfl, (by show 2 ≤ sizeLine; decide), fun t3 nt3 => ⟨_, _, rfl, rfl, ⟨by decide, by decide, by decide⟩, (by show 1 ≤ sizeLine; decide), fun e3 ne3 d3 nd3 => ⟨(by show 7 ≤ sizeLine; decide), fun l3 nl3 => ?_⟩⟩⟩
    dsimp only [tNil, List.append_nil]
    have s3 := Same.tr (same_new nt3 (o := .tup [.int 1, .int 2])) (Same.tr (same_new ne3 (o := .lst [.int 1])) (same_new nd3 (o := .dK [])))
    have hp3 := s3 _ _ hpb
    refine spPick_of (fun x Hb => Kp p H Hb ∧ LamX.Tabs T Hb ∧ (∃ a c : Int, Hb p = some (.lst [.int a, .int b, .int c])) ∧ Gd K C p Hb x ∧ (Gd K C p Hb non ∨ non = .int 0) ∧ Gd K C p Hb bad) rfl (same_new nl3 _ _ hp3) (SqL.of upd_same) (Ne.symm (ne_of_none hp3 nl3)) (by show 0 < 7; decide) (by show 7 < 1000; decide) (fun i x a1 c1 hx => ?_) ?_
    · have kk : Kp p Hc (upd (upd (upd (upd (upd Hc t3 (.tup [.int 1, .int 2])) e3 (.lst [.int 1])) d3 (.dK [])) l3 (.lst [V.non, V.bl true, V.str "1/2", V.ref t3, V.int (10 ^ Int.toNat 60), V.ref e3, V.ref d3])) p (.lst [.int a1, .int b, .int c1])) := (kp_same (Same.tr s3 (same_new nl3))).trans kp_upd
      refine ⟨kb.trans kk, tabs_lst (tabs_same tb1 (Same.tr s3 (same_new nl3))) (same_new nl3 _ _ hp3), ⟨a1, c1, upd_same⟩, Gd.at (mem_at (all_c (gd_non N) (all_c (gd_bl N _) (all_c (gd_str N _) (all_c (gd_tup N (Ne.symm (ne_of_none hpb nt3)) (same_new nl3 _ _ (same_new nd3 _ _ (same_new ne3 _ _ upd_same)))) (all_c (gd_int N _ (by decide +kernel)) (all_c (gd_lst N (Ne.symm (ne_of_none (same_new nt3 _ _ hpb) ne3)) (same_new nl3 _ _ (same_new nd3 _ _ upd_same))) (all_c (gd_dct N (Ne.symm (ne_of_none (same_new ne3 _ _ (same_new nt3 _ _ hpb)) nd3)) (same_new nl3 _ _ upd_same)) all_n))))))) hx) kp_upd, ?_, gb.at kk⟩
      rcases gn with g | g
      · exact .inl (g.at kk)
      · exact .inr g
    clear gb gn hpb kb tb1 hp3 s3
    rintro odd Hd ⟨kb, tb1, ⟨a3, c3, hpb⟩, go, gn, gb⟩
    -- a half
    refine fun xh dh nxh ndh neh => ?_
    refine ⟨xh, dh, .int 1, .int 2, true, true, rfl, upd_same, Kd.int 1, Kd.int 2, (fun z => nomatch z), (fun _ z => nomatch z), fun t b et eb _ _ => ?_⟩
    cases et; cases eb
    refine ⟨(fun z => nomatch z), fun _ He bu hx => ⟨rfl, ?_⟩⟩
    have e12 : lT 1 2 = 1 ∧ lB 1 2 = 2 := by decide
    rw [e12.1, e12.2] at hx
    have sE : Same Hd He := but_mk nxh ndh bu
    replace kb := kb.trans (kp_same sE)
    replace tb1 := tabs_same tb1 sE
    replace hpb := sE _ _ hpb
    replace go := go.at (kp_same sE)
    replace gb := gb.at (kp_same sE)
    replace gn : Gd K C p He non ∨ non = .int 0 := gn.imp (fun g => g.at (kp_same sE)) id
    have nxp : xh ≠ p := fun z => by rw [z] at hx; rw [hx] at hpb; cases hpb
    clear bu sE
    -- Ratio(bad, non)
    refine ⟨tb1, fun H1 e1 T1 => ?_⟩
    refine ⟨_, rfl, _, rfl, fun x1 dx1 nx1 ndx1 nex1 => ?_⟩
    have m1 := mk_same nx1 ndx1 (o := .own x1) (o' := .ins C dx1 [])
    have k1 := (kp_ext (p := p) e1).trans (kp_same m1)
    have nkd : ∃ b2, Kd K (upd (upd H1 dx1 (.own x1)) x1 (.ins C dx1 [])) non b2 := by
      rcases gn with g | g
      · exact ⟨_, (g.at k1).kd⟩
      · rw [g]; exact ⟨_, Kd.int 0⟩
    obtain ⟨b2, nkd⟩ := nkd
    refine ⟨x1, dx1, bad, non, false, b2, rfl, upd_same, (gb.at k1).kd, nkd, fun _ => ref_count W.wd (fun H2 t1 s2 ht1 => ?_), (fun z => nomatch z), fun _ _ _ _ z => nomatch z⟩
    refine ⟨(by show 1 ≤ sizeLine; decide), fun L nL => ?_⟩
    have k2 : Kp p He H2 := k1.trans (kp_same s2)
    have kF0 : Kp p H H2 := kb.trans k2
    have gbL := (gb.at k2).re nL
    have goL := (go.at k2).re nL
    have gnL : Gd K C L H2 non ∨ non = .int 0 := gn.imp (fun g => (g.at k2).re nL) id
    have hxL := (k2.get nxp hx)
    have hpL := s2 _ _ (m1 _ _ (ext_get e1 hpb))
    have nxL := ne_of_none hxL nL
    have npL := ne_of_none hpL nL
    have nt1L := ne_of_none ht1 nL
    have TL := tabs_same (tabs_same (tabs_same T1 m1) s2) (same_new nL (o := .lst [.ref t1]))
    have kL : Kp L H2 H2 := Kp.refl
    clear gb go gn hx hpb k1 k2 m1 e1 T1 s2 nxp kb tb1
    -- Ratio(3, non)
    refine ⟨_, rfl, .inl ⟨rfl, _, SqL.of upd_same⟩, TL, fun H1 e1 T1 => ?_⟩
    refine ⟨_, rfl, fun x1 dx1 nx1 ndx1 nex1 => ?_⟩
    have m1 := mk_same nx1 ndx1 (o := .own x1) (o' := .ins C dx1 [])
    have k1 := (kp_upd (p := L)).trans ((kp_ext (p := L) e1).trans (kp_same m1))
    refine spInit_non (L := L) rfl (gnL.imp (fun g => g.at k1) id) upd_same (ref_count W.wd fun H3 t2 s2 ht2 => ?_)
    have hLL := s2 _ _ (m1 _ _ (ext_get e1 upd_same))
    refine ⟨L, _, _, rfl, rfl, hLL, (by show 1 < sizeLine; decide), ?_⟩
    replace k1 := k1.trans (kp_same s2)
    have nt2L : t2 ≠ L := fun z => by rw [z, hLL] at ht2; cases ht2
    replace gbL := gbL.at k1
    replace goL := goL.at k1
    replace gnL : Gd K C L H3 non ∨ non = .int 0 := gnL.imp (fun g => g.at k1) id
    replace hxL := (k1.get nxL hxL)
    replace hpL := (k1.get npL hpL)
    replace ht1 := (k1.get nt1L ht1)
    replace kL := kL.trans k1
    replace TL := tabs_lst (ys := [.ref t1] ++ [.ref t2]) (tabs_same (tabs_same T1 m1) s2) hLL
    clear k1 hLL T1 m1 e1 s2
    -- half.plus(odd)
    refine ⟨_, rfl, .inl ⟨rfl, _, SqL.of upd_same⟩, TL, fun H4 e1 T1 => ?_⟩
    have k1 := (kp_upd (p := L)).trans (kp_ext (p := L) e1)
    have hLL := ext_get e1 upd_same
    refine ⟨_, rfl, xh, dh, _, rfl, (k1.get nxL hxL), rf_no _ _ (by decide +kernel) (by decide +kernel), _, rfl, xh, odd, rfl, (goL.at k1).1, w_ra W.wd ?_⟩
    refine ⟨L, _, _, rfl, rfl, hLL, (by show 2 < sizeLine; decide), ?_⟩
    replace gbL := gbL.at k1
    replace goL := goL.at k1
    replace hxL := (k1.get nxL hxL)
    replace hpL := (k1.get npL hpL)
    replace ht1 := (k1.get nt1L ht1)
    replace ht2 := (k1.get nt2L ht2)
    replace kL := kL.trans k1
    replace TL := tabs_lst (ys := (([.ref t1] ++ [.ref t2]) ++ [.str "ratio"])) T1 hLL
    clear k1 hLL T1 e1
    -- half.minus(odd)
    refine ⟨_, rfl, .inl ⟨rfl, _, SqL.of upd_same⟩, TL, fun H5 e1 T1 => ?_⟩
    have k1 := (kp_upd (p := L)).trans (kp_ext (p := L) e1)
    have hLL := ext_get e1 upd_same
    refine ⟨_, rfl, xh, dh, _, rfl, (k1.get nxL hxL), rf_no _ _ (by decide +kernel) (by decide +kernel), _, rfl, xh, odd, rfl, (goL.at k1).1, w_ra W.wd ?_⟩
    refine ⟨L, _, _, rfl, rfl, hLL, (by show 3 < sizeLine; decide), ?_⟩
    replace gbL := gbL.at k1
    replace goL := goL.at k1
    replace hxL := (k1.get nxL hxL)
    replace hpL := (k1.get npL hpL)
    replace ht1 := (k1.get nt1L ht1)
    replace ht2 := (k1.get nt2L ht2)
    replace kL := kL.trans k1
    replace TL := tabs_lst (ys := ((([.ref t1] ++ [.ref t2]) ++ [.str "ratio"]) ++ [.str "ratio"])) T1 hLL
    clear k1 hLL T1 e1
    -- half.times(odd)
    refine ⟨_, rfl, .inl ⟨rfl, _, SqL.of upd_same⟩, TL, fun H6 e1 T1 => ?_⟩
    have k1 := (kp_upd (p := L)).trans (kp_ext (p := L) e1)
    have hLL := ext_get e1 upd_same
    refine ⟨_, rfl, xh, dh, _, rfl, (k1.get nxL hxL), rf_no _ _ (by decide +kernel) (by decide +kernel), _, rfl, xh, odd, rfl, (goL.at k1).1, w_ra W.wd ?_⟩
    refine ⟨L, _, _, rfl, rfl, hLL, (by show 4 < sizeLine; decide), ?_⟩
    replace gbL := gbL.at k1
    replace goL := goL.at k1
    replace hxL := (k1.get nxL hxL)
    replace hpL := (k1.get npL hpL)
    replace ht1 := (k1.get nt1L ht1)
    replace ht2 := (k1.get nt2L ht2)
    replace kL := kL.trans k1
    replace TL := tabs_lst (ys := (((([.ref t1] ++ [.ref t2]) ++ [.str "ratio"]) ++ [.str "ratio"]) ++ [.str "ratio"])) T1 hLL
    clear k1 hLL T1 e1
    -- half.over(odd)
    refine ⟨_, rfl, .inl ⟨rfl, _, SqL.of upd_same⟩, TL, fun H7 e1 T1 => ?_⟩
    have k1 := (kp_upd (p := L)).trans (kp_ext (p := L) e1)
    have hLL := ext_get e1 upd_same
    refine ⟨_, rfl, xh, dh, _, rfl, (k1.get nxL hxL), rf_no _ _ (by decide +kernel) (by decide +kernel), _, rfl, xh, odd, rfl, .inl ⟨(goL.at k1).1, w_ra W.wd ?_⟩⟩
    refine ⟨L, _, _, rfl, rfl, hLL, (by show 5 < sizeLine; decide), ?_⟩
    replace gbL := gbL.at k1
    replace goL := goL.at k1
    replace hxL := (k1.get nxL hxL)
    replace hpL := (k1.get npL hpL)
    replace ht1 := (k1.get nt1L ht1)
    replace ht2 := (k1.get nt2L ht2)
    replace kL := kL.trans k1
    replace TL := tabs_lst (ys := ((((([.ref t1] ++ [.ref t2]) ++ [.str "ratio"]) ++ [.str "ratio"]) ++ [.str "ratio"]) ++ [.str "ratio"])) T1 hLL
    clear k1 hLL T1 e1
    -- half.compared(odd)
    refine ⟨_, rfl, .inl ⟨rfl, _, SqL.of upd_same⟩, TL, fun H8 e1 T1 => ?_⟩
    have k1 := (kp_upd (p := L)).trans (kp_ext (p := L) e1)
    have hLL := ext_get e1 upd_same
    refine ⟨_, rfl, xh, dh, _, rfl, (k1.get nxL hxL), rf_no _ _ (by decide +kernel) (by decide +kernel), _, rfl, xh, odd, rfl, (goL.at k1).1, w_ra W.wd ?_⟩
    refine ⟨L, _, _, rfl, rfl, hLL, (by show 6 < sizeLine; decide), ?_⟩
    replace gbL := gbL.at k1
    replace goL := goL.at k1
    replace hxL := (k1.get nxL hxL)
    replace hpL := (k1.get npL hpL)
    replace ht1 := (k1.get nt1L ht1)
    replace ht2 := (k1.get nt2L ht2)
    replace kL := kL.trans k1
    replace TL := tabs_lst (ys := (((((([.ref t1] ++ [.ref t2]) ++ [.str "ratio"]) ++ [.str "ratio"]) ++ [.str "ratio"]) ++ [.str "ratio"]) ++ [.str "ratio"])) T1 hLL
    clear k1 hLL T1 e1
    -- half.over(0)
    refine ⟨_, rfl, .inl ⟨rfl, _, SqL.of upd_same⟩, TL, fun H1 e1 T1 => ?_⟩
    have k0 := (kp_upd (p := L)).trans (kp_ext (p := L) e1)
    refine ⟨_, rfl, xh, dh, _, rfl, (k0.get nxL hxL), rf_no _ _ (by decide +kernel) (by decide +kernel), xh, .int 0, rfl, .inr ⟨.inl rfl, fun H9 s1 => w_op W.wd ?_⟩⟩
    have k1 := k0.trans (kp_same s1)
    have hLL := s1 _ _ (ext_get e1 upd_same)
    refine ⟨L, _, _, rfl, rfl, hLL, (by show 7 < sizeLine; decide), ?_⟩
    replace gbL := gbL.at k1
    replace goL := goL.at k1
    replace hxL := (k1.get nxL hxL)
    replace hpL := (k1.get npL hpL)
    replace ht1 := (k1.get nt1L ht1)
    replace ht2 := (k1.get nt2L ht2)
    replace kL := kL.trans k1
    replace TL := tabs_lst (ys := ((((((([.ref t1] ++ [.ref t2]) ++ [.str "ratio"]) ++ [.str "ratio"]) ++ [.str "ratio"]) ++ [.str "ratio"]) ++ [.str "ratio"]) ++ [.str "operation"])) (tabs_same T1 s1) hLL
    clear k0 k1 hLL T1 e1 s1
    -- half.over(Ratio(0))
    refine ⟨_, rfl, .inl ⟨rfl, _, SqL.of upd_same⟩, TL, fun H1 e1 T1 => ?_⟩
    have k0 := (kp_upd (p := L)).trans (kp_ext (p := L) e1)
    refine ⟨_, rfl, xh, dh, _, rfl, (k0.get nxL hxL), rf_no _ _ (by decide +kernel) (by decide +kernel), fun x1 dx1 nx1 ndx1 nex1 => ?_⟩
    refine ⟨x1, dx1, .int 0, .int 1, true, true, rfl, upd_same, Kd.int 0, Kd.int 1, (fun z => nomatch z), (fun _ z => nomatch z), fun t b et eb _ _ => ?_⟩
    cases et; cases eb
    refine ⟨(fun z => nomatch z), fun _ Hz bu hz => ⟨rfl, ?_⟩⟩
    have e01 : lT 0 1 = 0 ∧ lB 0 1 = 1 := by decide
    rw [e01.1, e01.2] at hz
    have sz := but_mk nx1 ndx1 bu
    refine ⟨xh, .ref x1, rfl, .inr ⟨.inr ⟨x1, 1, rfl, dx1, hz⟩, fun H10 s1 => w_op W.wd ?_⟩⟩
    have k1 := (k0.trans (kp_same sz)).trans (kp_same s1)
    have hLL := s1 _ _ (sz _ _ (ext_get e1 upd_same))
    refine ⟨L, _, _, rfl, rfl, hLL, (by show 8 < sizeLine; decide), ?_⟩
    replace gbL := gbL.at k1
    replace goL := goL.at k1
    replace hxL := (k1.get nxL hxL)
    replace hpL := (k1.get npL hpL)
    replace ht1 := (k1.get nt1L ht1)
    replace ht2 := (k1.get nt2L ht2)
    replace kL := kL.trans k1
    replace TL := tabs_lst (ys := (((((((([.ref t1] ++ [.ref t2]) ++ [.str "ratio"]) ++ [.str "ratio"]) ++ [.str "ratio"]) ++ [.str "ratio"]) ++ [.str "ratio"]) ++ [.str "operation"]) ++ [.str "operation"])) (tabs_same (tabs_same T1 sz) s1) hLL
    clear k0 k1 hLL T1 e1 s1 sz bu hz
    -- what was told
    refine ⟨_, rfl, _, rfl, (by show 2 ≤ sizeLine; decide), fun u1 nu1 => ⟨_, rfl, (by show 2 ≤ sizeLine; decide), fun u2 nu2 => ⟨(by show 2 ≤ sizeLine; decide), fun l4 nl4 => ⟨(by show 1 ≤ sizeLine; decide), fun l5 nl5 => ?_⟩⟩⟩⟩
    refine ⟨l5, 5, _, rfl, rfl, upd_same, by decide, by decide, (by show 1 * 5 ≤ sizeLine; decide), fun p6 np6 => ?_⟩
    have q4 := same_new np6 (o := .lst (List.replicate (Int.toNat 5) [V.str "ratio"]).flatten) _ _ (same_new nl5 (o := .lst [V.str "ratio"]) _ _ (upd_same (a := l4)))
    refine ⟨l4, p6, _, _, rfl, rfl, q4, upd_same, (by show 2 + 5 ≤ sizeLine; decide), fun p7 np7 => ⟨(by show 1 ≤ sizeLine; decide), fun l8 nl8 => ?_⟩⟩
    refine ⟨l8, 2, _, rfl, rfl, upd_same, by decide, by decide, (by show 1 * 2 ≤ sizeLine; decide), fun p9 np9 => ?_⟩
    have q7 := same_new np9 (o := .lst (List.replicate (Int.toNat 2) [V.str "operation"]).flatten) _ _ (same_new nl8 (o := .lst [V.str "operation"]) _ _ (upd_same (a := p7)))
    refine ⟨p7, p9, _, _, rfl, rfl, q7, upd_same, (by show 7 + 2 ≤ sizeLine; decide), fun p10 np10 => ?_⟩
    have c2 := fun (x : Addr) (o : HO) e => same_new np10 (o := .lst (([V.ref u1, V.ref u2] ++ (List.replicate (Int.toNat 5) [V.str "ratio"]).flatten) ++ (List.replicate (Int.toNat 2) [V.str "operation"]).flatten)) x o (same_new np9 (o := .lst (List.replicate (Int.toNat 2) [V.str "operation"]).flatten) x o (same_new nl8 (o := .lst [V.str "operation"]) x o (same_new np7 (o := .lst ([V.ref u1, V.ref u2] ++ (List.replicate (Int.toNat 5) [V.str "ratio"]).flatten)) x o (same_new np6 (o := .lst (List.replicate (Int.toNat 5) [V.str "ratio"]).flatten) x o (same_new nl5 (o := .lst [V.str "ratio"]) x o (same_new nl4 (o := .lst [V.ref u1, V.ref u2]) x o e))))))
    have c1 := fun (x : Addr) (o : HO) e => c2 x o (same_new nu2 (o := .tup [.str "count", non]) x o e)
    have c0 := fun (x : Addr) (o : HO) e => c1 x o (same_new nu1 (o := .tup [.str "count", bad]) x o e)
    have hu1 := c1 _ _ (upd_same (a := u1))
    have hu2 := c2 _ _ (upd_same (a := u2))
    have a1 := c0 t1 _ (by rw [upd_ne nt1L]; exact ht1)
    have a2 := c0 t2 _ (by rw [upd_ne nt2L]; exact ht2)
    refine ⟨2, L, p10, _, _, by decide, rfl, rfl, .inl ⟨SqL.of (c0 _ _ upd_same), SqL.of upd_same⟩, ?_, ?_⟩
    · refine .cons (eqT_tup (SqT.of a1) (SqT.of hu1) (.cons (eqT_flat rfl) (.cons (eqT_same gbL.fl) .nil))) (.cons (eqT_tup (SqT.of a2) (SqT.of hu2) (.cons (eqT_flat rfl) (.cons (eqT_same ?_) .nil))) (.cons (eqT_flat rfl) (.cons (eqT_flat rfl) (.cons (eqT_flat rfl) (.cons (eqT_flat rfl) (.cons (eqT_flat rfl) (.cons (eqT_flat rfl) (.cons (eqT_flat rfl) .nil))))))))
      rcases gnL with g | g
      · exact g.fl
      · rw [g]; exact .inl rfl
    · exact k _ _ _ _ (kp_new kF0 nL (kL.trans (kp_upd.trans (kp_same c0)))) (tabs_same TL c0) (c0 p _ (by rw [upd_ne npL]; exact hpL))
end
end Lk

set_option Elab.async false
set_option linter.all false
set_option maxRecDepth 100000
set_option maxHeartbeats 8000000
set_option exponentiation.threshold 10000
namespace Lk
open PySem L2 Vx
/-- no short integer, or one within S -/
def G2 (S : Int → Prop) (K : PySem.W.Frag) (C p : Addr) (H : Hp) (x : V) : Prop := Gd K C p H x ∨ ∃ i : Int, x = .int i ∧ -LONG < i ∧ i < LONG ∧ S i
theorem G2.at {S : Int → Prop} {K : PySem.W.Frag} {C p : Addr} {H H' : Hp} {x : V} (h : G2 S K C p H x) (k : Kp p H H') : G2 S K C p H' x := h.imp (fun g => g.at k) id
theorem G2.re {S : Int → Prop} {K : PySem.W.Frag} {C p q : Addr} {H : Hp} {x : V} (h : G2 S K C p H x) (n : H q = none) : G2 S K C q H x := h.imp (fun g => g.re n) id
theorem G2.fl {S : Int → Prop} {K : PySem.W.Frag} {C p : Addr} {H : Hp} {x : V} (h : G2 S K C p H x) : flatB x = true ∨ ∃ a, x = .ref a := by
  rcases h with g | ⟨i, rfl, _⟩
  · exact g.fl
  · exact .inl rfl
theorem kd_short {K : PySem.W.Frag} {H : Hp} {i : Int} (h1 : -LONG < i) (h2 : i < LONG) : Kd K H (.int i) true := by
  have := Kd.int (K := K) (H := H) i
  rw [both h1 h2] at this
  exact this
theorem G2.kd {S : Int → Prop} {K : PySem.W.Frag} {C p : Addr} {H : Hp} {x : V} (h : G2 S K C p H x) : ∃ b, Kd K H x b ∧ (b = false ∨ ∃ i : Int, x = .int i ∧ b = true ∧ S i) := by
  rcases h with g | ⟨i, rfl, h1, h2, s⟩
  · exact ⟨_, g.kd, .inl rfl⟩
  · exact ⟨_, kd_short h1 h2, .inr ⟨i, rfl, rfl, s⟩⟩
section
variable {K : PySem.W.Frag} {C CE CT p : Addr} {H : Hp} {E : XK} {Q : VK} {x y : V} {vs : List V}
theorem noF_of (h : G2 (fun i => i < 1) K C p H x) (r : Ref CE "value" H E x) : NoF K CE CT H E x := by
  obtain ⟨b, kd, o⟩ := h.kd
  exact ⟨b, kd, o.imp (fun e => ⟨e, r⟩) fun ⟨i, e1, e2, s⟩ => ⟨i, e1, e2, .inl ⟨s, r⟩⟩⟩
theorem spDv_no (ev : vs = [x]) (h : NoF K CE CT H E x) : spDv K CE CT vs H Q E := ⟨x, ev, .inl h⟩
theorem noF_pp' (ev : vs = [x]) (h : NoF K CE CT H E x) : spPp K CE CT vs H Q E := by rw [ev]; exact noF_pp h
theorem bin_far (ev : vs = [x, y]) (h : G2 (fun i => i < 0 ∨ 1000 < i) K C p H x) (h2 : G2 (fun i => i < 0 ∨ 1000 < i) K C p H y) (r : Ref CE "value" H E x) : spBin K CE vs H Q E := by
  obtain ⟨b, kd, o⟩ := h.kd
  obtain ⟨b2, kd2, _⟩ := h2.kd
  refine ⟨x, y, b, b2, ev, kd, kd2, fun _ => r, fun i eb ei i0 i1 => ?_⟩
  rcases o with rfl | ⟨j, ej, _, s⟩
  · cases eb
  · rw [ei] at ej
    cases ej
    omega
theorem bin_near (ev : vs = [.int 6, y]) (h : G2 (fun i => i < 0 ∨ 1000 < i) K C p H y) (r : Ref CE "value" H E y) : spBin K CE vs H Q E := by
  obtain ⟨b, kd, o⟩ := h.kd
  refine ⟨.int 6, y, true, b, ev, Kd.int 6, kd, (fun z => ?_), fun i eb ei i0 i1 => ⟨fun _ => r, fun j ej e2 j0 j1 => ?_⟩⟩
  · rcases z with z | ⟨i, e, z⟩
    · cases z
    · cases e
      omega
  · rcases o with rfl | ⟨j2, e3, _, s⟩
    · cases ej
    · rw [e2] at e3
      cases e3
      omega
theorem sd_no (ev : vs = [x]) (h : G2 (fun i => i < 2 ∨ 1000 < i) K C p H x) (r : Ref CE "value" H E x) : spSdB K CE vs H Q E := by
  obtain ⟨b, kd, o⟩ := h.kd
  exact ⟨x, b, ev, kd, o, r⟩
theorem po_no (ev : vs = [x]) (h : G2 (fun i => i < 0 ∨ 200 < i) K C p H x) (r : Ref CE "value" H E x) : spPo K CE vs H Q E := by
  obtain ⟨b, kd, o⟩ := h.kd
  refine ⟨x, b, ev, kd, fun _ => r, fun i ei eb => ⟨fun _ => r, fun n en nl => ?_⟩⟩
  rcases o with rfl | ⟨j, ej, _, s⟩
  · cases eb
  · rw [ei] at ej
    cases ej
    omega
end
section
variable {P : Program} {w : World} {K : PySem.W.Frag} {mg : Str → Option Value} {base : Heap} {C CE CR CO CPr CT fE fT : Addr}
abbrev sNR : Stmt := top 46
abbrev nNR : List Str := ["_law_dice_here", "_law_told", "_law_far", "_law_low", "_law_most", "_law_near", "_law_step"]
theorem scNR : FnScope nNR ["_law_dice_here"] (defScope sNR) := ⟨rfl, rfl, rfl, by decide +kernel, rfl, by decide +kernel, by decide +kernel⟩
structure NM (P : Program) (w : World) (K : PySem.W.Frag) (mg : Str → Option Value) (base : Heap) (CE CT : Addr) : Prop where
  dv : HasX P w K mg base "divisors" 6 ["number"] (spDv K CE CT)
  pp : HasX P w K mg base "prime_powers" 5 ["number"] (spPp K CE CT)
  mo : HasX P w K mg base "moebius" 6 ["number"] (spNoF K CE CT)
  bi : HasX P w K mg base "binomial" 5 ["top", "low"] (spBin K CE)
  sd : HasX P w K mg base "step_divisor" 5 ["number"] (spSdB K CE)
  po : HasX P w K mg base "partitions_of" 5 ["number"] (spPo K CE)
theorem ok_nr {f c Pt : Addr} {fd : FuncData} {T : List (Addr × Str)} (F : FunC K "_law_numbers_right" "_law_numbers_right" sNR f fd c) (N : NoK K C) (W : HWord K mg CO CPr CR CE CT fE fT) (TB : LamX.TabB base mg c Pt)
    (hmT : (Pt, ("_law_numbers_right" : Str) ++ ".<locals>." ++ "<lambda>") ∈ T) (hu : ∀ p ∈ T, p.1 = Pt → p.2 = ("_law_numbers_right" : Str) ++ ".<locals>." ++ "<lambda>") (R : NM P w K mg base CE CT) (Pk : HPick P w K mg base) :
    FnOk P w K mg base CX0 9 f fd ["_law_dice_here"] (spPart T) := by
  obtain ⟨fK, dK, GK, mK, kK, bK⟩ := Pk
  obtain ⟨f1, d1, G1, m1, k1, b1⟩ := R.dv
  obtain ⟨f2, d2, G2_, m2, k2, b2⟩ := R.pp
  obtain ⟨f3, d3, G3, m3, k3, b3⟩ := R.mo
  obtain ⟨f4, d4, G4, m4, k4, b4⟩ := R.bi
  obtain ⟨f5, d5, G5, m5, k5, b5⟩ := R.sd
  obtain ⟨f6, d6, G6, m6, k6, b6⟩ := R.po
  refine F.ok scNR (fun vs H Q E h => ?_) (fun A outer s H vs Q E hr h => ?_)
  · obtain ⟨p, a, b, c, rfl, _⟩ := h
    rfl
  · obtain ⟨p, a, b, c, rfl, hp, tb, k⟩ := h
    refine ⟨_, (pss_cons (ps_set (i := 3) scNR.nd rfl (.inr rfl) (pe_call GK (hr.mono (by decide)) rfl mK kK bK .nil pass0 (pa_cons (pv 0) (pa_cons (pe_lst (pa_cons pe_int (pa_cons (pe_un un_neg pe_int) (pa_cons pe_non (pa_cons pe_bl (pa_cons pe_str (pa_cons (pe_tup (pa_cons pe_int pa_nil)) (pa_cons (pe_op op_pow pe_int pe_int) (pa_cons (pe_un un_neg (pe_op op_pow pe_int pe_int)) (pa_cons (pe_lst pa_nil) (pa_cons pe_dnewK pa_nil))))))))))) pa_nil))))
      (pss_cons (ps_set (i := 2) scNR.nd rfl (.inr rfl) (pe_call GK (hr.mono (by decide)) rfl mK kK bK .nil pass0 (pa_cons (pv 0) (pa_cons (pe_lst (pa_cons (pe_un un_neg pe_int) (pa_cons pe_int (pa_cons pe_non (pa_cons pe_bl (pa_cons pe_str (pa_cons (pe_tup (pa_cons pe_int pa_nil)) (pa_cons (pe_op op_pow pe_int pe_int) pa_nil)))))))) pa_nil))))
      (pss_cons (ps_set (i := 5) scNR.nd rfl (.inr rfl) (pe_call GK (hr.mono (by decide)) rfl mK kK bK .nil pass0 (pa_cons (pv 0) (pa_cons (pe_lst (pa_cons (pe_un un_neg pe_int) (pa_cons pe_int (pa_cons pe_non (pa_cons pe_bl (pa_cons pe_str (pa_cons (pe_lst (pa_cons pe_int pa_nil)) (pa_cons (pe_op op_pow pe_int pe_int) pa_nil)))))))) pa_nil))))
      (pss_cons (ps_set (i := 6) scNR.nd rfl (.inr rfl) (pe_call GK (hr.mono (by decide)) rfl mK kK bK .nil pass0 (pa_cons (pv 0) (pa_cons (pe_lst (pa_cons pe_int (pa_cons pe_int (pa_cons (pe_un un_neg pe_int) (pa_cons pe_int (pa_cons pe_non (pa_cons pe_bl (pa_cons pe_str (pa_cons (pe_tup (pa_cons pe_int pa_nil)) (pa_cons (pe_op op_pow pe_int pe_int) pa_nil)))))))))) pa_nil))))
      (pss_cons (ps_set (i := 4) scNR.nd rfl (.inr rfl) (pe_call GK (hr.mono (by decide)) rfl mK kK bK .nil pass0 (pa_cons (pv 0) (pa_cons (pe_lst (pa_cons (pe_un un_neg pe_int) (pa_cons pe_int (pa_cons pe_non (pa_cons pe_bl (pa_cons pe_str (pa_cons (pe_tup (pa_cons pe_int pa_nil)) (pa_cons (pe_op op_pow pe_int pe_int) pa_nil)))))))) pa_nil))))
      (pss_cons (ps_set (i := 1) scNR.nd rfl (.inl rfl) (pe_lst (pa_cons (pe_word W TB rfl hmT hu hr (LamX.lamS_by (sc := defScope sNR) (by decide +kernel)) (fun A outer s H E f c' hr2 => pe_call G1 (hr2.mono (by decide)) rfl m1 k1 b1 .nil (passes_call (takes_of rfl rfl rfl rfl) (fun _ _ _ _ h => h)) (pa_cons (pv 3) pa_nil))) pa_nil)))
      (pss_cons (ps_expr (pe_bm PySem.F.plainAttrs_list PySem.F.slot_list_append PySem.F.type_list_append mt_append (pv 1) (pa_cons (pe_word W TB rfl hmT hu hr (LamX.lamS_by (sc := defScope sNR) (by decide +kernel)) (fun A outer s H E f c' hr2 => pe_call G2_ (hr2.mono (by decide)) rfl m2 k2 b2 .nil (passes_call (takes_of rfl rfl rfl rfl) (fun _ _ _ _ h => h)) (pa_cons (pv 3) pa_nil))) pa_nil)))
      (pss_cons (ps_expr (pe_bm PySem.F.plainAttrs_list PySem.F.slot_list_append PySem.F.type_list_append mt_append (pv 1) (pa_cons (pe_word W TB rfl hmT hu hr (LamX.lamS_by (sc := defScope sNR) (by decide +kernel)) (fun A outer s H E f c' hr2 => pe_call G3 (hr2.mono (by decide)) rfl m3 k3 b3 .nil (passes_call (takes_of rfl rfl rfl rfl) (fun _ _ _ _ h => h)) (pa_cons (pv 3) pa_nil))) pa_nil)))
      (pss_cons (ps_expr (pe_bm PySem.F.plainAttrs_list PySem.F.slot_list_append PySem.F.type_list_append mt_append (pv 1) (pa_cons (pe_word W TB rfl hmT hu hr (LamX.lamS_by (sc := defScope sNR) (by decide +kernel)) (fun A outer s H E f c' hr2 => pe_call G4 (hr2.mono (by decide)) rfl m4 k4 b4 .nil (passes_call (takes_of rfl rfl rfl rfl) (fun _ _ _ _ h => h)) (pa_cons (pv 2) (pa_cons (pv 5) pa_nil)))) pa_nil)))
      (pss_cons (ps_expr (pe_bm PySem.F.plainAttrs_list PySem.F.slot_list_append PySem.F.type_list_append mt_append (pv 1) (pa_cons (pe_word W TB rfl hmT hu hr (LamX.lamS_by (sc := defScope sNR) (by decide +kernel)) (fun A outer s H E f c' hr2 => pe_call G4 (hr2.mono (by decide)) rfl m4 k4 b4 .nil (passes_call (takes_of rfl rfl rfl rfl) (fun _ _ _ _ h => h)) (pa_cons pe_int (pa_cons (pv 5) pa_nil)))) pa_nil)))
      (pss_cons (ps_expr (pe_bm PySem.F.plainAttrs_list PySem.F.slot_list_append PySem.F.type_list_append mt_append (pv 1) (pa_cons (pe_word W TB rfl hmT hu hr (LamX.lamS_by (sc := defScope sNR) (by decide +kernel)) (fun A outer s H E f c' hr2 => pe_call G5 (hr2.mono (by decide)) rfl m5 k5 b5 .nil (passes_call (takes_of rfl rfl rfl rfl) (fun _ _ _ _ h => h)) (pa_cons (pv 6) pa_nil))) pa_nil)))
      (pss_cons (ps_expr (pe_bm PySem.F.plainAttrs_list PySem.F.slot_list_append PySem.F.type_list_append mt_append (pv 1) (pa_cons (pe_word W TB rfl hmT hu hr (LamX.lamS_by (sc := defScope sNR) (by decide +kernel)) (fun A outer s H E f c' hr2 => pe_call G6 (hr2.mono (by decide)) rfl m6 k6 b6 .nil (passes_call (takes_of rfl rfl rfl rfl) (fun _ _ _ _ h => h)) (pa_cons (pv 4) pa_nil))) pa_nil)))
      (pss_one (ps_ret (pe_cmpR (op_eqT hr.units) (pv 1) (pe_op op_cat (pe_op op_rep (pe_lst (pa_cons (pe_tup (pa_cons pe_str (pa_cons (pv 3) pa_nil))) pa_nil)) pe_int) (pe_lst (pa_cons (pe_tup (pa_cons pe_str (pa_cons (pv 2) pa_nil))) (pa_cons (pe_tup (pa_cons pe_str (pa_cons (pv 5) pa_nil))) (pa_cons (pe_tup (pa_cons pe_str (pa_cons (pv 6) pa_nil))) (pa_cons (pe_tup (pa_cons pe_str (pa_cons (pv 4) pa_nil))) pa_nil)))))) (nomark _)))))))))))))))), ?_⟩
    clear m1 m2 m3 m4 m5 m6 k1 k2 k3 k4 k5 k6 b1 b2 b3 b4 b5 b6 mK kK bK
    -- low
    refine ⟨_, rfl, _, rfl, (by show 1 ≤ sizeLine; decide), fun al0 nal0 => ⟨_, _, rfl, rfl, ⟨by decide, by decide, by decide⟩, _, _, rfl, rfl, ⟨by decide, by decide, by decide⟩, _, rfl, (by show 0 ≤ sizeLine; decide), fun al1 nal1 al2 nal2 => ⟨(by show 10 ≤ sizeLine; decide), fun al3 nal3 => ?_⟩⟩⟩
    dsimp only [tNil, List.append_nil]
    have hpl := (same_new nal2 (o := .dK []) _ _ (same_new nal1 (o := .lst []) _ _ (same_new nal0 (o := .tup [V.int 6]) _ _ hp)))
    refine spPick_of (fun x Hb => Kp p H Hb ∧ LamX.Tabs T Hb ∧ (∃ a c : Int, Hb p = some (.lst [.int a, .int b, .int c])) ∧ G2 (fun i => i < 1) K C p Hb x) rfl (same_new nal3 _ _ hpl) (SqL.of upd_same) (Ne.symm (ne_of_none hpl nal3)) (by show 0 < 10; decide) (by show 10 < 1000; decide) (fun i x a1 c1 hx => ?_) ?_
    · have kk := ((kp_same (p := p) (Same.tr (Same.tr (same_new nal0 (o := .tup [V.int 6])) (Same.tr (same_new nal1 (o := .lst [])) (same_new nal2 (o := .dK [])))) (same_new nal3 (o := .lst [V.int 0, V.int (-1), V.non, V.bl true, V.str "6", V.ref al0, V.int (10 ^ Int.toNat 60), V.int (-(10 ^ Int.toNat 60)), V.ref al1, V.ref al2])))).trans (kp_upd (o := .lst [.int a1, .int b, .int c1])))
      exact ⟨kk, tabs_lst (tabs_same tb (Same.tr (Same.tr (same_new nal0 (o := .tup [V.int 6])) (Same.tr (same_new nal1 (o := .lst [])) (same_new nal2 (o := .dK [])))) (same_new nal3))) (same_new nal3 _ _ hpl), ⟨a1, c1, upd_same⟩, mem_at (Pr := fun x => G2 (fun i => i < 1) K C p _ x) (all_c (.inr ⟨_, rfl, by decide +kernel, by decide +kernel, by decide +kernel⟩) (all_c (.inr ⟨_, rfl, by decide +kernel, by decide +kernel, by decide +kernel⟩) (all_c (.inl (gd_non N)) (all_c (.inl (gd_bl N _)) (all_c (.inl (gd_str N _)) (all_c (.inl (Gd.at (gd_tup N (Ne.symm (ne_of_none hp nal0)) (same_new nal3 _ _ (same_new nal2 _ _ (same_new nal1 _ _ upd_same)))) kp_upd)) (all_c (.inl (gd_int N _ (by decide +kernel))) (all_c (.inl (gd_int N _ (by decide +kernel))) (all_c (.inl (Gd.at (gd_lst N (Ne.symm (ne_of_none (same_new nal0 _ _ hp) nal1)) (same_new nal3 _ _ (same_new nal2 _ _ upd_same))) kp_upd)) (all_c (.inl (Gd.at (gd_dct N (Ne.symm (ne_of_none (same_new nal1 _ _ (same_new nal0 _ _ hp)) nal2)) (same_new nal3 _ _ upd_same)) kp_upd)) all_n)))))))))) hx⟩
    rintro low Hlow ⟨kb, tb1, ⟨alow, clow, hpb⟩, glow⟩
    -- far
    refine ⟨_, rfl, _, rfl, (by show 1 ≤ sizeLine; decide), fun af0 naf0 => ⟨_, _, rfl, rfl, ⟨by decide, by decide, by decide⟩, (by show 7 ≤ sizeLine; decide), fun af1 naf1 => ?_⟩⟩
    dsimp only [tNil, List.append_nil]
    have hpf := (same_new naf0 (o := .tup [V.int 6]) _ _ hpb)
    refine spPick_of (fun x Hb => Kp p H Hb ∧ LamX.Tabs T Hb ∧ (∃ a c : Int, Hb p = some (.lst [.int a, .int b, .int c])) ∧ G2 (fun i => i < 0 ∨ 1000 < i) K C p Hb x ∧ G2 (fun i => i < 1) K C p Hb low) rfl (same_new naf1 _ _ hpf) (SqL.of upd_same) (Ne.symm (ne_of_none hpf naf1)) (by show 0 < 7; decide) (by show 7 < 1000; decide) (fun i x a1 c1 hx => ?_) ?_
    · have kk := ((kp_same (p := p) (Same.tr (same_new naf0 (o := .tup [V.int 6])) (same_new naf1 (o := .lst [V.int (-1), V.int 1001, V.non, V.bl true, V.str "6", V.ref af0, V.int (10 ^ Int.toNat 60)])))).trans (kp_upd (o := .lst [.int a1, .int b, .int c1])))
      exact ⟨kb.trans kk, tabs_lst (tabs_same tb1 (Same.tr (same_new naf0 (o := .tup [V.int 6])) (same_new naf1))) (same_new naf1 _ _ hpf), ⟨a1, c1, upd_same⟩, mem_at (Pr := fun x => G2 (fun i => i < 0 ∨ 1000 < i) K C p _ x) (all_c (.inr ⟨_, rfl, by decide +kernel, by decide +kernel, by decide +kernel⟩) (all_c (.inr ⟨_, rfl, by decide +kernel, by decide +kernel, by decide +kernel⟩) (all_c (.inl (gd_non N)) (all_c (.inl (gd_bl N _)) (all_c (.inl (gd_str N _)) (all_c (.inl (Gd.at (gd_tup N (Ne.symm (ne_of_none hpb naf0)) (same_new naf1 _ _ upd_same)) kp_upd)) (all_c (.inl (gd_int N _ (by decide +kernel))) all_n))))))) hx, glow.at kk⟩
    clear hpf glow hpb kb tb1 
    rintro far Hfar ⟨kb, tb1, ⟨afar, cfar, hpb⟩, gfar, glow⟩
    -- near
    refine ⟨_, rfl, _, rfl, (by show 1 ≤ sizeLine; decide), fun an0 nan0 => ⟨_, _, rfl, rfl, ⟨by decide, by decide, by decide⟩, (by show 7 ≤ sizeLine; decide), fun an1 nan1 => ?_⟩⟩
    dsimp only [tNil, List.append_nil]
    have hpn := (same_new nan0 (o := .lst [V.int 3]) _ _ hpb)
    refine spPick_of (fun x Hb => Kp p H Hb ∧ LamX.Tabs T Hb ∧ (∃ a c : Int, Hb p = some (.lst [.int a, .int b, .int c])) ∧ G2 (fun i => i < 0 ∨ 1000 < i) K C p Hb x ∧ G2 (fun i => i < 1) K C p Hb low ∧ G2 (fun i => i < 0 ∨ 1000 < i) K C p Hb far) rfl (same_new nan1 _ _ hpn) (SqL.of upd_same) (Ne.symm (ne_of_none hpn nan1)) (by show 0 < 7; decide) (by show 7 < 1000; decide) (fun i x a1 c1 hx => ?_) ?_
    · have kk := ((kp_same (p := p) (Same.tr (same_new nan0 (o := .lst [V.int 3])) (same_new nan1 (o := .lst [V.int (-2), V.int 1001, V.non, V.bl false, V.str "3", V.ref an0, V.int (10 ^ Int.toNat 60)])))).trans (kp_upd (o := .lst [.int a1, .int b, .int c1])))
      exact ⟨kb.trans kk, tabs_lst (tabs_same tb1 (Same.tr (same_new nan0 (o := .lst [V.int 3])) (same_new nan1))) (same_new nan1 _ _ hpn), ⟨a1, c1, upd_same⟩, mem_at (Pr := fun x => G2 (fun i => i < 0 ∨ 1000 < i) K C p _ x) (all_c (.inr ⟨_, rfl, by decide +kernel, by decide +kernel, by decide +kernel⟩) (all_c (.inr ⟨_, rfl, by decide +kernel, by decide +kernel, by decide +kernel⟩) (all_c (.inl (gd_non N)) (all_c (.inl (gd_bl N _)) (all_c (.inl (gd_str N _)) (all_c (.inl (Gd.at (gd_lst N (Ne.symm (ne_of_none hpb nan0)) (same_new nan1 _ _ upd_same)) kp_upd)) (all_c (.inl (gd_int N _ (by decide +kernel))) all_n))))))) hx, glow.at kk, gfar.at kk⟩
    clear hpn glow gfar hpb kb tb1 
    rintro near Hnear ⟨kb, tb1, ⟨anear, cnear, hpb⟩, gnear, glow, gfar⟩
    -- step
    refine ⟨_, rfl, _, rfl, (by show 1 ≤ sizeLine; decide), fun as0 nas0 => ⟨_, _, rfl, rfl, ⟨by decide, by decide, by decide⟩, (by show 9 ≤ sizeLine; decide), fun as1 nas1 => ?_⟩⟩
    dsimp only [tNil, List.append_nil]
    have hps := (same_new nas0 (o := .tup [V.int 4]) _ _ hpb)
    refine spPick_of (fun x Hb => Kp p H Hb ∧ LamX.Tabs T Hb ∧ (∃ a c : Int, Hb p = some (.lst [.int a, .int b, .int c])) ∧ G2 (fun i => i < 2 ∨ 1000 < i) K C p Hb x ∧ G2 (fun i => i < 1) K C p Hb low ∧ G2 (fun i => i < 0 ∨ 1000 < i) K C p Hb far ∧ G2 (fun i => i < 0 ∨ 1000 < i) K C p Hb near) rfl (same_new nas1 _ _ hps) (SqL.of upd_same) (Ne.symm (ne_of_none hps nas1)) (by show 0 < 9; decide) (by show 9 < 1000; decide) (fun i x a1 c1 hx => ?_) ?_
    · have kk := ((kp_same (p := p) (Same.tr (same_new nas0 (o := .tup [V.int 4])) (same_new nas1 (o := .lst [V.int 0, V.int 1, V.int (-2), V.int 1001, V.non, V.bl true, V.str "4", V.ref as0, V.int (10 ^ Int.toNat 60)])))).trans (kp_upd (o := .lst [.int a1, .int b, .int c1])))
      exact ⟨kb.trans kk, tabs_lst (tabs_same tb1 (Same.tr (same_new nas0 (o := .tup [V.int 4])) (same_new nas1))) (same_new nas1 _ _ hps), ⟨a1, c1, upd_same⟩, mem_at (Pr := fun x => G2 (fun i => i < 2 ∨ 1000 < i) K C p _ x) (all_c (.inr ⟨_, rfl, by decide +kernel, by decide +kernel, by decide +kernel⟩) (all_c (.inr ⟨_, rfl, by decide +kernel, by decide +kernel, by decide +kernel⟩) (all_c (.inr ⟨_, rfl, by decide +kernel, by decide +kernel, by decide +kernel⟩) (all_c (.inr ⟨_, rfl, by decide +kernel, by decide +kernel, by decide +kernel⟩) (all_c (.inl (gd_non N)) (all_c (.inl (gd_bl N _)) (all_c (.inl (gd_str N _)) (all_c (.inl (Gd.at (gd_tup N (Ne.symm (ne_of_none hpb nas0)) (same_new nas1 _ _ upd_same)) kp_upd)) (all_c (.inl (gd_int N _ (by decide +kernel))) all_n))))))))) hx, glow.at kk, gfar.at kk, gnear.at kk⟩
    clear hps glow gfar gnear hpb kb tb1 
    rintro step Hstep ⟨kb, tb1, ⟨astep, cstep, hpb⟩, gstep, glow, gfar, gnear⟩
    -- most
    refine ⟨_, rfl, _, rfl, (by show 1 ≤ sizeLine; decide), fun am0 nam0 => ⟨_, _, rfl, rfl, ⟨by decide, by decide, by decide⟩, (by show 7 ≤ sizeLine; decide), fun am1 nam1 => ?_⟩⟩
    dsimp only [tNil, List.append_nil]
    have hpm := (same_new nam0 (o := .tup [V.int 4]) _ _ hpb)
    refine spPick_of (fun x Hb => Kp p H Hb ∧ LamX.Tabs T Hb ∧ (∃ a c : Int, Hb p = some (.lst [.int a, .int b, .int c])) ∧ G2 (fun i => i < 0 ∨ 200 < i) K C p Hb x ∧ G2 (fun i => i < 1) K C p Hb low ∧ G2 (fun i => i < 0 ∨ 1000 < i) K C p Hb far ∧ G2 (fun i => i < 0 ∨ 1000 < i) K C p Hb near ∧ G2 (fun i => i < 2 ∨ 1000 < i) K C p Hb step) rfl (same_new nam1 _ _ hpm) (SqL.of upd_same) (Ne.symm (ne_of_none hpm nam1)) (by show 0 < 7; decide) (by show 7 < 1000; decide) (fun i x a1 c1 hx => ?_) ?_
    · have kk := ((kp_same (p := p) (Same.tr (same_new nam0 (o := .tup [V.int 4])) (same_new nam1 (o := .lst [V.int (-1), V.int 201, V.non, V.bl true, V.str "4", V.ref am0, V.int (10 ^ Int.toNat 60)])))).trans (kp_upd (o := .lst [.int a1, .int b, .int c1])))
      exact ⟨kb.trans kk, tabs_lst (tabs_same tb1 (Same.tr (same_new nam0 (o := .tup [V.int 4])) (same_new nam1))) (same_new nam1 _ _ hpm), ⟨a1, c1, upd_same⟩, mem_at (Pr := fun x => G2 (fun i => i < 0 ∨ 200 < i) K C p _ x) (all_c (.inr ⟨_, rfl, by decide +kernel, by decide +kernel, by decide +kernel⟩) (all_c (.inr ⟨_, rfl, by decide +kernel, by decide +kernel, by decide +kernel⟩) (all_c (.inl (gd_non N)) (all_c (.inl (gd_bl N _)) (all_c (.inl (gd_str N _)) (all_c (.inl (Gd.at (gd_tup N (Ne.symm (ne_of_none hpb nam0)) (same_new nam1 _ _ upd_same)) kp_upd)) (all_c (.inl (gd_int N _ (by decide +kernel))) all_n))))))) hx, glow.at kk, gfar.at kk, gnear.at kk, gstep.at kk⟩
    clear hpm glow gfar gnear gstep hpb kb tb1 
    rintro most Hmost ⟨kb, tb1, ⟨amost, cmost, hpb⟩, gmost, glow, gfar, gnear, gstep⟩
    -- word 1
    refine ⟨tb1, fun Ha e1 T1 => ?_⟩
    have k1 := kp_ext (p := p) e1
    refine ⟨_, rfl, ?_⟩
    dsimp only [tNil, List.append_nil]
    refine spDv_no rfl (noF_of (glow.at k1) (ref_count W.wd fun H1 t1 s2 ht1 => ?_))
    refine ⟨(by show 1 ≤ sizeLine; decide), fun L nL => ?_⟩
    have k2 := k1.trans (kp_same s2)
    have kF0 := kb.trans k2
    replace glow := (glow.at k2).re nL
    replace gfar := (gfar.at k2).re nL
    replace gnear := (gnear.at k2).re nL
    replace gstep := (gstep.at k2).re nL
    replace gmost := (gmost.at k2).re nL
    have hpL := s2 _ _ (ext_get e1 hpb)
    have npL := ne_of_none hpL nL
    have nt1L := ne_of_none ht1 nL
    have TL := tabs_same (tabs_same T1 s2) (same_new nL (o := .lst [.ref t1]))
    have kL : Kp L H1 H1 := Kp.refl
    clear k1 k2 e1 T1 s2 hpb kb tb1
    -- word 2
    refine ⟨_, rfl, .inl ⟨rfl, _, SqL.of upd_same⟩, TL, fun Ha e1 T1 => ?_⟩
    have k1 := (kp_upd (p := L)).trans (kp_ext (p := L) e1)
    refine ⟨_, rfl, ?_⟩
    dsimp only [tNil, List.append_nil]
    refine noF_pp' rfl (noF_of (glow.at k1) (ref_count W.wd fun H2 t2 s2 ht2 => ?_))
    have hLL := s2 _ _ (ext_get e1 upd_same)
    refine ⟨L, _, _, rfl, rfl, hLL, (by show 1 < sizeLine; decide), ?_⟩
    replace k1 := k1.trans (kp_same s2)
    have nt2L : t2 ≠ L := fun z => by rw [z, hLL] at ht2; cases ht2
    replace glow := glow.at k1
    replace gfar := gfar.at k1
    replace gnear := gnear.at k1
    replace gstep := gstep.at k1
    replace gmost := gmost.at k1
    replace hpL := k1.get npL hpL
    replace ht1 := k1.get nt1L ht1
    replace kL := kL.trans k1
    replace TL := tabs_lst (ys := ([.ref t1] ++ [.ref t2])) (tabs_same T1 s2) hLL
    clear k1 hLL T1 e1 s2
    -- word 3
    refine ⟨_, rfl, .inl ⟨rfl, _, SqL.of upd_same⟩, TL, fun Ha e1 T1 => ?_⟩
    have k1 := (kp_upd (p := L)).trans (kp_ext (p := L) e1)
    refine ⟨_, rfl, ?_⟩
    dsimp only [tNil, List.append_nil]
    refine ⟨_, rfl, noF_of (glow.at k1) (ref_count W.wd fun H3 t3 s2 ht3 => ?_)⟩
    have hLL := s2 _ _ (ext_get e1 upd_same)
    refine ⟨L, _, _, rfl, rfl, hLL, (by show 2 < sizeLine; decide), ?_⟩
    replace k1 := k1.trans (kp_same s2)
    have nt3L : t3 ≠ L := fun z => by rw [z, hLL] at ht3; cases ht3
    replace glow := glow.at k1
    replace gfar := gfar.at k1
    replace gnear := gnear.at k1
    replace gstep := gstep.at k1
    replace gmost := gmost.at k1
    replace hpL := k1.get npL hpL
    replace ht1 := k1.get nt1L ht1
    replace ht2 := k1.get nt2L ht2
    replace kL := kL.trans k1
    replace TL := tabs_lst (ys := (([.ref t1] ++ [.ref t2]) ++ [.ref t3])) (tabs_same T1 s2) hLL
    clear k1 hLL T1 e1 s2
    -- word 4
    refine ⟨_, rfl, .inl ⟨rfl, _, SqL.of upd_same⟩, TL, fun Ha e1 T1 => ?_⟩
    have k1 := (kp_upd (p := L)).trans (kp_ext (p := L) e1)
    refine ⟨_, rfl, _, rfl, ?_⟩
    dsimp only [tNil, List.append_nil]
    refine bin_far rfl (gfar.at k1) (gnear.at k1) (ref_count W.wd fun H4 t4 s2 ht4 => ?_)
    have hLL := s2 _ _ (ext_get e1 upd_same)
    refine ⟨L, _, _, rfl, rfl, hLL, (by show 3 < sizeLine; decide), ?_⟩
    replace k1 := k1.trans (kp_same s2)
    have nt4L : t4 ≠ L := fun z => by rw [z, hLL] at ht4; cases ht4
    replace glow := glow.at k1
    replace gfar := gfar.at k1
    replace gnear := gnear.at k1
    replace gstep := gstep.at k1
    replace gmost := gmost.at k1
    replace hpL := k1.get npL hpL
    replace ht1 := k1.get nt1L ht1
    replace ht2 := k1.get nt2L ht2
    replace ht3 := k1.get nt3L ht3
    replace kL := kL.trans k1
    replace TL := tabs_lst (ys := ((([.ref t1] ++ [.ref t2]) ++ [.ref t3]) ++ [.ref t4])) (tabs_same T1 s2) hLL
    clear k1 hLL T1 e1 s2
    -- word 5
    refine ⟨_, rfl, .inl ⟨rfl, _, SqL.of upd_same⟩, TL, fun Ha e1 T1 => ?_⟩
    have k1 := (kp_upd (p := L)).trans (kp_ext (p := L) e1)
    refine ⟨_, rfl, ?_⟩
    dsimp only [tNil, List.append_nil]
    refine bin_near rfl (gnear.at k1) (ref_count W.wd fun H5 t5 s2 ht5 => ?_)
    have hLL := s2 _ _ (ext_get e1 upd_same)
    refine ⟨L, _, _, rfl, rfl, hLL, (by show 4 < sizeLine; decide), ?_⟩
    replace k1 := k1.trans (kp_same s2)
    have nt5L : t5 ≠ L := fun z => by rw [z, hLL] at ht5; cases ht5
    replace glow := glow.at k1
    replace gfar := gfar.at k1
    replace gnear := gnear.at k1
    replace gstep := gstep.at k1
    replace gmost := gmost.at k1
    replace hpL := k1.get npL hpL
    replace ht1 := k1.get nt1L ht1
    replace ht2 := k1.get nt2L ht2
    replace ht3 := k1.get nt3L ht3
    replace ht4 := k1.get nt4L ht4
    replace kL := kL.trans k1
    replace TL := tabs_lst (ys := (((([.ref t1] ++ [.ref t2]) ++ [.ref t3]) ++ [.ref t4]) ++ [.ref t5])) (tabs_same T1 s2) hLL
    clear k1 hLL T1 e1 s2
    -- word 6
    refine ⟨_, rfl, .inl ⟨rfl, _, SqL.of upd_same⟩, TL, fun Ha e1 T1 => ?_⟩
    have k1 := (kp_upd (p := L)).trans (kp_ext (p := L) e1)
    refine ⟨_, rfl, ?_⟩
    dsimp only [tNil, List.append_nil]
    refine sd_no rfl (gstep.at k1) (ref_count W.wd fun H6 t6 s2 ht6 => ?_)
    have hLL := s2 _ _ (ext_get e1 upd_same)
    refine ⟨L, _, _, rfl, rfl, hLL, (by show 5 < sizeLine; decide), ?_⟩
    replace k1 := k1.trans (kp_same s2)
    have nt6L : t6 ≠ L := fun z => by rw [z, hLL] at ht6; cases ht6
    replace glow := glow.at k1
    replace gfar := gfar.at k1
    replace gnear := gnear.at k1
    replace gstep := gstep.at k1
    replace gmost := gmost.at k1
    replace hpL := k1.get npL hpL
    replace ht1 := k1.get nt1L ht1
    replace ht2 := k1.get nt2L ht2
    replace ht3 := k1.get nt3L ht3
    replace ht4 := k1.get nt4L ht4
    replace ht5 := k1.get nt5L ht5
    replace kL := kL.trans k1
    replace TL := tabs_lst (ys := ((((([.ref t1] ++ [.ref t2]) ++ [.ref t3]) ++ [.ref t4]) ++ [.ref t5]) ++ [.ref t6])) (tabs_same T1 s2) hLL
    clear k1 hLL T1 e1 s2
    -- word 7
    refine ⟨_, rfl, .inl ⟨rfl, _, SqL.of upd_same⟩, TL, fun Ha e1 T1 => ?_⟩
    have k1 := (kp_upd (p := L)).trans (kp_ext (p := L) e1)
    refine ⟨_, rfl, ?_⟩
    dsimp only [tNil, List.append_nil]
    refine po_no rfl (gmost.at k1) (ref_count W.wd fun H7 t7 s2 ht7 => ?_)
    have hLL := s2 _ _ (ext_get e1 upd_same)
    refine ⟨L, _, _, rfl, rfl, hLL, (by show 6 < sizeLine; decide), ?_⟩
    replace k1 := k1.trans (kp_same s2)
    have nt7L : t7 ≠ L := fun z => by rw [z, hLL] at ht7; cases ht7
    replace glow := glow.at k1
    replace gfar := gfar.at k1
    replace gnear := gnear.at k1
    replace gstep := gstep.at k1
    replace gmost := gmost.at k1
    replace hpL := k1.get npL hpL
    replace ht1 := k1.get nt1L ht1
    replace ht2 := k1.get nt2L ht2
    replace ht3 := k1.get nt3L ht3
    replace ht4 := k1.get nt4L ht4
    replace ht5 := k1.get nt5L ht5
    replace ht6 := k1.get nt6L ht6
    replace kL := kL.trans k1
    replace TL := tabs_lst (ys := (((((([.ref t1] ++ [.ref t2]) ++ [.ref t3]) ++ [.ref t4]) ++ [.ref t5]) ++ [.ref t6]) ++ [.ref t7])) (tabs_same T1 s2) hLL
    clear k1 hLL T1 e1 s2
    -- what was told
    refine ⟨_, rfl, _, rfl, (by show 2 ≤ sizeLine; decide), fun u1 nu1 => ⟨(by show 1 ≤ sizeLine; decide), fun l2 nl2 => ?_⟩⟩
    refine ⟨l2, 3, _, rfl, rfl, upd_same, by decide, by decide, (by show 1 * 3 ≤ sizeLine; decide), fun p3 np3 => ?_⟩
    refine ⟨_, rfl, (by show 2 ≤ sizeLine; decide), fun u4 nu4 => ⟨_, rfl, (by show 2 ≤ sizeLine; decide), fun u5 nu5 => ⟨_, rfl, (by show 2 ≤ sizeLine; decide), fun u6 nu6 => ⟨_, rfl, (by show 2 ≤ sizeLine; decide), fun u7 nu7 => ⟨(by show 4 ≤ sizeLine; decide), fun l8 nl8 => ?_⟩⟩⟩⟩⟩
    have q3 := fun (x : Addr) (o : HO) e => same_new nl8 (o := .lst [V.ref u4, V.ref u5, V.ref u6, V.ref u7]) x o (same_new nu7 (o := .tup [.str "count", most]) x o (same_new nu6 (o := .tup [.str "count", step]) x o (same_new nu5 (o := .tup [.str "count", near]) x o (same_new nu4 (o := .tup [.str "count", far]) x o e))))
    refine ⟨p3, l8, _, _, rfl, rfl, q3 _ _ upd_same, upd_same, (by show 3 + 4 ≤ sizeLine; decide), fun p9 np9 => ?_⟩
    have c9 := fun (x : Addr) (o : HO) e => same_new np9 (o := .lst ((List.replicate (Int.toNat 3) [V.ref u1]).flatten ++ [V.ref u4, V.ref u5, V.ref u6, V.ref u7])) x o (same_new nl8 (o := .lst [V.ref u4, V.ref u5, V.ref u6, V.ref u7]) x o e)
    have c7 := fun (x : Addr) (o : HO) e => c9 x o (same_new nu7 (o := .tup [.str "count", most]) x o e)
    have c6 := fun (x : Addr) (o : HO) e => c7 x o (same_new nu6 (o := .tup [.str "count", step]) x o e)
    have c5 := fun (x : Addr) (o : HO) e => c6 x o (same_new nu5 (o := .tup [.str "count", near]) x o e)
    have c4 := fun (x : Addr) (o : HO) e => c5 x o (same_new nu4 (o := .tup [.str "count", far]) x o e)
    have c1 := fun (x : Addr) (o : HO) e => c4 x o (same_new np3 (o := .lst (List.replicate (Int.toNat 3) [V.ref u1]).flatten) x o (same_new nl2 (o := .lst [V.ref u1]) x o e))
    have c0 := fun (x : Addr) (o : HO) e => c1 x o (same_new nu1 (o := .tup [.str "count", low]) x o e)
    have hu1 := c1 _ _ (upd_same (a := u1))
    have hu4 := c5 _ _ (upd_same (a := u4))
    have hu5 := c6 _ _ (upd_same (a := u5))
    have hu6 := c7 _ _ (upd_same (a := u6))
    have hu7 := c9 _ _ (upd_same (a := u7))
    have a1 := c0 t1 _ (by rw [upd_ne nt1L]; exact ht1)
    have a2 := c0 t2 _ (by rw [upd_ne nt2L]; exact ht2)
    have a3 := c0 t3 _ (by rw [upd_ne nt3L]; exact ht3)
    have a4 := c0 t4 _ (by rw [upd_ne nt4L]; exact ht4)
    have a5 := c0 t5 _ (by rw [upd_ne nt5L]; exact ht5)
    have a6 := c0 t6 _ (by rw [upd_ne nt6L]; exact ht6)
    have a7 := c0 t7 _ (by rw [upd_ne nt7L]; exact ht7)
    refine ⟨2, L, p9, _, _, by decide, rfl, rfl, .inl ⟨SqL.of (c0 _ _ upd_same), SqL.of upd_same⟩, ?_, ?_⟩
    · exact .cons (eqT_tup (SqT.of a1) (SqT.of hu1) (.cons (eqT_flat rfl) (.cons (eqT_same glow.fl) .nil))) (.cons (eqT_tup (SqT.of a2) (SqT.of hu1) (.cons (eqT_flat rfl) (.cons (eqT_same glow.fl) .nil))) (.cons (eqT_tup (SqT.of a3) (SqT.of hu1) (.cons (eqT_flat rfl) (.cons (eqT_same glow.fl) .nil))) (.cons (eqT_tup (SqT.of a4) (SqT.of hu4) (.cons (eqT_flat rfl) (.cons (eqT_same gfar.fl) .nil))) (.cons (eqT_tup (SqT.of a5) (SqT.of hu5) (.cons (eqT_flat rfl) (.cons (eqT_same gnear.fl) .nil))) (.cons (eqT_tup (SqT.of a6) (SqT.of hu6) (.cons (eqT_flat rfl) (.cons (eqT_same gstep.fl) .nil))) (.cons (eqT_tup (SqT.of a7) (SqT.of hu7) (.cons (eqT_flat rfl) (.cons (eqT_same gmost.fl) .nil))) (.nil)))))))
    · exact k _ _ _ _ (kp_new kF0 nL (kL.trans (kp_upd.trans (kp_same c0)))) (tabs_same TL c0) (c0 p _ (by rw [upd_ne npL]; exact hpL))
end
end Lk

set_option Elab.async false
set_option linter.all false
set_option maxRecDepth 100000
set_option maxHeartbeats 8000000
set_option exponentiation.threshold 10000
namespace Lk
open PySem L2 Vx
/-- what a tuple's members are: short integers (true), or none -/
def TB1 (K : PySem.W.Frag) (C p : Addr) (H : Hp) (xs : List V) (bs : List Bool) : Prop := ∀ (i : Nat) (x : V) (b : Bool), xs[i]? = some x → bs[i]? = some b → (b = false ∧ Gd K C p H x) ∨ (b = true ∧ ∃ n : Int, x = .int n ∧ -LONG < n ∧ n < LONG)
theorem tb_nil {K : PySem.W.Frag} {C p : Addr} {H : Hp} : TB1 K C p H [] [] := fun i x b h => by simp at h
/-- no tuple, or one with a member that is no short integer -/
def GR (K : PySem.W.Frag) (C p : Addr) (H : Hp) (x : V) : Prop :=
  (∃ t, TyX K H x t ∧ PySem.W.kitOne K t (.type "tuple") = some false ∧ (flatB x = true ∨ ∃ a o, x = .ref a ∧ a ≠ p ∧ H a = some o ∧ ∀ ps, o ≠ .tbl ps)) ∨
  ∃ (a : Addr) (xs : List V), x = .ref a ∧ a ≠ p ∧ H a = some (.tup xs) ∧ ∃ bs : List Bool, bs.length = xs.length ∧ bs.length < 1000 ∧ bs.all id = false ∧ TB1 K C p H xs bs
theorem tb_g {K : PySem.W.Frag} {C p : Addr} {H : Hp} {x : V} {xs : List V} {bs : List Bool} (h : Gd K C p H x) (e : TB1 K C p H xs bs) : TB1 K C p H (x :: xs) (false :: bs) := by
  intro i y c hy hc
  cases i with
  | zero =>
    cases hy
    cases hc
    exact .inl ⟨rfl, h⟩
  | succ i => exact e i y c hy hc
theorem tb_i {K : PySem.W.Frag} {C p : Addr} {H : Hp} (n : Int) {xs : List V} {bs : List Bool} (h1 : -LONG < n) (h2 : n < LONG) (e : TB1 K C p H xs bs) : TB1 K C p H (.int n :: xs) (true :: bs) := by
  intro i y c hy hc
  cases i with
  | zero =>
    cases hy
    cases hc
    exact .inr ⟨rfl, n, rfl, h1, h2⟩
  | succ i => exact e i y c hy hc
theorem GR.at {K : PySem.W.Frag} {C p : Addr} {H H' : Hp} {x : V} (h : GR K C p H x) (k : Kp p H H') : GR K C p H' x := by
  rcases h with ⟨t, ty, no, o⟩ | ⟨a, xs, rfl, na, e, bs, l1, l2, al, tb⟩
  · rcases o with f | ⟨a, o, rfl, na, e, t'⟩
    · refine .inl ⟨t, tyX_at ty (fun b u e => ?_), no, .inl f⟩
      subst e
      cases f
    · refine .inl ⟨t, tyX_at ty (fun b u e2 e3 => ?_), no, .inr ⟨a, o, rfl, na, k a o na t' e, t'⟩⟩
      cases e2
      rw [e] at e3
      cases e3
      exact k a o na t' e
  · exact .inr ⟨a, xs, rfl, na, k.get na e, bs, l1, l2, al, fun i y c hy hc => (tb i y c hy hc).imp (fun z => ⟨z.1, z.2.at k⟩) id⟩
theorem cd_no {K : PySem.W.Frag} {C CO p : Addr} {H : Hp} {E : XK} {Q : VK} {x : V} {vs : List V} (ev : vs = [x]) (h : GR K C p H x) (r : ∀ H', Same H H' → E (.ref CO) none H') : spCdB K CO vs H Q E := by
  rcases h with ⟨t, ty, no, _⟩ | ⟨a, xs, rfl, na, e, bs, l1, l2, al, tb⟩
  · exact ⟨x, ev, .inl ⟨t, ty, no, r _ (same_refl _)⟩⟩
  · refine ⟨_, ev, .inr ⟨a, xs, bs, rfl, e, by omega, l1, fun i y c hy hc => ?_, al, r⟩⟩
    rcases tb i y c hy hc with ⟨rfl, g⟩ | ⟨rfl, n, rfl, h1, h2⟩
    · exact g.kd
    · exact kd_short h1 h2
theorem va_pr {K : PySem.W.Frag} {C CR CO CPr p : Addr} {H : Hp} {E : XK} {Q : VK} {x y : V} {vs : List V} (ev : vs = [x, y]) (h : G2 (fun i => isP i = false ∨ 997 < i) K C p H x) (r : E (.ref CPr) none H) : spVal K C CR CO CPr vs H Q E := by
  obtain ⟨b, kd, o⟩ := h.kd
  exact ⟨x, y, ev, .inl ⟨⟨b, kd, o.imp id fun ⟨i, e1, _, s⟩ => ⟨i, e1, s⟩⟩, r⟩⟩
section
variable {P : Program} {w : World} {K : PySem.W.Frag} {mg : Str → Option Value} {base : Heap} {C CE CR CO CPr CT fE fT : Addr}
abbrev sRe : Stmt := top 47
abbrev nRe : List Str := ["_law_dice_here", "_law_told", "_law_odd", "_law_prime", "_law_row"]
theorem scRe : FnScope nRe ["_law_dice_here"] (defScope sRe) := ⟨rfl, rfl, rfl, by decide +kernel, rfl, by decide +kernel, by decide +kernel⟩
theorem ok_re {f c Pt : Addr} {fd : FuncData} {T : List (Addr × Str)} (F : FunC K "_law_rest_right" "_law_rest_right" sRe f fd c) (mgC : mg "Ratio" = some (.ref C)) (N : NoK K C) (W : HWord K mg CO CPr CR CE CT fE fT) (TB : LamX.TabB base mg c Pt)
    (hmT : (Pt, ("_law_rest_right" : Str) ++ ".<locals>." ++ "<lambda>") ∈ T) (hu : ∀ p ∈ T, p.1 = Pt → p.2 = ("_law_rest_right" : Str) ++ ".<locals>." ++ "<lambda>") (R : HRatioK P w K mg base C CE) (Cd : HasX P w K mg base "common_divisor" 3 ["numbers"] (spCdB K CO))
    (Va : HasX P w K mg base "valuation" 6 ["prime", "number"] (spVal K C CR CO CPr)) (Pk : HPick P w K mg base) :
    FnOk P w K mg base CX0 9 f fd ["_law_dice_here"] (spPart T) := by
  obtain ⟨fK, dK, GK, mK, kK, bK⟩ := Pk
  obtain ⟨fI, dI, GI, M, bI, ds, vd, bD⟩ := R
  obtain ⟨f1, d1, G1, m1, k1, b1⟩ := Cd
  obtain ⟨f2, d2, G2_, m2, k2, b2⟩ := Va
  refine F.ok scRe (fun vs H Q E h => ?_) (fun A outer s H vs Q E hr h => ?_)
  · obtain ⟨p, a, b, c, rfl, _⟩ := h
    rfl
  · obtain ⟨p, a, b, c, rfl, hp, tb, k⟩ := h
    refine ⟨_, (pss_cons (ps_set (i := 4) scRe.nd rfl (.inr rfl) (pe_call GK (hr.mono (by decide)) rfl mK kK bK .nil pass0 (pa_cons (pv 0) (pa_cons (pe_lst (pa_cons pe_non (pa_cons (pe_lst (pa_cons pe_int pa_nil)) (pa_cons pe_int (pa_cons (pe_tup (pa_cons pe_int (pa_cons pe_non pa_nil))) (pa_cons (pe_tup (pa_cons pe_bl pa_nil)) (pa_cons (pe_tup (pa_cons pe_str pa_nil)) (pa_cons (pe_tup (pa_cons (pe_tup (pa_cons pe_int pa_nil)) pa_nil)) (pa_cons (pe_tup (pa_cons (pe_op op_pow pe_int pe_int) pa_nil)) (pa_cons pe_str (pa_cons pe_dnewK pa_nil))))))))))) pa_nil))))
      (pss_cons (ps_set (i := 3) scRe.nd rfl (.inr rfl) (pe_call GK (hr.mono (by decide)) rfl mK kK bK .nil pass0 (pa_cons (pv 0) (pa_cons (pe_lst (pa_cons pe_int (pa_cons pe_int (pa_cons pe_int (pa_cons pe_int (pa_cons pe_int (pa_cons (pe_un un_neg pe_int) (pa_cons pe_non (pa_cons pe_bl (pa_cons pe_str (pa_cons (pe_tup (pa_cons pe_int pa_nil)) (pa_cons (pe_op op_pow pe_int pe_int) pa_nil)))))))))))) pa_nil))))
      (pss_cons (ps_set (i := 2) scRe.nd rfl (.inr rfl) (pe_call GK (hr.mono (by decide)) rfl mK kK bK .nil pass0 (pa_cons (pv 0) (pa_cons (pe_lst (pa_cons pe_non (pa_cons pe_bl (pa_cons pe_str (pa_cons (pe_tup (pa_cons pe_int (pa_cons pe_int pa_nil))) (pa_cons (pe_op op_pow pe_int pe_int) (pa_cons (pe_lst pa_nil) (pa_cons pe_dnewK pa_nil)))))))) pa_nil))))
      (pss_cons (ps_set (i := 1) scRe.nd rfl (.inl rfl) (pe_lst (pa_cons (pe_word W TB rfl hmT hu hr (LamX.lamS_by (sc := defScope sRe) (by decide +kernel)) (fun A outer s H E f c' hr2 => pe_call G1 (hr2.mono (by decide)) rfl m1 k1 b1 .nil (passes_call (takes_of rfl rfl rfl rfl) (fun _ _ _ _ h => h)) (pa_cons (pv 4) pa_nil))) pa_nil)))
      (pss_cons (ps_expr (pe_bm PySem.F.plainAttrs_list PySem.F.slot_list_append PySem.F.type_list_append mt_append (pv 1) (pa_cons (pe_word W TB rfl hmT hu hr (LamX.lamS_by (sc := defScope sRe) (by decide +kernel)) (fun A outer s H E f c' hr2 => pe_call G2_ (hr2.mono (by decide)) rfl m2 k2 b2 .nil (passes_call (takes_of rfl rfl rfl rfl) (fun _ _ _ _ h => h)) (pa_cons (pv 3) (pa_cons (pv 2) pa_nil)))) pa_nil)))
      (pss_cons (ps_expr (pe_bm PySem.F.plainAttrs_list PySem.F.slot_list_append PySem.F.type_list_append mt_append (pv 1) (pa_cons (pe_word W TB rfl hmT hu hr (LamX.lamS_by (sc := defScope sRe) (by decide +kernel)) (fun A outer s H E f c' hr2 => pe_call G2_ (hr2.mono (by decide)) rfl m2 k2 b2 .nil (passes_call (takes_of rfl rfl rfl rfl) (fun _ _ _ _ h => h)) (pa_cons pe_int (pa_cons (pv 2) pa_nil)))) pa_nil)))
      (pss_cons (ps_expr (pe_bm PySem.F.plainAttrs_list PySem.F.slot_list_append PySem.F.type_list_append mt_append (pv 1) (pa_cons (pe_word W TB rfl hmT hu hr (LamX.lamS_by (sc := defScope sRe) (by decide +kernel)) (fun A outer s H E f c' hr2 => pe_call G2_ (hr2.mono (by decide)) rfl m2 k2 b2 .nil (passes_call (takes_of rfl rfl rfl rfl) (fun _ _ _ _ h => h)) (pa_cons pe_int (pa_cons (pe_call GK (hr2.mono (by decide)) rfl mK kK bK .nil pass0 (pa_cons (pv 0) (pa_cons (pe_lst (pa_cons pe_int (pa_cons (pe_make M GI (hr2.mono (by decide)) rfl mgC bD vd passL (pa_cons pe_int pa_nil)) (pa_cons (pe_make M GI (hr2.mono (by decide)) rfl mgC bI .nil passL (pa_cons pe_int (pa_cons (pe_un un_neg pe_int) pa_nil))) pa_nil)))) pa_nil))) pa_nil)))) pa_nil)))
      (pss_one (ps_ret (pe_cmpR (op_eqT hr.units) (pv 1) (pe_lst (pa_cons pe_str (pa_cons pe_str (pa_cons pe_str (pa_cons pe_str pa_nil))))) (nomark _))))))))))), ?_⟩
    clear m1 m2 k1 k2 b1 b2 mK kK bK
    -- row
    refine ⟨_, rfl, (by show 1 ≤ sizeLine; decide), fun ar0 nar0 => ⟨(by show 2 ≤ sizeLine; decide), fun ar1 nar1 => ⟨(by show 1 ≤ sizeLine; decide), fun ar2 nar2 => ⟨(by show 1 ≤ sizeLine; decide), fun ar3 nar3 => ⟨(by show 1 ≤ sizeLine; decide), fun ar4 nar4 => ⟨(by show 1 ≤ sizeLine; decide), fun ar5 nar5 => ⟨_, _, rfl, rfl, ⟨by decide, by decide, by decide⟩, (by show 1 ≤ sizeLine; decide), fun ar6 nar6 ar7 nar7 => ⟨(by show 10 ≤ sizeLine; decide), fun ar8 nar8 => ?_⟩⟩⟩⟩⟩⟩⟩⟩
    dsimp only [tNil, List.append_nil]
    have hpr := (same_new nar7 (o := .dK []) _ _ (same_new nar6 (o := .tup [V.int (10 ^ Int.toNat 60)]) _ _ (same_new nar5 (o := .tup [V.ref ar4]) _ _ (same_new nar4 (o := .tup [V.int 6]) _ _ (same_new nar3 (o := .tup [V.str "6"]) _ _ (same_new nar2 (o := .tup [V.bl true]) _ _ (same_new nar1 (o := .tup [V.int 6, V.non]) _ _ (same_new nar0 (o := .lst [V.int 6]) _ _ hp))))))))
    refine spPick_of (fun x Hb => Kp p H Hb ∧ LamX.Tabs T Hb ∧ (∃ a c : Int, Hb p = some (.lst [.int a, .int b, .int c])) ∧ GR K C p Hb x) rfl (same_new nar8 _ _ hpr) (SqL.of upd_same) (Ne.symm (ne_of_none hpr nar8)) (by show 0 < 10; decide) (by show 10 < 1000; decide) (fun i x a1 c1 hx => ?_) ?_
    · have kk := ((kp_same (p := p) (Same.tr (Same.tr (same_new nar0 (o := .lst [V.int 6])) (Same.tr (same_new nar1 (o := .tup [V.int 6, V.non])) (Same.tr (same_new nar2 (o := .tup [V.bl true])) (Same.tr (same_new nar3 (o := .tup [V.str "6"])) (Same.tr (same_new nar4 (o := .tup [V.int 6])) (Same.tr (same_new nar5 (o := .tup [V.ref ar4])) (Same.tr (same_new nar6 (o := .tup [V.int (10 ^ Int.toNat 60)])) (same_new nar7 (o := .dK []))))))))) (same_new nar8 (o := .lst [V.non, V.ref ar0, V.int 6, V.ref ar1, V.ref ar2, V.ref ar3, V.ref ar5, V.ref ar6, V.str "6", V.ref ar7])))).trans (kp_upd (o := .lst [.int a1, .int b, .int c1])))
      exact ⟨kk, tabs_lst (tabs_same tb (Same.tr (Same.tr (same_new nar0 (o := .lst [V.int 6])) (Same.tr (same_new nar1 (o := .tup [V.int 6, V.non])) (Same.tr (same_new nar2 (o := .tup [V.bl true])) (Same.tr (same_new nar3 (o := .tup [V.str "6"])) (Same.tr (same_new nar4 (o := .tup [V.int 6])) (Same.tr (same_new nar5 (o := .tup [V.ref ar4])) (Same.tr (same_new nar6 (o := .tup [V.int (10 ^ Int.toNat 60)])) (same_new nar7 (o := .dK []))))))))) (same_new nar8))) (same_new nar8 _ _ hpr), ⟨a1, c1, upd_same⟩, mem_at (Pr := fun x => GR K C p _ x) (all_c (.inl ⟨_, .base .non, kit_ty (by decide +kernel), .inl rfl⟩) (all_c (.inl ⟨_, .base (.lst (by rw [upd_ne (Ne.symm (ne_of_none hp nar0))]; exact (same_new nar8 _ _ (same_new nar7 _ _ (same_new nar6 _ _ (same_new nar5 _ _ (same_new nar4 _ _ (same_new nar3 _ _ (same_new nar2 _ _ (same_new nar1 _ _ upd_same)))))))))), kit_ty (by decide +kernel), .inr ⟨_, _, rfl, (Ne.symm (ne_of_none hp nar0)), (by rw [upd_ne (Ne.symm (ne_of_none hp nar0))]; exact (same_new nar8 _ _ (same_new nar7 _ _ (same_new nar6 _ _ (same_new nar5 _ _ (same_new nar4 _ _ (same_new nar3 _ _ (same_new nar2 _ _ (same_new nar1 _ _ upd_same))))))))), fun _ z => by cases z⟩⟩) (all_c (.inl ⟨_, .base (.int _), kit_ty (by decide +kernel), .inl rfl⟩) (all_c (.inr ⟨_, _, rfl, (Ne.symm (ne_of_none (same_new nar0 _ _ hp) nar1)), (by rw [upd_ne (Ne.symm (ne_of_none (same_new nar0 _ _ hp) nar1))]; exact (same_new nar8 _ _ (same_new nar7 _ _ (same_new nar6 _ _ (same_new nar5 _ _ (same_new nar4 _ _ (same_new nar3 _ _ (same_new nar2 _ _ upd_same)))))))), [true, false], rfl, by decide, rfl, tb_i 6 (by decide +kernel) (by decide +kernel) (tb_g (gd_non N) tb_nil)⟩) (all_c (.inr ⟨_, _, rfl, (Ne.symm (ne_of_none (same_new nar1 _ _ (same_new nar0 _ _ hp)) nar2)), (by rw [upd_ne (Ne.symm (ne_of_none (same_new nar1 _ _ (same_new nar0 _ _ hp)) nar2))]; exact (same_new nar8 _ _ (same_new nar7 _ _ (same_new nar6 _ _ (same_new nar5 _ _ (same_new nar4 _ _ (same_new nar3 _ _ upd_same))))))), [false], rfl, by decide, rfl, tb_g (gd_bl N _) tb_nil⟩) (all_c (.inr ⟨_, _, rfl, (Ne.symm (ne_of_none (same_new nar2 _ _ (same_new nar1 _ _ (same_new nar0 _ _ hp))) nar3)), (by rw [upd_ne (Ne.symm (ne_of_none (same_new nar2 _ _ (same_new nar1 _ _ (same_new nar0 _ _ hp))) nar3))]; exact (same_new nar8 _ _ (same_new nar7 _ _ (same_new nar6 _ _ (same_new nar5 _ _ (same_new nar4 _ _ upd_same)))))), [false], rfl, by decide, rfl, tb_g (gd_str N _) tb_nil⟩) (all_c (.inr ⟨_, _, rfl, (Ne.symm (ne_of_none (same_new nar4 _ _ (same_new nar3 _ _ (same_new nar2 _ _ (same_new nar1 _ _ (same_new nar0 _ _ hp))))) nar5)), (by rw [upd_ne (Ne.symm (ne_of_none (same_new nar4 _ _ (same_new nar3 _ _ (same_new nar2 _ _ (same_new nar1 _ _ (same_new nar0 _ _ hp))))) nar5))]; exact (same_new nar8 _ _ (same_new nar7 _ _ (same_new nar6 _ _ upd_same)))), [false], rfl, by decide, rfl, tb_g (Gd.at (gd_tup N (Ne.symm (ne_of_none (same_new nar3 _ _ (same_new nar2 _ _ (same_new nar1 _ _ (same_new nar0 _ _ hp)))) nar4)) (same_new nar8 _ _ (same_new nar7 _ _ (same_new nar6 _ _ (same_new nar5 _ _ upd_same))))) kp_upd) tb_nil⟩) (all_c (.inr ⟨_, _, rfl, (Ne.symm (ne_of_none (same_new nar5 _ _ (same_new nar4 _ _ (same_new nar3 _ _ (same_new nar2 _ _ (same_new nar1 _ _ (same_new nar0 _ _ hp)))))) nar6)), (by rw [upd_ne (Ne.symm (ne_of_none (same_new nar5 _ _ (same_new nar4 _ _ (same_new nar3 _ _ (same_new nar2 _ _ (same_new nar1 _ _ (same_new nar0 _ _ hp)))))) nar6))]; exact (same_new nar8 _ _ (same_new nar7 _ _ upd_same))), [false], rfl, by decide, rfl, tb_g (gd_int N _ (by decide +kernel)) tb_nil⟩) (all_c (.inl ⟨_, .base (.str _), kit_ty (by decide +kernel), .inl rfl⟩) (all_c (.inl ⟨_, .base (.dK (by rw [upd_ne (Ne.symm (ne_of_none (same_new nar6 _ _ (same_new nar5 _ _ (same_new nar4 _ _ (same_new nar3 _ _ (same_new nar2 _ _ (same_new nar1 _ _ (same_new nar0 _ _ hp))))))) nar7))]; exact (same_new nar8 _ _ upd_same))), kit_ty (by decide +kernel), .inr ⟨_, _, rfl, (Ne.symm (ne_of_none (same_new nar6 _ _ (same_new nar5 _ _ (same_new nar4 _ _ (same_new nar3 _ _ (same_new nar2 _ _ (same_new nar1 _ _ (same_new nar0 _ _ hp))))))) nar7)), (by rw [upd_ne (Ne.symm (ne_of_none (same_new nar6 _ _ (same_new nar5 _ _ (same_new nar4 _ _ (same_new nar3 _ _ (same_new nar2 _ _ (same_new nar1 _ _ (same_new nar0 _ _ hp))))))) nar7))]; exact (same_new nar8 _ _ upd_same)), fun _ z => by cases z⟩⟩) all_n)))))))))) hx⟩
    rintro row Hrow ⟨kb, tb1, ⟨arow, crow, hpb⟩, grow⟩
    -- prime
    refine ⟨_, rfl, _, rfl, (by show 1 ≤ sizeLine; decide), fun ap0 nap0 => ⟨_, _, rfl, rfl, ⟨by decide, by decide, by decide⟩, (by show 11 ≤ sizeLine; decide), fun ap1 nap1 => ?_⟩⟩
    dsimp only [tNil, List.append_nil]
    have hpp := (same_new nap0 (o := .tup [V.int 7]) _ _ hpb)
    refine spPick_of (fun x Hb => Kp p H Hb ∧ LamX.Tabs T Hb ∧ (∃ a c : Int, Hb p = some (.lst [.int a, .int b, .int c])) ∧ G2 (fun i => isP i = false ∨ 997 < i) K C p Hb x ∧ GR K C p Hb row) rfl (same_new nap1 _ _ hpp) (SqL.of upd_same) (Ne.symm (ne_of_none hpp nap1)) (by show 0 < 11; decide) (by show 11 < 1000; decide) (fun i x a1 c1 hx => ?_) ?_
    · have kk := ((kp_same (p := p) (Same.tr (same_new nap0 (o := .tup [V.int 7])) (same_new nap1 (o := .lst [V.int 0, V.int 1, V.int 4, V.int 998, V.int 1009, V.int (-7), V.non, V.bl true, V.str "7", V.ref ap0, V.int (10 ^ Int.toNat 60)])))).trans (kp_upd (o := .lst [.int a1, .int b, .int c1])))
      exact ⟨kb.trans kk, tabs_lst (tabs_same tb1 (Same.tr (same_new nap0 (o := .tup [V.int 7])) (same_new nap1))) (same_new nap1 _ _ hpp), ⟨a1, c1, upd_same⟩, mem_at (Pr := fun x => G2 (fun i => isP i = false ∨ 997 < i) K C p _ x) (all_c (.inr ⟨_, rfl, by decide +kernel, by decide +kernel, by decide +kernel⟩) (all_c (.inr ⟨_, rfl, by decide +kernel, by decide +kernel, by decide +kernel⟩) (all_c (.inr ⟨_, rfl, by decide +kernel, by decide +kernel, by decide +kernel⟩) (all_c (.inr ⟨_, rfl, by decide +kernel, by decide +kernel, by decide +kernel⟩) (all_c (.inr ⟨_, rfl, by decide +kernel, by decide +kernel, by decide +kernel⟩) (all_c (.inr ⟨_, rfl, by decide +kernel, by decide +kernel, by decide +kernel⟩) (all_c (.inl (gd_non N)) (all_c (.inl (gd_bl N _)) (all_c (.inl (gd_str N _)) (all_c (.inl (Gd.at (gd_tup N (Ne.symm (ne_of_none hpb nap0)) (same_new nap1 _ _ upd_same)) kp_upd)) (all_c (.inl (gd_int N _ (by decide +kernel))) all_n))))))))))) hx, grow.at kk⟩
    clear hpp grow hpb kb tb1
    rintro pri Hpri ⟨kb, tb1, ⟨apri, cpri, hpb⟩, gpri, grow⟩
    -- odd
    refine ⟨_, rfl, (by show 2 ≤ sizeLine; decide), fun ao0 nao0 => ⟨_, _, rfl, rfl, ⟨by decide, by decide, by decide⟩, (by show 0 ≤ sizeLine; decide), fun ao1 nao1 ao2 nao2 => ⟨(by show 7 ≤ sizeLine; decide), fun ao3 nao3 => ?_⟩⟩⟩
    dsimp only [tNil, List.append_nil]
    have hpo := (same_new nao2 (o := .dK []) _ _ (same_new nao1 (o := .lst []) _ _ (same_new nao0 (o := .tup [V.int 1, V.int 2]) _ _ hpb)))
    refine spPick_of (fun x Hb => Kp p H Hb ∧ LamX.Tabs T Hb ∧ (∃ a c : Int, Hb p = some (.lst [.int a, .int b, .int c])) ∧ Gd K C p Hb x ∧ GR K C p Hb row ∧ G2 (fun i => isP i = false ∨ 997 < i) K C p Hb pri) rfl (same_new nao3 _ _ hpo) (SqL.of upd_same) (Ne.symm (ne_of_none hpo nao3)) (by show 0 < 7; decide) (by show 7 < 1000; decide) (fun i x a1 c1 hx => ?_) ?_
    · have kk := ((kp_same (p := p) (Same.tr (Same.tr (same_new nao0 (o := .tup [V.int 1, V.int 2])) (Same.tr (same_new nao1 (o := .lst [])) (same_new nao2 (o := .dK [])))) (same_new nao3 (o := .lst [V.non, V.bl true, V.str "1/2", V.ref ao0, V.int (10 ^ Int.toNat 60), V.ref ao1, V.ref ao2])))).trans (kp_upd (o := .lst [.int a1, .int b, .int c1])))
      exact ⟨kb.trans kk, tabs_lst (tabs_same tb1 (Same.tr (Same.tr (same_new nao0 (o := .tup [V.int 1, V.int 2])) (Same.tr (same_new nao1 (o := .lst [])) (same_new nao2 (o := .dK [])))) (same_new nao3))) (same_new nao3 _ _ hpo), ⟨a1, c1, upd_same⟩, mem_at (Pr := fun x => Gd K C p _ x) (all_c (gd_non N) (all_c (gd_bl N _) (all_c (gd_str N _) (all_c (Gd.at (gd_tup N (Ne.symm (ne_of_none hpb nao0)) (same_new nao3 _ _ (same_new nao2 _ _ (same_new nao1 _ _ upd_same)))) kp_upd) (all_c (gd_int N _ (by decide +kernel)) (all_c (Gd.at (gd_lst N (Ne.symm (ne_of_none (same_new nao0 _ _ hpb) nao1)) (same_new nao3 _ _ (same_new nao2 _ _ upd_same))) kp_upd) (all_c (Gd.at (gd_dct N (Ne.symm (ne_of_none (same_new nao1 _ _ (same_new nao0 _ _ hpb)) nao2)) (same_new nao3 _ _ upd_same)) kp_upd) all_n))))))) hx, grow.at kk, gpri.at kk⟩
    clear hpo grow gpri hpb kb tb1
    rintro odd Hodd ⟨kb, tb1, ⟨aodd, codd, hpb⟩, godd, grow, gpri⟩
    -- word 1
    refine ⟨tb1, fun Ha e1 T1 => ?_⟩
    have k1 := kp_ext (p := p) e1
    refine ⟨_, rfl, ?_⟩
    dsimp only [tNil, List.append_nil]
    refine cd_no rfl (grow.at k1) (fun H1 s2 => w_op W.wd ?_)
    refine ⟨(by show 1 ≤ sizeLine; decide), fun L nL => ?_⟩
    have k2 := k1.trans (kp_same s2)
    have kF0 := kb.trans k2
    replace gpri := (gpri.at k2).re nL
    replace godd := (godd.at k2).re nL
    have hpL := s2 _ _ (ext_get e1 hpb)
    have npL := ne_of_none hpL nL
    have TL := tabs_same (tabs_same T1 s2) (same_new nL (o := .lst [.str "operation"]))
    have kL : Kp L H1 H1 := Kp.refl
    clear k1 k2 e1 T1 s2 hpb kb tb1 grow
    -- word 2
    refine ⟨_, rfl, .inl ⟨rfl, _, SqL.of upd_same⟩, TL, fun H2 e1 T1 => ?_⟩
    have k1 := (kp_upd (p := L)).trans (kp_ext (p := L) e1)
    have hLL := ext_get e1 upd_same
    refine ⟨_, rfl, _, rfl, ?_⟩
    dsimp only [tNil, List.append_nil]
    refine va_pr rfl (gpri.at k1) (w_pr W.wd ?_)
    refine ⟨L, _, _, rfl, rfl, hLL, (by show 1 < sizeLine; decide), ?_⟩
    replace godd := godd.at k1
    replace hpL := k1.get npL hpL
    replace kL := kL.trans k1
    replace TL := tabs_lst (ys := [.str "operation"] ++ [.str "prime"]) T1 hLL
    clear k1 hLL T1 e1 gpri
    -- word 3
    refine ⟨_, rfl, .inl ⟨rfl, _, SqL.of upd_same⟩, TL, fun H3 e1 T1 => ?_⟩
    have k1 := (kp_upd (p := L)).trans (kp_ext (p := L) e1)
    have hLL := ext_get e1 upd_same
    refine ⟨_, rfl, ?_⟩
    dsimp only [tNil, List.append_nil]
    refine ⟨.int 7, odd, rfl, .inr ⟨7, rfl, by decide +kernel, by decide, .inl ⟨(godd.at k1).1, w_ra W.wd ?_⟩⟩⟩
    refine ⟨L, _, _, rfl, rfl, hLL, (by show 2 < sizeLine; decide), ?_⟩
    replace hpL := k1.get npL hpL
    replace kL := kL.trans k1
    replace TL := tabs_lst (ys := ([.str "operation"] ++ [.str "prime"]) ++ [.str "ratio"]) T1 hLL
    clear k1 hLL T1 e1 godd
    -- word 4
    refine ⟨_, rfl, .inl ⟨rfl, _, SqL.of upd_same⟩, TL, fun Ha e1 T1 => ?_⟩
    have k1 := (kp_upd (p := L)).trans (kp_ext (p := L) e1)
    have hLL := ext_get e1 upd_same
    have hpa := k1.get npL hpL
    refine ⟨_, rfl, fun x1 dx1 nx1 ndx1 nex1 => ?_⟩
    refine ⟨x1, dx1, .int 0, .int 1, true, true, rfl, upd_same, Kd.int 0, Kd.int 1, (fun z => nomatch z), (fun _ z => nomatch z), fun t b et eb _ _ => ?_⟩
    cases et; cases eb
    refine ⟨(fun z => nomatch z), fun _ Hy buy hy => ⟨rfl, ?_⟩⟩
    have e01 : lT 0 1 = 0 ∧ lB 0 1 = 1 := by decide
    rw [e01.1, e01.2] at hy
    have sy := but_mk nx1 ndx1 buy
    refine ⟨_, rfl, fun x2 dx2 nx2 ndx2 nex2 => ?_⟩
    refine ⟨x2, dx2, .int 0, .int (-5), true, true, rfl, upd_same, Kd.int 0, Kd.int (-5), (fun z => nomatch z), (fun _ z => nomatch z), fun t b et eb _ _ => ?_⟩
    cases et; cases eb
    refine ⟨(fun z => absurd z (by decide)), fun _ Hz buz hz => ⟨rfl, ?_⟩⟩
    have e05 : lT 0 (-5) = 0 ∧ lB 0 (-5) = 1 := by decide
    rw [e05.1, e05.2] at hz
    have sz := but_mk nx2 ndx2 buz
    refine ⟨(by show 3 ≤ sizeLine; decide), fun l nl => ?_⟩
    dsimp only [tNil, List.append_nil]
    have sl := Same.tr (Same.tr sy sz) (same_new nl (o := .lst [.int 0, .ref x1, .ref x2]))
    have hpl := sl _ _ hpa
    have hx1 := same_new nl (o := .lst [.int 0, .ref x1, .ref x2]) _ _ (sz _ _ hy)
    have hx2 := same_new nl (o := .lst [.int 0, .ref x1, .ref x2]) _ _ hz
    have hpz := sz _ _ (sy _ _ hpa)
    have n1p : x1 ≠ p := fun z => by
      have q := sz _ _ hy
      rw [z, hpz] at q
      cases q
    have n2p : x2 ≠ p := fun z => by
      have q := hz
      rw [z, hpz] at q
      cases q
    have nlp : l ≠ p := Ne.symm (ne_of_none (sz _ _ (sy _ _ hpa)) nl)
    refine spPick_of (fun x Hb => Kp p Ha Hb ∧ LamX.Tabs T Hb ∧ (∃ a c : Int, Hb p = some (.lst [.int a, .int b, .int c])) ∧ (x = .int 0 ∨ ∃ q b, x = .ref q ∧ RatAt C Hb q 0 b)) rfl hpl (SqL.of upd_same) nlp (by show 0 < 3; decide) (by show 3 < 1000; decide) (fun i x a1 c1 hx => ?_) ?_
    · refine ⟨(kp_same (p := p) sl).trans kp_upd, tabs_lst (tabs_same T1 sl) hpl, ⟨a1, c1, upd_same⟩, mem_at (Pr := fun x => x = .int 0 ∨ ∃ q b, x = .ref q ∧ RatAt C _ q 0 b) (all_c (.inl rfl) (all_c (.inr ⟨x1, 1, rfl, dx1, by rw [upd_ne n1p]; exact hx1⟩) (all_c (.inr ⟨x2, 1, rfl, dx2, by rw [upd_ne n2p]; exact hx2⟩) all_n))) hx⟩
    rintro nul Hb ⟨kb, tb1, ⟨a4, c4, hpb⟩, hn⟩
    refine ⟨.int 7, nul, rfl, .inr ⟨7, rfl, by decide +kernel, by decide, .inr (.inl ⟨hn, fun H4 s4 => w_op W.wd ?_⟩)⟩⟩
    have hL4 := s4 _ _ (kb.get (Ne.symm npL) hLL)
    refine ⟨L, _, _, rfl, rfl, hL4, (by show 3 < sizeLine; decide), ?_⟩
    refine ⟨_, rfl, (by show 4 ≤ sizeLine; decide), fun M nM => ?_⟩
    have nLM : L ≠ M := fun z => by rw [← z, upd_same] at nM; cases nM
    refine ⟨2, L, M, _, _, by decide, rfl, rfl, .inl ⟨SqL.of (by rw [upd_ne nLM]; exact upd_same), SqL.of upd_same⟩, ?_, ?_⟩
    · exact .cons (eqT_flat rfl) (.cons (eqT_flat rfl) (.cons (eqT_flat rfl) (.cons (eqT_flat rfl) .nil)))
    · refine k _ a4 b c4 (fun c o nc t e => ?_) (tabs_same (tabs_lst (tabs_same tb1 s4) hL4) (same_new nM)) ?_
      · have hc1 := kF0 c o nc t e
        have ncL := ne_of_none hc1 nL
        have hc2 := s4 _ _ (kb c o nc t (k1 c o ncL t (kL c o ncL t hc1)))
        exact same_new nM _ _ (by rw [upd_ne ncL]; exact hc2)
      · exact same_new nM _ _ (by rw [upd_ne npL]; exact s4 _ _ hpb)
end
end Lk

set_option Elab.async false
set_option linter.all false
set_option maxRecDepth 100000
set_option maxHeartbeats 4000000
set_option exponentiation.threshold 10000
namespace Lk
open PySem L2 Vx
theorem ext_new {p : Addr} {H H1 H2 : Hp} (a : LamX.ExtN H H1) (n : H1 p = none) (b : Kp p H1 H2) : LamX.ExtN H H2 := fun c o e t => b c o (ne_of_none (a c o e t) n) t (a c o e t)
theorem ext_seq {K : PySem.W.Frag} {H H' : Hp} {a : Addr} {xs : List V} (s : LamX.ExtN H H') (h : SqL K H a xs) : SqL K H' a xs := by
  unfold SqL Rd at h ⊢
  rcases h with (h | ⟨o, h⟩) | h
  · exact .inl (.inl (ext_get s h))
  · exact .inl (.inr ⟨o, ext_get s h⟩)
  · exact .inr h
theorem pp9 : ppd (10 ^ Int.toNat 9) = [((2 : Int), 9), (5, 9)].map kvOf := by decide +kernel
theorem pr9 : PrOk [((2 : Int), 9), (5, 9)] where
  pos := by decide +kernel
  len := fun i => by
    match i with
    | 0 => decide +kernel
    | 1 => decide +kernel
    | n + 2 =>
      have e : [((2 : Int), 9), (5, 9)].take (n + 2) = [((2 : Int), 9), (5, 9)] := List.take_of_length_le (by show 2 ≤ n + 2; omega)
      rw [e]
      decide +kernel
section
variable {P : Program} {w : World} {K : PySem.W.Frag} {mg : Str → Option Value} {base : Heap} {C CE CR CO CPr CT fE fT : Addr}
abbrev sDic : Stmt := top 41
def spDic (K : PySem.W.Frag) : Sp := fun vs H Q _ => ∃ (a : Addr) (ns : List Int) (i : Nat), vs = [.ref a, .int i] ∧ SqL K H a (ns.map V.int) ∧ i < 64 ∧ ∀ (p : Addr) (x y : Int), H p = none → Q (.ref p) (upd H p (.lst [.int x, .int y, .int 0]))
abbrev nDic : List Str := ["_law_script", "_law_spot", "_law_cell", "_law_left"]
theorem scDic : FnScope nDic ["_law_script", "_law_spot"] (defScope sDic) := ⟨rfl, rfl, rfl, by decide +kernel, rfl, by decide +kernel, by decide +kernel⟩
theorem ok_dic {f : Addr} {fd : FuncData} (F : Fun K "_law_dice" "_law_dice" sDic f fd) (B : Bl mg) :
    FnOk P w K mg base CX0 1 f fd ["_law_script", "_law_spot"] (spDic K) := by
  refine F.ok scDic (fun vs H Q E h => ?_) (fun cdv A outer s H vs Q E hr h => ?_)
  · obtain ⟨a, ns, i, rfl, _⟩ := h
    rfl
  · obtain ⟨a, ns, i, rfl, hS, hi, k⟩ := h
    refine ⟨_, pss_cons (ps_set (i := 2) scDic.nd rfl (.inl rfl) (pe_ifExp (pt_cmpR op_lt (pv 1) (pe_callB call_len_seq (by rfl) B.len (by decide +kernel) (pa_cons (pv 0) pa_nil)) (nomark _))
        (pe_callTy call_int1 (by rfl) B.int PyProof.Rows.boot_int (pa_cons (pe_ix ix_list (pv 0) (pv 1) (fun _ _ => rfl)) pa_nil)) (pe_op op_add (pe_op op_mul pe_int (pv 1)) pe_int)))
      (pss_cons (ps_set (i := 3) scDic.nd rfl (.inl rfl) (pe_op op_modN (pe_callB (call_max2 rfl) (by rfl) B.max (by decide +kernel) (pa_cons pe_int (pa_cons (pe_op op_sub (pe_callB call_abs (by rfl) B.abs PyProof.Rows.boot_abs (pa_cons (pv 2) pa_nil)) (pe_op op_pow pe_int pe_int)) pa_nil)))
        (pe_op op_mulW (pe_op op_pow pe_int pe_int) (pe_op op_pow pe_int pe_int))))
      (pss_one (ps_ret (pe_lst (pa_cons (pv 3) (pa_cons (pe_op op_add (pe_op op_add (pe_op op_add (pe_op op_mul (pe_op op_modN (pe_callB call_abs (by rfl) B.abs PyProof.Rows.boot_abs (pa_cons (pv 2) pa_nil)) pe_int) pe_int) (pe_op op_mul pe_int (pv 1)))
        (pe_op op_mul pe_int (pe_callTy call_int1 (by rfl) B.int PyProof.Rows.boot_int (pa_cons (pe_cmpR op_lt (pv 2) pe_int (nomark _)) pa_nil)))) pe_int) (pa_cons pe_int pa_nil))))))), ?_⟩
    refine ⟨_, rfl, _, rfl, a, _, rfl, .inl hS, _, _, rfl, rfl, _, rfl, ?_⟩
    rw [List.length_map]
    by_cases c : (i : Int) < (ns.length : Int)
    · obtain ⟨z, hz⟩ : ∃ z, ns[i]? = some z := ⟨ns[i]'(by omega), List.getElem?_eq_getElem (by omega)⟩
      refine itT (decide_eq_true c) ?_
      refine ⟨_, rfl, _, rfl, a, _, i, _, rfl, rfl, hS, atI_nat (by rw [List.getElem?_map, hz]; rfl), .inl ⟨z, rfl, ?_⟩⟩
      refine ⟨_, rfl, z, rfl, _, _, rfl, rfl, ⟨by decide, by decide, by decide⟩, _, _, rfl, rfl, _, _, rfl, _, _, rfl, rfl, ⟨by decide, by decide, by decide⟩, _, _, rfl, rfl, ⟨by decide, by decide, by decide⟩, _, _, rfl, rfl,
        wide_mul (a := 200) (b := 200) (by decide) (by decide) (by decide) (by decide) (by decide), _, _, rfl, rfl, (by show (_ : Int) ≠ 0; decide), ?_⟩
      refine ⟨_, rfl, _, rfl, z, rfl, _, _, rfl, rfl, (by show (_ : Int) ≠ 0; decide), _, _, rfl, rfl, .inr ⟨by decide, by decide⟩, _, rfl, _, _, rfl, rfl, .inl ⟨by decide, by decide⟩, _, _, rfl, rfl, ?_⟩
      exact ⟨_, rfl, _, _, rfl, rfl, .inr ⟨_, rfl, _, _, rfl, rfl, .inl ⟨by decide, by decide⟩, _, _, rfl, rfl, _, _, rfl, rfl, (by show 3 ≤ sizeLine; decide), fun p hp => k p _ _ hp⟩⟩
    · refine itF (decide_eq_false c) ?_
      refine ⟨_, rfl, _, _, rfl, rfl, .inl ⟨by decide, by decide⟩, _, _, rfl, rfl, ?_⟩
      refine ⟨_, rfl, (71 * (i : Int) + 23), rfl, _, _, rfl, rfl, ⟨by decide, by decide, by decide⟩, _, _, rfl, rfl, _, _, rfl, _, _, rfl, rfl, ⟨by decide, by decide, by decide⟩, _, _, rfl, rfl, ⟨by decide, by decide, by decide⟩, _, _, rfl, rfl,
        wide_mul (a := 200) (b := 200) (by decide) (by decide) (by decide) (by decide) (by decide), _, _, rfl, rfl, (by show (_ : Int) ≠ 0; decide), ?_⟩
      refine ⟨_, rfl, _, rfl, (71 * (i : Int) + 23), rfl, _, _, rfl, rfl, (by show (_ : Int) ≠ 0; decide), _, _, rfl, rfl, .inr ⟨by decide, by decide⟩, _, rfl, _, _, rfl, rfl, .inl ⟨by decide, by decide⟩, _, _, rfl, rfl, ?_⟩
      exact ⟨_, rfl, _, _, rfl, rfl, .inr ⟨_, rfl, _, _, rfl, rfl, .inl ⟨by decide, by decide⟩, _, _, rfl, rfl, _, _, rfl, rfl, (by show 3 ≤ sizeLine; decide), fun p hp => k p _ _ hp⟩⟩
abbrev sLaw : Stmt := top 48
abbrev nLaw : List Str := ["_law_script", "_law_spot", "_law_dice_here", "_law_told"]
theorem scLaw : FnScope nLaw ["_law_script"] (defScope sLaw) := ⟨rfl, rfl, rfl, by decide +kernel, rfl, by decide +kernel, by decide +kernel⟩
def spLaw (K : PySem.W.Frag) (T : List (Addr × Str)) : Sp := fun vs H Q _ => ∃ (a : Addr) (ns : List Int), vs = [.ref a] ∧ SqL K H a (ns.map V.int) ∧ LamX.Tabs T H ∧ ∀ H', Q (.bl true) H'
theorem ok_law {f c Pt : Addr} {fd : FuncData} {T : List (Addr × Str)} (F : FunC K "law" "law" sLaw f fd c) (B : Bl mg) (W : HWord K mg CO CPr CR CE CT fE fT) (TB : LamX.TabB base mg c Pt)
    (hmT : (Pt, ("law" : Str) ++ ".<locals>." ++ "<lambda>") ∈ T) (hu : ∀ p ∈ T, p.1 = Pt → p.2 = ("law" : Str) ++ ".<locals>." ++ "<lambda>") (mR : mg "range" = none) (mMin : mg "min" = none) (D : Has P w K mg base "_law_dice" 1 ["_law_script", "_law_spot"] (spDic K))
    (A1 : Has P w K mg base "_law_ratios_right" 9 ["_law_dice_here"] (spPart T)) (A2 : Has P w K mg base "_law_numbers_right" 9 ["_law_dice_here"] (spPart T)) (A3 : Has P w K mg base "_law_rest_right" 9 ["_law_dice_here"] (spPart T))
    (R : NM P w K mg base CE CT) (Va : HasX P w K mg base "valuation" 6 ["prime", "number"] (spVal K C CR CO CPr)) :
    FnOk P w K mg base CX0 10 f fd ["_law_script"] (spLaw K T) := by
  obtain ⟨fD, dD, GD, mD, kD, bD⟩ := D
  obtain ⟨fA, dA, GA, mA, kA, bA⟩ := A1
  obtain ⟨fB, dB, GB, mB, kB, bB⟩ := A2
  obtain ⟨fC, dC, GC, mC, kC, bC⟩ := A3
  obtain ⟨f1, d1, G1, m1, k1, b1⟩ := R.dv
  obtain ⟨f2, d2, G2_, m2, k2, b2⟩ := R.pp
  obtain ⟨f3, d3, G3, m3, k3, b3⟩ := R.mo
  obtain ⟨f4, d4, G4, m4, k4, b4⟩ := R.bi
  obtain ⟨f6, d6, G6, m6, k6, b6⟩ := R.po
  obtain ⟨f7, d7, G7, m7, k7, b7⟩ := Va
  refine F.ok scLaw (fun vs H Q E h => ?_) (fun A outer s H vs Q E hr h => ?_)
  · obtain ⟨a, ns, rfl, _⟩ := h
    rfl
  · obtain ⟨a, ns, rfl, hL, tb, k⟩ := h
    refine ⟨_, pss_cons (ps_for PassesOwn.never rfl (pi_range1 rfl mR (pa_cons (pe_callB (call_max2 rfl) (by rfl) B.max (by decide +kernel) (pa_cons pe_int (pa_cons (pe_callB (call_min2 rfl) (by rfl) mMin (by decide +kernel) (pa_cons pe_int (pa_cons (pe_callB call_len_seq (by rfl) B.len (by decide +kernel) (pa_cons (pv 0) pa_nil)) pa_nil))) pa_nil))) pa_nil)) (pg_name (i := 1) scLaw.nd rfl (.inl rfl))
        (pss_cons (ps_set (i := 2) scLaw.nd rfl (.inl rfl) (pe_call GD (hr.mono (by decide)) rfl mD kD bD .nil pass0 (pa_cons (pv 0) (pa_cons (pv 1) pa_nil))))
        (pss_one (ps_if (PW.pt (pw_or (pt_not (pt_val (pe_call GA hr rfl mA kA bA .nil pass0 (pa_cons (pv 2) pa_nil)))) (pw_or (pt_not (pt_val (pe_call GB hr rfl mB kB bB .nil pass0 (pa_cons (pv 2) pa_nil)))) (pw_or1 (pt_not (pt_val (pe_call GC hr rfl mC kC bC .nil pass0 (pa_cons (pv 2) pa_nil)))))))) (pss_one (ps_ret pe_bl)) pss_nil))))
      (pss_cons (ps_set (i := 3) scLaw.nd rfl (.inl rfl) (pe_lst (pa_cons (pe_word (k := 6) W TB rfl hmT hu (hr.mono (by decide)) (LamX.lamS_by (sc := defScope sLaw) (by decide +kernel)) (fun A outer s H E f c' hr2 => pe_call G1 (hr2.mono (by decide)) rfl m1 k1 b1 .nil (passes_call (takes_of rfl rfl rfl rfl) (fun _ _ _ _ h => h)) (pa_cons (pe_op op_pow pe_int pe_int) pa_nil))) pa_nil)))
      (pss_cons (ps_expr (pe_bm PySem.F.plainAttrs_list PySem.F.slot_list_append PySem.F.type_list_append mt_append (pv 3) (pa_cons (pe_word (k := 6) W TB rfl hmT hu (hr.mono (by decide)) (LamX.lamS_by (sc := defScope sLaw) (by decide +kernel)) (fun A outer s H E f c' hr2 => pe_call G3 (hr2.mono (by decide)) rfl m3 k3 b3 .nil (passes_call (takes_of rfl rfl rfl rfl) (fun _ _ _ _ h => h)) (pa_cons (pe_op op_add (pe_op op_pow pe_int pe_int) pe_int) pa_nil))) pa_nil)))
      (pss_cons (ps_expr (pe_bm PySem.F.plainAttrs_list PySem.F.slot_list_append PySem.F.type_list_append mt_append (pv 3) (pa_cons (pe_word (k := 6) W TB rfl hmT hu (hr.mono (by decide)) (LamX.lamS_by (sc := defScope sLaw) (by decide +kernel)) (fun A outer s H E f c' hr2 => pe_call G2_ (hr2.mono (by decide)) rfl m2 k2 b2 .nil (passes_call (takes_of rfl rfl rfl rfl) (fun _ _ _ _ h => h)) (pa_cons (pe_op op_pow pe_int pe_int) pa_nil))) pa_nil)))
      (pss_cons (ps_expr (pe_bm PySem.F.plainAttrs_list PySem.F.slot_list_append PySem.F.type_list_append mt_append (pv 3) (pa_cons (pe_word (k := 6) W TB rfl hmT hu (hr.mono (by decide)) (LamX.lamS_by (sc := defScope sLaw) (by decide +kernel)) (fun A outer s H E f c' hr2 => pe_call G4 (hr2.mono (by decide)) rfl m4 k4 b4 .nil (passes_call (takes_of rfl rfl rfl rfl) (fun _ _ _ _ h => h)) (pa_cons pe_int (pa_cons pe_int pa_nil)))) pa_nil)))
      (pss_cons (ps_expr (pe_bm PySem.F.plainAttrs_list PySem.F.slot_list_append PySem.F.type_list_append mt_append (pv 3) (pa_cons (pe_word (k := 6) W TB rfl hmT hu (hr.mono (by decide)) (LamX.lamS_by (sc := defScope sLaw) (by decide +kernel)) (fun A outer s H E f c' hr2 => pe_call G6 (hr2.mono (by decide)) rfl m6 k6 b6 .nil (passes_call (takes_of rfl rfl rfl rfl) (fun _ _ _ _ h => h)) (pa_cons pe_int pa_nil))) pa_nil)))
      (pss_cons (ps_expr (pe_bm PySem.F.plainAttrs_list PySem.F.slot_list_append PySem.F.type_list_append mt_append (pv 3) (pa_cons (pe_word (k := 6) W TB rfl hmT hu (hr.mono (by decide)) (LamX.lamS_by (sc := defScope sLaw) (by decide +kernel)) (fun A outer s H E f c' hr2 => pe_call G7 (hr2.mono (by decide)) rfl m7 k7 b7 .nil (passes_call (takes_of rfl rfl rfl rfl) (fun _ _ _ _ h => h)) (pa_cons pe_int (pa_cons (pe_op op_sub (pe_op op_pow pe_int pe_int) pe_int) pa_nil)))) pa_nil)))
      (pss_one (ps_ret (pe_cmpR (op_eqT hr.units) (pv 3) (pe_lst (pa_cons pe_str (pa_cons (pe_tup (pa_cons pe_str (pa_cons (pe_op op_pow pe_int pe_int) pa_nil))) (pa_cons (pe_tup (pa_cons pe_str (pa_cons (pe_op op_pow pe_int pe_int) pa_nil))) (pa_cons pe_str (pa_cons pe_str (pa_cons pe_str pa_nil))))))) (nomark _)))))))))), ?_⟩
    clear m1 m2 m3 m4 m6 m7 k1 k2 k3 k4 k6 k7 b1 b2 b3 b4 b6 b7
    refine ⟨_, rfl, a, _, rfl, .inl hL, _, _, rfl, _, _, rfl, _, rfl, ?_, ?_, for_range (fun i σ H' => ∃ u1 u2 : Option V, σ = [some (.ref a), u1, u2, none] ∧ LamX.ExtN H H' ∧ LamX.Tabs T H') ⟨none, none, rfl, LamX.ExtN.refl H, tb⟩ ?_ ?_⟩
    · split <;> (try split) <;> omega
    · split <;> (try split) <;> omega
    · rintro i σ H' hi ⟨u1, u2, rfl, sm, tb'⟩
      have hi4 : i < 64 := by
        have e : ∀ z : Int, (if (if z < 3 then z else 3) > 1 then (if z < 3 then z else 3) else 1).toNat ≤ 3 := fun z => by split <;> (try split) <;> omega
        exact Nat.lt_of_lt_of_le hi (Nat.le_trans (e _) (by decide))
      refine ⟨_, rfl, _, rfl, a, ns, i, (by rw [Int.zero_add]; rfl), ext_seq sm hL, hi4, fun p x y np => ?_⟩
      refine ⟨_, rfl, p, x, y, 0, rfl, upd_same, tabs_same tb' (same_new np), fun H1 a1 b1 c1 q1 t1 h1 => ?_⟩
      refine ⟨_, rfl, itF rfl ?_⟩
      refine ⟨_, rfl, p, a1, b1, c1, rfl, h1, t1, fun H2 a2 b2 c2 q2 t2 h2 => ?_⟩
      refine ⟨_, rfl, itF rfl ?_⟩
      refine ⟨_, rfl, p, a2, b2, c2, rfl, h2, t2, fun H3 a3 b3 c3 q3 t3 h3 => ?_⟩
      refine ⟨_, rfl, itF rfl ?_⟩
      exact ⟨_, _, rfl, ext_new sm np (kp_upd.trans (q1.trans (q2.trans q3))), t3⟩
    · rintro σ H0 ⟨u1, u2, rfl, sm, tb'⟩
      clear sm hL tb
      -- divisors(10 ** 9)
      refine ⟨tb', fun H1 e1 T1 => ?_⟩
      refine ⟨_, _, rfl, rfl, ⟨by decide, by decide, by decide⟩, ?_⟩
      dsimp only [tNil, List.append_nil]
      refine ⟨_, rfl, .inr ⟨_, _, rfl, by decide, by decide, pp9, pr9, fun H2 t ns s2 _ _ _ => ?_⟩⟩
      refine ⟨(by show 1 ≤ sizeLine; decide), fun L nL => ?_⟩
      have TL := tabs_same (tabs_same T1 s2) (same_new nL (o := .lst [.str "right"]))
      clear T1 s2 e1 tb'
      -- moebius(10 ** 9 + 1)
      refine ⟨_, rfl, .inl ⟨rfl, _, SqL.of upd_same⟩, TL, fun Ha e1 T1 => ?_⟩
      refine ⟨_, _, rfl, rfl, ⟨by decide, by decide, by decide⟩, _, _, rfl, rfl, ?_⟩
      dsimp only [tNil, List.append_nil]
      refine ⟨_, rfl, true, kd_short (by decide +kernel) (by decide +kernel), .inr ⟨_, rfl, rfl, .inr ⟨by decide +kernel, ref_many W.wd fun H3 t3 s3 ht3 => ?_⟩⟩⟩
      have hLL := s3 _ _ (ext_get e1 upd_same)
      refine ⟨L, _, _, rfl, rfl, hLL, (by show 1 < sizeLine; decide), ?_⟩
      have n3L : t3 ≠ L := fun z => by rw [z, hLL] at ht3; cases ht3
      replace TL := tabs_lst (ys := [.str "right"] ++ [.ref t3]) (tabs_same T1 s3) hLL
      clear hLL T1 s3 e1
      -- prime_powers(10 ** 59)
      refine ⟨_, rfl, .inl ⟨rfl, _, SqL.of upd_same⟩, TL, fun Ha e1 T1 => ?_⟩
      refine ⟨_, _, rfl, rfl, ⟨by decide, by decide, by decide⟩, ?_⟩
      dsimp only [tNil, List.append_nil]
      refine noF_pp' rfl ⟨true, kd_short (by decide +kernel) (by decide +kernel), .inr ⟨_, rfl, rfl, .inr ⟨by decide +kernel, ref_many W.wd fun H4 t4 s4 ht4 => ?_⟩⟩⟩
      have hLL := s4 _ _ (ext_get e1 upd_same)
      refine ⟨L, _, _, rfl, rfl, hLL, (by show 2 < sizeLine; decide), ?_⟩
      have n4L : t4 ≠ L := fun z => by rw [z, hLL] at ht4; cases ht4
      replace ht3 := s4 _ _ (ext_get e1 (show upd H3 L _ t3 = _ from by rw [upd_ne n3L]; exact ht3))
      replace TL := tabs_lst (ys := ([.str "right"] ++ [.ref t3]) ++ [.ref t4]) (tabs_same T1 s4) hLL
      clear hLL T1 s4 e1
      -- binomial(1000, 1000)
      refine ⟨_, rfl, .inl ⟨rfl, _, SqL.of upd_same⟩, TL, fun H5 e1 T1 => ?_⟩
      have hLL := ext_get e1 upd_same
      dsimp only [tNil, List.append_nil]
      refine ⟨.int 1000, .int 1000, true, true, rfl, Kd.int 1000, Kd.int 1000, (fun z => ?_), fun i _ ei _ _ => ⟨fun z => ?_, fun j _ ej _ _ => ?_⟩⟩
      · rcases z with z | ⟨i, e, z⟩
        · cases z
        · cases e
          omega
      · rcases z with z | ⟨i, e, z⟩
        · cases z
        · cases e
          omega
      refine ⟨L, _, _, rfl, rfl, hLL, (by show 3 < sizeLine; decide), ?_⟩
      replace ht3 := ext_get e1 (show upd H4 L _ t3 = _ from by rw [upd_ne n3L]; exact ht3)
      replace ht4 := ext_get e1 (show upd H4 L _ t4 = _ from by rw [upd_ne n4L]; exact ht4)
      replace TL := tabs_lst (ys := (([.str "right"] ++ [.ref t3]) ++ [.ref t4]) ++ [.str "right"]) T1 hLL
      clear hLL T1 e1
      -- partitions_of(200)
      refine ⟨_, rfl, .inl ⟨rfl, _, SqL.of upd_same⟩, TL, fun Ha e1 T1 => ?_⟩
      dsimp only [tNil, List.append_nil]
      refine ⟨.int 200, true, rfl, Kd.int 200, (fun z => nomatch z), fun i ei _ => ⟨fun z => ?_, fun n en nl H6 s6 => ?_⟩⟩
      · cases ei
        omega
      have hLL := s6 _ _ (ext_get e1 upd_same)
      refine ⟨L, _, _, rfl, rfl, hLL, (by show 4 < sizeLine; decide), ?_⟩
      replace ht3 := s6 _ _ (ext_get e1 (show upd H5 L _ t3 = _ from by rw [upd_ne n3L]; exact ht3))
      replace ht4 := s6 _ _ (ext_get e1 (show upd H5 L _ t4 = _ from by rw [upd_ne n4L]; exact ht4))
      replace TL := tabs_lst (ys := ((([.str "right"] ++ [.ref t3]) ++ [.ref t4]) ++ [.str "right"]) ++ [.str "right"]) (tabs_same T1 s6) hLL
      clear hLL T1 e1 s6
      -- valuation(997, 10 ** 60 - 1)
      refine ⟨_, rfl, .inl ⟨rfl, _, SqL.of upd_same⟩, TL, fun Ha e1 T1 => ?_⟩
      refine ⟨_, _, rfl, rfl, ⟨by decide, by decide, by decide⟩, _, _, rfl, rfl, ?_⟩
      dsimp only [tNil, List.append_nil]
      refine ⟨.int 997, _, rfl, .inr ⟨997, rfl, by decide +kernel, by decide, .inr (.inr ⟨_, 1, .inr ⟨rfl, rfl, by decide +kernel, by decide +kernel⟩, by decide +kernel, by decide, fun H7 u v s7 _ _ _ _ => ?_⟩)⟩⟩
      have hLL := s7 _ _ (ext_get e1 upd_same)
      refine ⟨L, _, _, rfl, rfl, hLL, (by show 5 < sizeLine; decide), ?_⟩
      replace ht3 := s7 _ _ (ext_get e1 (show upd H6 L _ t3 = _ from by rw [upd_ne n3L]; exact ht3))
      replace ht4 := s7 _ _ (ext_get e1 (show upd H6 L _ t4 = _ from by rw [upd_ne n4L]; exact ht4))
      clear hLL T1 e1 s7 TL
      refine ⟨_, rfl, _, _, rfl, rfl, ⟨by decide, by decide, by decide⟩, (by show 2 ≤ sizeLine; decide), fun u1 nu1 => ⟨_, _, rfl, rfl, ⟨by decide, by decide, by decide⟩, (by show 2 ≤ sizeLine; decide), fun u2 nu2 => ⟨(by show 6 ≤ sizeLine; decide), fun M nM => ?_⟩⟩⟩
      have c2 := fun (x : Addr) (o : HO) e => same_new nM (o := .lst [.str "right", .ref u1, .ref u2, .str "right", .str "right", .str "right"]) x o e
      have c1 := fun (x : Addr) (o : HO) e => c2 x o (same_new nu2 (o := .tup [.str "many", .int (10 ^ Int.toNat 9)]) x o e)
      have c0 := fun (x : Addr) (o : HO) e => c1 x o (same_new nu1 (o := .tup [.str "many", .int (10 ^ Int.toNat 9)]) x o e)
      have hu1 := c1 _ _ (upd_same (a := u1))
      have hu2 := c2 _ _ (upd_same (a := u2))
      have a3 := c0 t3 _ (by rw [upd_ne n3L]; exact ht3)
      have a4 := c0 t4 _ (by rw [upd_ne n4L]; exact ht4)
      refine ⟨2, L, M, _, _, by decide, rfl, rfl, .inl ⟨SqL.of (c0 _ _ upd_same), SqL.of upd_same⟩, ?_, k _⟩
      exact .cons (eqT_flat rfl) (.cons (eqT_tup (SqT.of a3) (SqT.of hu1) (.cons (eqT_flat rfl) (.cons (.inl ⟨by decide +kernel, rfl⟩) .nil))) (.cons (eqT_tup (SqT.of a4) (SqT.of hu2) (.cons (eqT_flat rfl) (.cons (.inl ⟨by decide +kernel, rfl⟩) .nil))) (.cons (eqT_flat rfl) (.cons (eqT_flat rfl) (.cons (eqT_flat rfl) .nil)))))
end
end Lk

set_option Elab.async false
set_option linter.all false
set_option maxRecDepth 100000
set_option maxHeartbeats 8000000
set_option exponentiation.threshold 10000
namespace Lk
open PySem L2 Vx
theorem kit_no {K : PySem.W.Frag} {C : Addr} {t : Value} (h2 : PySem.W.isClsIn K C = true) (h3 : PySem.W.typeIn K (.ref C) = some (.type "type")) (h4 : PySem.W.subIn K t (.ref C) = some false) (hn : (t == .ref C) = false) :
    PySem.W.kitOne K t (.ref C) = some false := by
  have e2 : ((PySem.W.clsIn K C).isSome && PySem.W.typeIn K (.ref C) == some (.type "type")) = true := by
    have h2' : (PySem.W.clsIn K C).isSome = true := h2
    rw [h2', h3] <;> rfl
  unfold PySem.W.kitOne
  rw [hn, if_neg Bool.false_ne_true]
  show (if ((PySem.W.clsIn K C).isSome && PySem.W.typeIn K (.ref C) == some (.type "type")) = true then PySem.W.subIn K t (.ref C) else none) = some false
  rw [if_pos e2]
  exact h4
theorem bind3 {K : PySem.W.Frag} {f : Addr} {fd : FuncData} (FI : FunD K "__init__" "Ratio.__init__" (defArgs (sIn 0)) (defBody (sIn 0)) (defScope (sIn 0)) [V.int 1] [] f fd) : Binds K fd ["self", "top", "bottom"] [] := by
  obtain ⟨ds, v, bb⟩ := FI.binds1 (ps := ["self", "top", "bottom"]) 3 1 (by simp) rfl (fun T kV dc pm an cd ct us its l1 l2 => match us, its, l1, l2 with | [_, _, _], [_], _, _ => ⟨_, rfl, rfl⟩)
  cases v
  exact bb
theorem bind2 {K : PySem.W.Frag} {f : Addr} {fd : FuncData} (FI : FunD K "__init__" "Ratio.__init__" (defArgs (sIn 0)) (defBody (sIn 0)) (defScope (sIn 0)) [V.int 1] [] f fd) : ∃ ds, Vals [V.int 1] ds ∧ Binds K fd ["self", "top", "bottom"] ds :=
  FI.binds1 (ps := ["self", "top", "bottom"]) 2 0 (by simp) rfl (fun T kV dc pm an cd ct us its l1 l2 => match us, its, l1, l2 with | [_, _], [_], _, _ => ⟨_, rfl, rfl⟩)
theorem scGet (j : Nat) (h : j = 2 ∨ j = 3) : FnScope ["self"] ["self"] (defScope (sIn j)) := by
  rcases h with rfl | rfl
  · exact ⟨rfl, rfl, rfl, by decide +kernel, rfl, by decide +kernel, by decide +kernel⟩
  · exact ⟨rfl, rfl, rfl, by decide +kernel, rfl, by decide +kernel, by decide +kernel⟩
theorem too_long {p : Program} {mg : Str → Option Value} {h : Heap} (x : PySem.W.XL p [(Str.ofString "_TOO_LONG", PySem.W.WData.int 1000000000000000000000000000000000000000000000000000000000000), (Str.ofString "MAX_FACTORED", PySem.W.WData.int 1000000000)] mg h) : ∃ t, mg "_TOO_LONG" = some (.int LONG t) := by
  obtain ⟨v, e, r⟩ := x.2.val _ (List.Mem.head _)
  cases r with
  | int i t => exact ⟨t, e⟩
theorem max_factored {p : Program} {mg : Str → Option Value} {h : Heap} (x : PySem.W.XL p [(Str.ofString "_TOO_LONG", PySem.W.WData.int 1000000000000000000000000000000000000000000000000000000000000), (Str.ofString "MAX_FACTORED", PySem.W.WData.int 1000000000)] mg h) : ∃ t, mg "MAX_FACTORED" = some (.int 1000000000 t) := by
  obtain ⟨v, e, r⟩ := x.2.val _ (List.Mem.tail _ (List.Mem.head _))
  cases r with
  | int i t => exact ⟨t, e⟩
theorem funC_mk {K : PySem.W.Frag} {x qual : Str} {st : Stmt} {f c : Addr} {oc : Value} {od an : Option Addr} {osl : Array (Option Value)} {kV doc pm ct : Value} (l : K.lookup f = some ⟨oc, od, .func (PySem.W.fnOf x qual (defArgs st) (defBody st) (defScope st) .none kV doc pm an (.ref c) ct), osl⟩)
    (hc : PySem.W.codeIn K (.ref c) qual = true) (k : PySem.W.keepIn K (.ref f) = true) : FunC K x qual st f (PySem.W.fnOf x qual (defArgs st) (defBody st) (defScope st) .none kV doc pm an (.ref c) ct) c := ⟨⟨oc, od, kV, doc, pm, an, ct, osl, rfl, l, hc⟩, k⟩
/-- a def's code object with its empty table -/
def CodeHere (c P : Addr) (h : Heap) : Prop := PySem.W.CodeHd h c P ∧ h.get? P = some { cls := .none, data := .fields #[] }
/-- as LawAtS, of any program -/
def LawAtC (prog : Program) (w : World) (K : PySem.W.Frag) (CX : CXT) (k : Nat) (x : Str) (mg : Str → Option Value) (fa : Addr) (h : Heap) : Prop :=
  ∃ (fd : FuncData) (cs : List (Addr × Addr)) (sp : Sp), (∀ p ∈ cs, h.get? p.2 = some { cls := .none, data := .fields #[] }) ∧ (∀ p ∈ cs, K.lookup p.2 = none) ∧ (∀ p ∈ cs, PySem.W.CodeHd h p.1 p.2) ∧ (∀ (s : Shared) (u : Value), BindsTo s fd ⟨[u], []⟩ [(x, u)]) ∧
    (∀ (H : Hp) (a : Addr) (ns : List Int), ns.length ≤ 63 → True → (∀ p ∈ cs, H p.2 = some (.tbl #[])) → SqL K H a (ns.map V.int) → sp [.ref a] H (fun v _ => v = .bl true) fun _ _ _ => False) ∧
    ∀ base : Heap, K.In base → base.Ns mainGlobals mg → (∀ p ∈ cs, LamX.TabB base mg p.1 p.2) → FnOk prog w K mg base CX k fa fd [x] sp
theorem tabIn_of {K : PySem.W.Frag} {x : Str} {f c P : Addr} {oc e : Value} {od dd : Option Addr} {fd : FuncData} {sl sl2 : Array (Option Value)} {vs : Array Value} (h1 : PySem.W.nsIn K mainGlobals x = some (some (.ref f))) (h2 : K.lookup f = some ⟨oc, od, .func fd, sl⟩) (h3 : fd.code = .ref c)
    (h4 : K.lookup c = some ⟨e, dd, .fields vs, sl2⟩) (h5 : vs[11]? = some (.ref P)) : PySem.W.tabIn K x = some (c, P) := by
  unfold PySem.W.tabIn
  rw [h1]
  dsimp only
  rw [h2]
  dsimp only
  rw [h3]
  dsimp only
  rw [h4]
  dsimp only
  rw [h5]
theorem walkT {l : PySem.W.OpenLaw} {q : Program} {loose : List Str} {XP : (Str → Option Value) → Heap → Prop} {YP : World → Heap → Prop} {d : DefRec} {K : Params → PySem.W.Frag} {k : Nat} (hn : l.most = some 63) (hdf : d.params.defaults = []) (hr : Room k callerA)
    (hY : ∀ (w : World) (h : Heap), YP w h → (K w.params).In h)
    (F : ∀ (w : World) (mg : Str → Option Value) (fa : Addr) (h : Heap), YP w h → (K w.params).In h → h.Ns mainGlobals mg → XP mg h → mg d.name = some (.ref fa) → LawAtC l.prog w (K w.params) CX0 k "_law_script" mg fa h) :
    PySem.W.WalkO q loose XP YP l.row.toRowW d [] (fun f vs => PySem.call f vs) := by
  refine Att.attach_call hn hdf fun w s₀ s₁ mg mb fa o pm cd doc a vs ns G Y ho hd hcd hmg hobj hints hlen hg => ?_
  have KX := hY w _ Y
  obtain ⟨fd, cs, sp, hT, nT, C, hb, hsp, hF⟩ := F w mg fa _ Y KX G.T.g G.X hmg
  exact LamX.law_callTs KX G.T.g G.T.b G.T.builtins G.T.nolimit hg hT nT C G.T.bmain hobj hints (Nat.le_trans hlen (by decide)) hr hF hb (fun H hH hS => hsp H a ns hlen trivial hH hS) fun H e s' z => z
theorem all_mk {P : Program} {w : World} {K : PySem.W.Frag} {h : Heap} {mg : Str → Option Value} {fa : Addr} (X : K.In h) (G : h.Ns mainGlobals mg) (hfa : mg "law" = some (.ref fa)) (hTL : ∃ t, mg "_TOO_LONG" = some (.int LONG t)) (hMF : ∃ t, mg "MAX_FACTORED" = some (.int 1000000000 t))
    {C fI0 TI q2 fp2 q3 fp3 fm5 fm6 fm7 fm8 fm10 fd14 fd15 fd17 fd25 fd26 fd27 fd28 fd29 fd30 fd31 fd32 fd33 fd34 fd35 fd36 fd37 fd38 fd39 fd41 fd42 fd43 fd44 fd45 c_d45 P_d45 fd46 c_d46 P_d46 fd47 c_d47 P_d47 fd48 c_d48 P_d48 CO CPr CR CE fE NE CT fT NT : Addr} {odI0 anI0 odT_ odp2 anp2 odp3 anp3 odm5 anm5 odm6 anm6 odm7 anm7 odm8 anm8 odm10 anm10 odd14 and14 odd15 and15 odd17 and17 odd25 and25 odd26 and26 odd27 and27 odd28 and28 odd29 and29 odd30 and30 odd31 and31 odd32 and32 odd33 and33 odd34 and34 odd35 and35 odd36 and36 odd37 and37 odd38 and38 odd39 and39 odd41 and41 odd42 and42 odd43 and43 odd44 and44 odd45 and45 o_d45 odd46 and46 o_d46 odd47 and47 o_d47 odd48 and48 o_d48 odE anE odT anT : Option Addr} {slI0 slT_ slp2 slp3 slm5 slm6 slm7 slm8 slm10 sld14 sld15 sld17 sld25 sld26 sld27 sld28 sld29 sld30 sld31 sld32 sld33 sld34 sld35 sld36 sld37 sld38 sld39 sld41 sld42 sld43 sld44 sld45 s_d45 sld46 s_d46 sld47 s_d47 sld48 s_d48 slE slT : Array (Option Value)} {ocI0 kVI0 dcI0 pmI0 ctI0 cdI0 ocT_ ocp2 kVp2 dcp2 pmp2 ctp2 cdp2 ocp3 kVp3 dcp3 pmp3 ctp3 cdp3 ocm5 kVm5 dcm5 pmm5 ctm5 cdm5 ocm6 kVm6 dcm6 pmm6 ctm6 cdm6 ocm7 kVm7 dcm7 pmm7 ctm7 cdm7 ocm8 kVm8 dcm8 pmm8 ctm8 cdm8 ocm10 kVm10 dcm10 pmm10 ctm10 cdm10 ocd14 kVd14 dcd14 pmd14 ctd14 cdd14 ocd15 kVd15 dcd15 pmd15 ctd15 cdd15 ocd17 kVd17 dcd17 pmd17 ctd17 cdd17 ocd25 kVd25 dcd25 pmd25 ctd25 cdd25 ocd26 kVd26 dcd26 pmd26 ctd26 cdd26 ocd27 kVd27 dcd27 pmd27 ctd27 cdd27 ocd28 kVd28 dcd28 pmd28 ctd28 cdd28 ocd29 kVd29 dcd29 pmd29 ctd29 cdd29 ocd30 kVd30 dcd30 pmd30 ctd30 cdd30 ocd31 kVd31 dcd31 pmd31 ctd31 cdd31 ocd32 kVd32 dcd32 pmd32 ctd32 cdd32 ocd33 kVd33 dcd33 pmd33 ctd33 cdd33 ocd34 kVd34 dcd34 pmd34 ctd34 cdd34 ocd35 kVd35 dcd35 pmd35 ctd35 cdd35 ocd36 kVd36 dcd36 pmd36 ctd36 cdd36 ocd37 kVd37 dcd37 pmd37 ctd37 cdd37 ocd38 kVd38 dcd38 pmd38 ctd38 cdd38 ocd39 kVd39 dcd39 pmd39 ctd39 cdd39 ocd41 kVd41 dcd41 pmd41 ctd41 cdd41 ocd42 kVd42 dcd42 pmd42 ctd42 cdd42 ocd43 kVd43 dcd43 pmd43 ctd43 cdd43 ocd44 kVd44 dcd44 pmd44 ctd44 cdd44 ocd45 kVd45 dcd45 pmd45 ctd45 e_d45 ocd46 kVd46 dcd46 pmd46 ctd46 e_d46 ocd47 kVd47 dcd47 pmd47 ctd47 e_d47 ocd48 kVd48 dcd48 pmd48 ctd48 e_d48 ocE kVE dcE pmE ctE cdE ocT kVT dcT pmT ctT cdT : Value}
    {dtT : Data} {rsp2 rsp3 : List Value} {tkMAX_CHOSEN tkMAX_PRIME tk_MAX_PARTITIONED : Tok} {v_d45 : Array Value} {v_d46 : Array Value} {v_d47 : Array Value} {v_d48 : Array Value} {nmE qnE : Str} {bsE : List Value} {snE : List Str} {sbE : List Value} {abE : Bool} {coE : Option Bool} {ddE : Option Addr} {mE0 mE1 mE2 mE3 mE5 : Option Value} {peE1 peE2 qeE1 qeE2 qeE3 qeE4 : Pos} {nmT qnT : Str} {bsT : List Value} {snT : List Str} {sbT : List Value} {abT : Bool} {coT : Option Bool} {ddT : Option Addr} {mT0 mT1 mT2 mT3 mT5 : Option Value} {peT1 peT2 qeT1 qeT2 qeT3 qeT4 : Pos}
    (aC : PySem.W.nsIn K mainGlobals "Ratio" = some (some (.ref C)))
    (pg : PySem.W.plainGet K C Str.empty = true)
    (hd : PySem.W.hasDictIn K C = true)
    (po : PySem.W.plainOver K C = true)
    (sa : PySem.W.findIn K (.ref C) "__setattr__" = some (some (.builtin "object.__setattr__")))
    (mk : PySem.W.makesIn K C = true)
    (kC : PySem.W.keepIn K (.ref C) = true)
    (nT : PySem.W.findIn K (.ref C) "_top" = some none)
    (nB : PySem.W.findIn K (.ref C) "_bottom" = some none)
    (ca : PySem.W.findIn K (.ref C) "__class__" = some (some (.builtin "object.__class__")))
    (cn : PySem.W.specialIn K (.builtin "object.__class__") "__get__" = some (some (.builtin "getset_descriptor.__get__")))
    (ct0 : PySem.W.takesIn K (.builtin "object.__class__") = some true)
    (mo : PySem.W.mroIn K C (.type "object") = some true)
    (iC : PySem.W.isClsIn K C = true)
    (tC : PySem.W.typeIn K (.ref C) = some (.type "type"))
    (sKn : PySem.W.subIn K (.type "NoneType") (.ref C) = some false)
    (sKb : PySem.W.subIn K (.type "bool") (.ref C) = some false)
    (sKi : PySem.W.subIn K (.type "int") (.ref C) = some false)
    (sKs : PySem.W.subIn K (.type "str") (.ref C) = some false)
    (sKt : PySem.W.subIn K (.type "tuple") (.ref C) = some false)
    (sKl : PySem.W.subIn K (.type "list") (.ref C) = some false)
    (sKd : PySem.W.subIn K (.type "dict") (.ref C) = some false)
    (aI0 : PySem.W.findIn K (.ref C) "__init__" = some (some (.ref fI0)))
    (iI0 : PySem.W.isFn K (.ref fI0) = true)
    (lI0 : K.lookup fI0 = some ⟨ocI0, odI0, .func (PySem.W.fnOf "__init__" "Ratio.__init__" (defArgs (sIn 0)) (defBody (sIn 0)) (defScope (sIn 0)) (.ref TI) kVI0 dcI0 pmI0 anI0 cdI0 ctI0), slI0⟩)
    (cI0 : PySem.W.codeIn K cdI0 "Ratio.__init__" = true)
    (kI0 : PySem.W.keepIn K (.ref fI0) = true)
    (lT_ : K.lookup TI = some ⟨ocT_, odT_, dtT, slT_⟩)
    (ap2 : PySem.W.findIn K (.ref C) "top" = some (some (.ref q2)))
    (gp2 : PySem.W.specialIn K (.ref q2) "__get__" = some (some (.builtin "property.__get__")))
    (tp2 : PySem.W.takesIn K (.ref q2) = some true)
    (rp2 : PySem.W.recIn K q2 "property" = some (.ref fp2 :: rsp2))
    (lp2 : K.lookup fp2 = some ⟨ocp2, odp2, .func (PySem.W.fnOf "top" "Ratio.top" (defArgs (sIn 2)) (defBody (sIn 2)) (defScope (sIn 2)) .none kVp2 dcp2 pmp2 anp2 cdp2 ctp2), slp2⟩)
    (cp2 : PySem.W.codeIn K cdp2 "Ratio.top" = true)
    (kp2 : PySem.W.keepIn K (.ref fp2) = true)
    (ap3 : PySem.W.findIn K (.ref C) "bottom" = some (some (.ref q3)))
    (gp3 : PySem.W.specialIn K (.ref q3) "__get__" = some (some (.builtin "property.__get__")))
    (tp3 : PySem.W.takesIn K (.ref q3) = some true)
    (rp3 : PySem.W.recIn K q3 "property" = some (.ref fp3 :: rsp3))
    (lp3 : K.lookup fp3 = some ⟨ocp3, odp3, .func (PySem.W.fnOf "bottom" "Ratio.bottom" (defArgs (sIn 3)) (defBody (sIn 3)) (defScope (sIn 3)) .none kVp3 dcp3 pmp3 anp3 cdp3 ctp3), slp3⟩)
    (cp3 : PySem.W.codeIn K cdp3 "Ratio.bottom" = true)
    (kp3 : PySem.W.keepIn K (.ref fp3) = true)
    (am5 : PySem.W.findIn K (.ref C) "plus" = some (some (.ref fm5)))
    (im5 : PySem.W.isFn K (.ref fm5) = true)
    (lm5 : K.lookup fm5 = some ⟨ocm5, odm5, .func (PySem.W.fnOf "plus" "Ratio.plus" (defArgs (sIn 5)) (defBody (sIn 5)) (defScope (sIn 5)) .none kVm5 dcm5 pmm5 anm5 cdm5 ctm5), slm5⟩)
    (cm5 : PySem.W.codeIn K cdm5 "Ratio.plus" = true)
    (km5 : PySem.W.keepIn K (.ref fm5) = true)
    (am6 : PySem.W.findIn K (.ref C) "minus" = some (some (.ref fm6)))
    (im6 : PySem.W.isFn K (.ref fm6) = true)
    (lm6 : K.lookup fm6 = some ⟨ocm6, odm6, .func (PySem.W.fnOf "minus" "Ratio.minus" (defArgs (sIn 6)) (defBody (sIn 6)) (defScope (sIn 6)) .none kVm6 dcm6 pmm6 anm6 cdm6 ctm6), slm6⟩)
    (cm6 : PySem.W.codeIn K cdm6 "Ratio.minus" = true)
    (km6 : PySem.W.keepIn K (.ref fm6) = true)
    (am7 : PySem.W.findIn K (.ref C) "times" = some (some (.ref fm7)))
    (im7 : PySem.W.isFn K (.ref fm7) = true)
    (lm7 : K.lookup fm7 = some ⟨ocm7, odm7, .func (PySem.W.fnOf "times" "Ratio.times" (defArgs (sIn 7)) (defBody (sIn 7)) (defScope (sIn 7)) .none kVm7 dcm7 pmm7 anm7 cdm7 ctm7), slm7⟩)
    (cm7 : PySem.W.codeIn K cdm7 "Ratio.times" = true)
    (km7 : PySem.W.keepIn K (.ref fm7) = true)
    (am8 : PySem.W.findIn K (.ref C) "over" = some (some (.ref fm8)))
    (im8 : PySem.W.isFn K (.ref fm8) = true)
    (lm8 : K.lookup fm8 = some ⟨ocm8, odm8, .func (PySem.W.fnOf "over" "Ratio.over" (defArgs (sIn 8)) (defBody (sIn 8)) (defScope (sIn 8)) .none kVm8 dcm8 pmm8 anm8 cdm8 ctm8), slm8⟩)
    (cm8 : PySem.W.codeIn K cdm8 "Ratio.over" = true)
    (km8 : PySem.W.keepIn K (.ref fm8) = true)
    (am10 : PySem.W.findIn K (.ref C) "compared" = some (some (.ref fm10)))
    (im10 : PySem.W.isFn K (.ref fm10) = true)
    (lm10 : K.lookup fm10 = some ⟨ocm10, odm10, .func (PySem.W.fnOf "compared" "Ratio.compared" (defArgs (sIn 10)) (defBody (sIn 10)) (defScope (sIn 10)) .none kVm10 dcm10 pmm10 anm10 cdm10 ctm10), slm10⟩)
    (cm10 : PySem.W.codeIn K cdm10 "Ratio.compared" = true)
    (km10 : PySem.W.keepIn K (.ref fm10) = true)
    (ad14 : PySem.W.nsIn K mainGlobals "is_short_integer" = some (some (.ref fd14)))
    (ld14 : K.lookup fd14 = some ⟨ocd14, odd14, .func (PySem.W.fnOf "is_short_integer" "is_short_integer" (defArgs (sShort)) (defBody (sShort)) (defScope (sShort)) .none kVd14 dcd14 pmd14 and14 cdd14 ctd14), sld14⟩)
    (cd14 : PySem.W.codeIn K cdd14 "is_short_integer" = true)
    (kd14 : PySem.W.keepIn K (.ref fd14) = true)
    (ad15 : PySem.W.nsIn K mainGlobals "ratio_of" = some (some (.ref fd15)))
    (ld15 : K.lookup fd15 = some ⟨ocd15, odd15, .func (PySem.W.fnOf "ratio_of" "ratio_of" (defArgs (sOf)) (defBody (sOf)) (defScope (sOf)) .none kVd15 dcd15 pmd15 and15 cdd15 ctd15), sld15⟩)
    (cd15 : PySem.W.codeIn K cdd15 "ratio_of" = true)
    (kd15 : PySem.W.keepIn K (.ref fd15) = true)
    (ad17 : PySem.W.nsIn K mainGlobals "_lowest_terms" = some (some (.ref fd17)))
    (ld17 : K.lookup fd17 = some ⟨ocd17, odd17, .func (PySem.W.fnOf "_lowest_terms" "_lowest_terms" (defArgs (sLow)) (defBody (sLow)) (defScope (sLow)) .none kVd17 dcd17 pmd17 and17 cdd17 ctd17), sld17⟩)
    (cd17 : PySem.W.codeIn K cdd17 "_lowest_terms" = true)
    (kd17 : PySem.W.keepIn K (.ref fd17) = true)
    (ad25 : PySem.W.nsIn K mainGlobals "is_integer" = some (some (.ref fd25)))
    (ld25 : K.lookup fd25 = some ⟨ocd25, odd25, .func (PySem.W.fnOf "is_integer" "is_integer" (defArgs (sIsI)) (defBody (sIsI)) (defScope (sIsI)) .none kVd25 dcd25 pmd25 and25 cdd25 ctd25), sld25⟩)
    (cd25 : PySem.W.codeIn K cdd25 "is_integer" = true)
    (kd25 : PySem.W.keepIn K (.ref fd25) = true)
    (ad26 : PySem.W.nsIn K mainGlobals "is_prime" = some (some (.ref fd26)))
    (ld26 : K.lookup fd26 = some ⟨ocd26, odd26, .func (PySem.W.fnOf "is_prime" "is_prime" (defArgs (sPr)) (defBody (sPr)) (defScope (sPr)) .none kVd26 dcd26 pmd26 and26 cdd26 ctd26), sld26⟩)
    (cd26 : PySem.W.codeIn K cdd26 "is_prime" = true)
    (kd26 : PySem.W.keepIn K (.ref fd26) = true)
    (ad27 : PySem.W.nsIn K mainGlobals "check_prime" = some (some (.ref fd27)))
    (ld27 : K.lookup fd27 = some ⟨ocd27, odd27, .func (PySem.W.fnOf "check_prime" "check_prime" (defArgs (sCp)) (defBody (sCp)) (defScope (sCp)) .none kVd27 dcd27 pmd27 and27 cdd27 ctd27), sld27⟩)
    (cd27 : PySem.W.codeIn K cdd27 "check_prime" = true)
    (kd27 : PySem.W.keepIn K (.ref fd27) = true)
    (ad28 : PySem.W.nsIn K mainGlobals "check_count" = some (some (.ref fd28)))
    (ld28 : K.lookup fd28 = some ⟨ocd28, odd28, .func (PySem.W.fnOf "check_count" "check_count" (defArgs (sChk)) (defBody (sChk)) (defScope (sChk)) .none kVd28 dcd28 pmd28 and28 cdd28 ctd28), sld28⟩)
    (cd28 : PySem.W.codeIn K cdd28 "check_count" = true)
    (kd28 : PySem.W.keepIn K (.ref fd28) = true)
    (ad29 : PySem.W.nsIn K mainGlobals "common_divisor" = some (some (.ref fd29)))
    (ld29 : K.lookup fd29 = some ⟨ocd29, odd29, .func (PySem.W.fnOf "common_divisor" "common_divisor" (defArgs (sCd)) (defBody (sCd)) (defScope (sCd)) .none kVd29 dcd29 pmd29 and29 cdd29 ctd29), sld29⟩)
    (cd29 : PySem.W.codeIn K cdd29 "common_divisor" = true)
    (kd29 : PySem.W.keepIn K (.ref fd29) = true)
    (ad30 : PySem.W.nsIn K mainGlobals "divisors" = some (some (.ref fd30)))
    (ld30 : K.lookup fd30 = some ⟨ocd30, odd30, .func (PySem.W.fnOf "divisors" "divisors" (defArgs (sDv)) (defBody (sDv)) (defScope (sDv)) .none kVd30 dcd30 pmd30 and30 cdd30 ctd30), sld30⟩)
    (cd30 : PySem.W.codeIn K cdd30 "divisors" = true)
    (kd30 : PySem.W.keepIn K (.ref fd30) = true)
    (ad31 : PySem.W.nsIn K mainGlobals "prime_powers" = some (some (.ref fd31)))
    (ld31 : K.lookup fd31 = some ⟨ocd31, odd31, .func (PySem.W.fnOf "prime_powers" "prime_powers" (defArgs (sPp)) (defBody (sPp)) (defScope (sPp)) .none kVd31 dcd31 pmd31 and31 cdd31 ctd31), sld31⟩)
    (cd31 : PySem.W.codeIn K cdd31 "prime_powers" = true)
    (kd31 : PySem.W.keepIn K (.ref fd31) = true)
    (ad32 : PySem.W.nsIn K mainGlobals "moebius" = some (some (.ref fd32)))
    (ld32 : K.lookup fd32 = some ⟨ocd32, odd32, .func (PySem.W.fnOf "moebius" "moebius" (defArgs (sMo)) (defBody (sMo)) (defScope (sMo)) .none kVd32 dcd32 pmd32 and32 cdd32 ctd32), sld32⟩)
    (cd32 : PySem.W.codeIn K cdd32 "moebius" = true)
    (kd32 : PySem.W.keepIn K (.ref fd32) = true)
    (ad33 : PySem.W.nsIn K mainGlobals "valuation" = some (some (.ref fd33)))
    (ld33 : K.lookup fd33 = some ⟨ocd33, odd33, .func (PySem.W.fnOf "valuation" "valuation" (defArgs (sVal)) (defBody (sVal)) (defScope (sVal)) .none kVd33 dcd33 pmd33 and33 cdd33 ctd33), sld33⟩)
    (cd33 : PySem.W.codeIn K cdd33 "valuation" = true)
    (kd33 : PySem.W.keepIn K (.ref fd33) = true)
    (ad34 : PySem.W.nsIn K mainGlobals "binomial" = some (some (.ref fd34)))
    (ld34 : K.lookup fd34 = some ⟨ocd34, odd34, .func (PySem.W.fnOf "binomial" "binomial" (defArgs (sBin)) (defBody (sBin)) (defScope (sBin)) .none kVd34 dcd34 pmd34 and34 cdd34 ctd34), sld34⟩)
    (cd34 : PySem.W.codeIn K cdd34 "binomial" = true)
    (kd34 : PySem.W.keepIn K (.ref fd34) = true)
    (ad35 : PySem.W.nsIn K mainGlobals "step_divisor" = some (some (.ref fd35)))
    (ld35 : K.lookup fd35 = some ⟨ocd35, odd35, .func (PySem.W.fnOf "step_divisor" "step_divisor" (defArgs (sSd)) (defBody (sSd)) (defScope (sSd)) .none kVd35 dcd35 pmd35 and35 cdd35 ctd35), sld35⟩)
    (cd35 : PySem.W.codeIn K cdd35 "step_divisor" = true)
    (kd35 : PySem.W.keepIn K (.ref fd35) = true)
    (ad36 : PySem.W.nsIn K mainGlobals "partitions_of" = some (some (.ref fd36)))
    (ld36 : K.lookup fd36 = some ⟨ocd36, odd36, .func (PySem.W.fnOf "partitions_of" "partitions_of" (defArgs (sPo)) (defBody (sPo)) (defScope (sPo)) .none kVd36 dcd36 pmd36 and36 cdd36 ctd36), sld36⟩)
    (cd36 : PySem.W.codeIn K cdd36 "partitions_of" = true)
    (kd36 : PySem.W.keepIn K (.ref fd36) = true)
    (ad37 : PySem.W.nsIn K mainGlobals "_check_factored" = some (some (.ref fd37)))
    (ld37 : K.lookup fd37 = some ⟨ocd37, odd37, .func (PySem.W.fnOf "_check_factored" "_check_factored" (defArgs (sFct)) (defBody (sFct)) (defScope (sFct)) .none kVd37 dcd37 pmd37 and37 cdd37 ctd37), sld37⟩)
    (cd37 : PySem.W.codeIn K cdd37 "_check_factored" = true)
    (kd37 : PySem.W.keepIn K (.ref fd37) = true)
    (ad38 : PySem.W.nsIn K mainGlobals "_least_factor" = some (some (.ref fd38)))
    (ld38 : K.lookup fd38 = some ⟨ocd38, odd38, .func (PySem.W.fnOf "_least_factor" "_least_factor" (defArgs (sLf)) (defBody (sLf)) (defScope (sLf)) .none kVd38 dcd38 pmd38 and38 cdd38 ctd38), sld38⟩)
    (cd38 : PySem.W.codeIn K cdd38 "_least_factor" = true)
    (kd38 : PySem.W.keepIn K (.ref fd38) = true)
    (ad39 : PySem.W.nsIn K mainGlobals "_times_divided" = some (some (.ref fd39)))
    (ld39 : K.lookup fd39 = some ⟨ocd39, odd39, .func (PySem.W.fnOf "_times_divided" "_times_divided" (defArgs (sTd)) (defBody (sTd)) (defScope (sTd)) .none kVd39 dcd39 pmd39 and39 cdd39 ctd39), sld39⟩)
    (cd39 : PySem.W.codeIn K cdd39 "_times_divided" = true)
    (kd39 : PySem.W.keepIn K (.ref fd39) = true)
    (ad41 : PySem.W.nsIn K mainGlobals "_law_dice" = some (some (.ref fd41)))
    (ld41 : K.lookup fd41 = some ⟨ocd41, odd41, .func (PySem.W.fnOf "_law_dice" "_law_dice" (defArgs (sDic)) (defBody (sDic)) (defScope (sDic)) .none kVd41 dcd41 pmd41 and41 cdd41 ctd41), sld41⟩)
    (cd41 : PySem.W.codeIn K cdd41 "_law_dice" = true)
    (kd41 : PySem.W.keepIn K (.ref fd41) = true)
    (ad42 : PySem.W.nsIn K mainGlobals "_law_roll" = some (some (.ref fd42)))
    (ld42 : K.lookup fd42 = some ⟨ocd42, odd42, .func (PySem.W.fnOf "_law_roll" "_law_roll" (defArgs (sRoll)) (defBody (sRoll)) (defScope (sRoll)) .none kVd42 dcd42 pmd42 and42 cdd42 ctd42), sld42⟩)
    (cd42 : PySem.W.codeIn K cdd42 "_law_roll" = true)
    (kd42 : PySem.W.keepIn K (.ref fd42) = true)
    (ad43 : PySem.W.nsIn K mainGlobals "_law_pick" = some (some (.ref fd43)))
    (ld43 : K.lookup fd43 = some ⟨ocd43, odd43, .func (PySem.W.fnOf "_law_pick" "_law_pick" (defArgs (sPick)) (defBody (sPick)) (defScope (sPick)) .none kVd43 dcd43 pmd43 and43 cdd43 ctd43), sld43⟩)
    (cd43 : PySem.W.codeIn K cdd43 "_law_pick" = true)
    (kd43 : PySem.W.keepIn K (.ref fd43) = true)
    (ad44 : PySem.W.nsIn K mainGlobals "_law_word" = some (some (.ref fd44)))
    (ld44 : K.lookup fd44 = some ⟨ocd44, odd44, .func (PySem.W.fnOf "_law_word" "_law_word" (defArgs (sWord)) (defBody (sWord)) (defScope (sWord)) .none kVd44 dcd44 pmd44 and44 cdd44 ctd44), sld44⟩)
    (cd44 : PySem.W.codeIn K cdd44 "_law_word" = true)
    (kd44 : PySem.W.keepIn K (.ref fd44) = true)
    (ad45 : PySem.W.nsIn K mainGlobals "_law_ratios_right" = some (some (.ref fd45)))
    (ld45 : K.lookup fd45 = some ⟨ocd45, odd45, .func (PySem.W.fnOf "_law_ratios_right" "_law_ratios_right" (defArgs (sRR)) (defBody (sRR)) (defScope (sRR)) .none kVd45 dcd45 pmd45 and45 (.ref c_d45) ctd45), sld45⟩)
    (cd45 : PySem.W.codeIn K (.ref c_d45) "_law_ratios_right" = true)
    (kd45 : PySem.W.keepIn K (.ref fd45) = true)
    (xd45 : K.lookup c_d45 = some ⟨e_d45, o_d45, .fields v_d45, s_d45⟩)
    (yd45 : v_d45[11]? = some (.ref P_d45))
    (zd45 : K.lookup P_d45 = none)
    (hd45 : CodeHere c_d45 P_d45 h)
    (ad46 : PySem.W.nsIn K mainGlobals "_law_numbers_right" = some (some (.ref fd46)))
    (ld46 : K.lookup fd46 = some ⟨ocd46, odd46, .func (PySem.W.fnOf "_law_numbers_right" "_law_numbers_right" (defArgs (sNR)) (defBody (sNR)) (defScope (sNR)) .none kVd46 dcd46 pmd46 and46 (.ref c_d46) ctd46), sld46⟩)
    (cd46 : PySem.W.codeIn K (.ref c_d46) "_law_numbers_right" = true)
    (kd46 : PySem.W.keepIn K (.ref fd46) = true)
    (xd46 : K.lookup c_d46 = some ⟨e_d46, o_d46, .fields v_d46, s_d46⟩)
    (yd46 : v_d46[11]? = some (.ref P_d46))
    (zd46 : K.lookup P_d46 = none)
    (hd46 : CodeHere c_d46 P_d46 h)
    (ad47 : PySem.W.nsIn K mainGlobals "_law_rest_right" = some (some (.ref fd47)))
    (ld47 : K.lookup fd47 = some ⟨ocd47, odd47, .func (PySem.W.fnOf "_law_rest_right" "_law_rest_right" (defArgs (sRe)) (defBody (sRe)) (defScope (sRe)) .none kVd47 dcd47 pmd47 and47 (.ref c_d47) ctd47), sld47⟩)
    (cd47 : PySem.W.codeIn K (.ref c_d47) "_law_rest_right" = true)
    (kd47 : PySem.W.keepIn K (.ref fd47) = true)
    (xd47 : K.lookup c_d47 = some ⟨e_d47, o_d47, .fields v_d47, s_d47⟩)
    (yd47 : v_d47[11]? = some (.ref P_d47))
    (zd47 : K.lookup P_d47 = none)
    (hd47 : CodeHere c_d47 P_d47 h)
    (ad48 : PySem.W.nsIn K mainGlobals "law" = some (some (.ref fd48)))
    (ld48 : K.lookup fd48 = some ⟨ocd48, odd48, .func (PySem.W.fnOf "law" "law" (defArgs (sLaw)) (defBody (sLaw)) (defScope (sLaw)) .none kVd48 dcd48 pmd48 and48 (.ref c_d48) ctd48), sld48⟩)
    (cd48 : PySem.W.codeIn K (.ref c_d48) "law" = true)
    (kd48 : PySem.W.keepIn K (.ref fd48) = true)
    (xd48 : K.lookup c_d48 = some ⟨e_d48, o_d48, .fields v_d48, s_d48⟩)
    (yd48 : v_d48[11]? = some (.ref P_d48))
    (zd48 : K.lookup P_d48 = none)
    (hd48 : CodeHere c_d48 P_d48 h)
    (gO : PySem.W.nsIn K mainGlobals "InvalidOperation" = some (some (.ref CO)))
    (xO : PySem.W.excIn K CO [.type "ValueError", .type "Exception", .type "BaseException", .type "object"] "ValueError.__new__" = true)
    (kO : PySem.W.keepIn K (.ref CO) = true)
    (bO : PySem.W.subIn K (.ref CO) (.type "BaseException") = some true)
    (tO : PySem.W.typeIn K (.ref CO) = some (.type "type"))
    (iO : PySem.W.isClsIn K CO = true)
    (gPr : PySem.W.nsIn K mainGlobals "InvalidPrime" = some (some (.ref CPr)))
    (xPr : PySem.W.excIn K CPr [.type "ValueError", .type "Exception", .type "BaseException", .type "object"] "ValueError.__new__" = true)
    (kPr : PySem.W.keepIn K (.ref CPr) = true)
    (bPr : PySem.W.subIn K (.ref CPr) (.type "BaseException") = some true)
    (tPr : PySem.W.typeIn K (.ref CPr) = some (.type "type"))
    (iPr : PySem.W.isClsIn K CPr = true)
    (gR : PySem.W.nsIn K mainGlobals "InvalidRatio" = some (some (.ref CR)))
    (xR : PySem.W.excIn K CR [.type "ValueError", .type "Exception", .type "BaseException", .type "object"] "ValueError.__new__" = true)
    (kR : PySem.W.keepIn K (.ref CR) = true)
    (bR : PySem.W.subIn K (.ref CR) (.type "BaseException") = some true)
    (tR : PySem.W.typeIn K (.ref CR) = some (.type "type"))
    (iR : PySem.W.isClsIn K CR = true)
    (gE : PySem.W.nsIn K mainGlobals "InvalidCount" = some (some (.ref CE)))
    (xE : K.lookup CE = some (excClassObj nmE qnE CE NE bsE [.type "IndexError", .type "LookupError", .type "Exception", .type "BaseException", .type "object"] true snE sbE abE coE ddE mE0 mE1 mE2 mE3 mE5 "IndexError.__new__"))
    (saE : PySem.W.findIn K (.ref CE) "__setattr__" = some (some (.builtin "object.__setattr__")))
    (gaE : PySem.W.findIn K (.ref CE) "__getattribute__" = some (some (.builtin "BaseException.__getattribute__")))
    (ggE : PySem.W.findIn K (.ref CE) "__getattr__" = some none)
    (noE : PySem.W.findIn K (.ref CE) "value" = some none)
    (inE : PySem.W.findIn K (.ref CE) "__init__" = some (some (.ref fE)))
    (tiE : PySem.W.typeIn K (.ref fE) = some (.type "function"))
    (lE : K.lookup fE = some ⟨ocE, odE, .func (PySem.W.fnOf "__init__" "InvalidCount.__init__" (Vx.iArgs "value" peE1 peE2) (Vx.iBody "value" qeE1 qeE2 qeE3 qeE4) (Vx.iScope "value") .none kVE dcE pmE anE cdE ctE), slE⟩)
    (cE : PySem.W.codeIn K cdE "InvalidCount.__init__" = true)
    (kE : PySem.W.keepIn K (.ref CE) = true)
    (bE : PySem.W.subIn K (.ref CE) (.type "BaseException") = some true)
    (tE : PySem.W.typeIn K (.ref CE) = some (.type "type"))
    (hdE : PySem.W.hasDictIn K CE = true)
    (iE : PySem.W.isClsIn K CE = true)
    (gT : PySem.W.nsIn K mainGlobals "TooMany" = some (some (.ref CT)))
    (xT : K.lookup CT = some (excClassObj nmT qnT CT NT bsT [.type "OverflowError", .type "ArithmeticError", .type "Exception", .type "BaseException", .type "object"] true snT sbT abT coT ddT mT0 mT1 mT2 mT3 mT5 "OverflowError.__new__"))
    (saT : PySem.W.findIn K (.ref CT) "__setattr__" = some (some (.builtin "object.__setattr__")))
    (gaT : PySem.W.findIn K (.ref CT) "__getattribute__" = some (some (.builtin "BaseException.__getattribute__")))
    (ggT : PySem.W.findIn K (.ref CT) "__getattr__" = some none)
    (noT : PySem.W.findIn K (.ref CT) "limit" = some none)
    (inT : PySem.W.findIn K (.ref CT) "__init__" = some (some (.ref fT)))
    (tiT : PySem.W.typeIn K (.ref fT) = some (.type "function"))
    (lT : K.lookup fT = some ⟨ocT, odT, .func (PySem.W.fnOf "__init__" "TooMany.__init__" (Vx.iArgs "limit" peT1 peT2) (Vx.iBody "limit" qeT1 qeT2 qeT3 qeT4) (Vx.iScope "limit") .none kVT dcT pmT anT cdT ctT), slT⟩)
    (cT : PySem.W.codeIn K cdT "TooMany.__init__" = true)
    (kT : PySem.W.keepIn K (.ref CT) = true)
    (bT : PySem.W.subIn K (.ref CT) (.type "BaseException") = some true)
    (tT : PySem.W.typeIn K (.ref CT) = some (.type "type"))
    (hdT : PySem.W.hasDictIn K CT = true)
    (iT : PySem.W.isClsIn K CT = true)
    (wO_O : PySem.W.subIn K (.ref CO) (.ref CO) = some true)
    (wPr_O : PySem.W.subIn K (.ref CPr) (.ref CO) = some false)
    (wPr_Pr : PySem.W.subIn K (.ref CPr) (.ref CPr) = some true)
    (wR_O : PySem.W.subIn K (.ref CR) (.ref CO) = some false)
    (wR_Pr : PySem.W.subIn K (.ref CR) (.ref CPr) = some false)
    (wR_R : PySem.W.subIn K (.ref CR) (.ref CR) = some true)
    (wE_O : PySem.W.subIn K (.ref CE) (.ref CO) = some false)
    (wE_Pr : PySem.W.subIn K (.ref CE) (.ref CPr) = some false)
    (wE_R : PySem.W.subIn K (.ref CE) (.ref CR) = some false)
    (wE_E : PySem.W.subIn K (.ref CE) (.ref CE) = some true)
    (wT_O : PySem.W.subIn K (.ref CT) (.ref CO) = some false)
    (wT_Pr : PySem.W.subIn K (.ref CT) (.ref CPr) = some false)
    (wT_R : PySem.W.subIn K (.ref CT) (.ref CR) = some false)
    (wT_E : PySem.W.subIn K (.ref CT) (.ref CE) = some false)
    (wT_T : PySem.W.subIn K (.ref CT) (.ref CT) = some true)
    (g_MAX_CHOSEN : PySem.W.nsIn K mainGlobals "MAX_CHOSEN" = some (some (.int 1000 tkMAX_CHOSEN)))
    (g_MAX_PRIME : PySem.W.nsIn K mainGlobals "MAX_PRIME" = some (some (.int 997 tkMAX_PRIME)))
    (g__MAX_PARTITIONED : PySem.W.nsIn K mainGlobals "_MAX_PARTITIONED" = some (some (.int 200 tk_MAX_PARTITIONED)))
    (g_gcd : PySem.W.nsIn K mainGlobals "gcd" = some (some (.builtin "math.gcd")))
    (g_isqrt : PySem.W.nsIn K mainGlobals "isqrt" = some (some (.builtin "math.isqrt")))
    (g_comb : PySem.W.nsIn K mainGlobals "comb" = some (some (.builtin "math.comb")))
    (z_int : PySem.W.nsIn K mainGlobals "int" = some none)
    (z_len : PySem.W.nsIn K mainGlobals "len" = some none)
    (z_abs : PySem.W.nsIn K mainGlobals "abs" = some none)
    (z_max : PySem.W.nsIn K mainGlobals "max" = some none)
    (z_min : PySem.W.nsIn K mainGlobals "min" = some none)
    (z_isinstance : PySem.W.nsIn K mainGlobals "isinstance" = some none)
    (z_bool : PySem.W.nsIn K mainGlobals "bool" = some none)
    (z_str : PySem.W.nsIn K mainGlobals "str" = some none)
    (z_range : PySem.W.nsIn K mainGlobals "range" = some none)
    (z_list : PySem.W.nsIn K mainGlobals "list" = some none)
    (z_tuple : PySem.W.nsIn K mainGlobals "tuple" = some none)
    (z_sorted : PySem.W.nsIn K mainGlobals "sorted" = some none)
    (z_all : PySem.W.nsIn K mainGlobals "all" = some none)
    (dT : ∃ tk n, dtT = .seq ([Value.int 1 tk] : List Value).toArray n) (nP : [P_d45, P_d46, P_d47, P_d48].Nodup) :
    LawAtC P w K CX0 10 "_law_script" mg fa h := by
  have e := hfa.symm.trans (PySem.W.mg_of X G ad48)
  cases e
  have F14 := fun_mk (st := sShort) ld14 cd14 kd14
  have b14 := F14.binds (ps := ["value"]) fun _ _ _ _ _ _ us hl => match us, hl with | [_], _ => rfl
  have g14 := PySem.W.mg_of X G ad14
  have F15 := fun_mk (st := sOf) ld15 cd15 kd15
  have b15 := F15.binds (ps := ["value"]) fun _ _ _ _ _ _ us hl => match us, hl with | [_], _ => rfl
  have g15 := PySem.W.mg_of X G ad15
  have F17 := fun_mk (st := sLow) ld17 cd17 kd17
  have b17 := F17.binds (ps := ["top", "bottom"]) fun _ _ _ _ _ _ us hl => match us, hl with | [_, _], _ => rfl
  have g17 := PySem.W.mg_of X G ad17
  have F25 := fun_mk (st := sIsI) ld25 cd25 kd25
  have b25 := F25.binds (ps := ["value"]) fun _ _ _ _ _ _ us hl => match us, hl with | [_], _ => rfl
  have g25 := PySem.W.mg_of X G ad25
  have F26 := fun_mk (st := sPr) ld26 cd26 kd26
  have b26 := F26.binds (ps := ["value"]) fun _ _ _ _ _ _ us hl => match us, hl with | [_], _ => rfl
  have g26 := PySem.W.mg_of X G ad26
  have F27 := fun_mk (st := sCp) ld27 cd27 kd27
  have b27 := F27.binds (ps := ["prime"]) fun _ _ _ _ _ _ us hl => match us, hl with | [_], _ => rfl
  have g27 := PySem.W.mg_of X G ad27
  have F28 := fun_mk (st := sChk) ld28 cd28 kd28
  have b28 := F28.binds (ps := ["value", "low", "high"]) fun _ _ _ _ _ _ us hl => match us, hl with | [_, _, _], _ => rfl
  have g28 := PySem.W.mg_of X G ad28
  have F29 := fun_mk (st := sCd) ld29 cd29 kd29
  have b29 := F29.binds (ps := ["numbers"]) fun _ _ _ _ _ _ us hl => match us, hl with | [_], _ => rfl
  have g29 := PySem.W.mg_of X G ad29
  have F30 := fun_mk (st := sDv) ld30 cd30 kd30
  have b30 := F30.binds (ps := ["number"]) fun _ _ _ _ _ _ us hl => match us, hl with | [_], _ => rfl
  have g30 := PySem.W.mg_of X G ad30
  have F31 := fun_mk (st := sPp) ld31 cd31 kd31
  have b31 := F31.binds (ps := ["number"]) fun _ _ _ _ _ _ us hl => match us, hl with | [_], _ => rfl
  have g31 := PySem.W.mg_of X G ad31
  have F32 := fun_mk (st := sMo) ld32 cd32 kd32
  have b32 := F32.binds (ps := ["number"]) fun _ _ _ _ _ _ us hl => match us, hl with | [_], _ => rfl
  have g32 := PySem.W.mg_of X G ad32
  have F33 := fun_mk (st := sVal) ld33 cd33 kd33
  have b33 := F33.binds (ps := ["prime", "number"]) fun _ _ _ _ _ _ us hl => match us, hl with | [_, _], _ => rfl
  have g33 := PySem.W.mg_of X G ad33
  have F34 := fun_mk (st := sBin) ld34 cd34 kd34
  have b34 := F34.binds (ps := ["top", "low"]) fun _ _ _ _ _ _ us hl => match us, hl with | [_, _], _ => rfl
  have g34 := PySem.W.mg_of X G ad34
  have F35 := fun_mk (st := sSd) ld35 cd35 kd35
  have b35 := F35.binds (ps := ["number"]) fun _ _ _ _ _ _ us hl => match us, hl with | [_], _ => rfl
  have g35 := PySem.W.mg_of X G ad35
  have F36 := fun_mk (st := sPo) ld36 cd36 kd36
  have b36 := F36.binds (ps := ["number"]) fun _ _ _ _ _ _ us hl => match us, hl with | [_], _ => rfl
  have g36 := PySem.W.mg_of X G ad36
  have F37 := fun_mk (st := sFct) ld37 cd37 kd37
  have b37 := F37.binds (ps := ["number"]) fun _ _ _ _ _ _ us hl => match us, hl with | [_], _ => rfl
  have g37 := PySem.W.mg_of X G ad37
  have F38 := fun_mk (st := sLf) ld38 cd38 kd38
  have b38 := F38.binds (ps := ["number", "start"]) fun _ _ _ _ _ _ us hl => match us, hl with | [_, _], _ => rfl
  have g38 := PySem.W.mg_of X G ad38
  have F39 := fun_mk (st := sTd) ld39 cd39 kd39
  have b39 := F39.binds (ps := ["prime", "number"]) fun _ _ _ _ _ _ us hl => match us, hl with | [_, _], _ => rfl
  have g39 := PySem.W.mg_of X G ad39
  have F41 := fun_mk (st := sDic) ld41 cd41 kd41
  have b41 := F41.binds (ps := ["_law_script", "_law_spot"]) fun _ _ _ _ _ _ us hl => match us, hl with | [_, _], _ => rfl
  have g41 := PySem.W.mg_of X G ad41
  have F42 := fun_mk (st := sRoll) ld42 cd42 kd42
  have b42 := F42.binds (ps := ["_law_dice_here", "_law_total"]) fun _ _ _ _ _ _ us hl => match us, hl with | [_, _], _ => rfl
  have g42 := PySem.W.mg_of X G ad42
  have F43 := fun_mk (st := sPick) ld43 cd43 kd43
  have b43 := F43.binds (ps := ["_law_dice_here", "_law_items"]) fun _ _ _ _ _ _ us hl => match us, hl with | [_, _], _ => rfl
  have g43 := PySem.W.mg_of X G ad43
  have F44 := fun_mk (st := sWord) ld44 cd44 kd44
  have b44 := F44.binds (ps := ["_law_call"]) fun _ _ _ _ _ _ us hl => match us, hl with | [_], _ => rfl
  have g44 := PySem.W.mg_of X G ad44
  have F45 := fun_mk (st := sRR) ld45 cd45 kd45
  have b45 := F45.binds (ps := ["_law_dice_here"]) fun _ _ _ _ _ _ us hl => match us, hl with | [_], _ => rfl
  have g45 := PySem.W.mg_of X G ad45
  have FC45 := funC_mk (st := sRR) ld45 cd45 kd45
  have F46 := fun_mk (st := sNR) ld46 cd46 kd46
  have b46 := F46.binds (ps := ["_law_dice_here"]) fun _ _ _ _ _ _ us hl => match us, hl with | [_], _ => rfl
  have g46 := PySem.W.mg_of X G ad46
  have FC46 := funC_mk (st := sNR) ld46 cd46 kd46
  have F47 := fun_mk (st := sRe) ld47 cd47 kd47
  have b47 := F47.binds (ps := ["_law_dice_here"]) fun _ _ _ _ _ _ us hl => match us, hl with | [_], _ => rfl
  have g47 := PySem.W.mg_of X G ad47
  have FC47 := funC_mk (st := sRe) ld47 cd47 kd47
  have F48 := fun_mk (st := sLaw) ld48 cd48 kd48
  have b48 := F48.binds (ps := ["_law_script"]) fun _ _ _ _ _ _ us hl => match us, hl with | [_], _ => rfl
  have g48 := PySem.W.mg_of X G ad48
  have FC48 := funC_mk (st := sLaw) ld48 cd48 kd48
  have M5 := fun_mk (st := sIn 5) lm5 cm5 km5
  have y5 := M5.binds (ps := ["self", "other"]) fun _ _ _ _ _ _ us hl => match us, hl with | [_, _], _ => rfl
  have M6 := fun_mk (st := sIn 6) lm6 cm6 km6
  have y6 := M6.binds (ps := ["self", "other"]) fun _ _ _ _ _ _ us hl => match us, hl with | [_, _], _ => rfl
  have M7 := fun_mk (st := sIn 7) lm7 cm7 km7
  have y7 := M7.binds (ps := ["self", "other"]) fun _ _ _ _ _ _ us hl => match us, hl with | [_, _], _ => rfl
  have M8 := fun_mk (st := sIn 8) lm8 cm8 km8
  have y8 := M8.binds (ps := ["self", "other"]) fun _ _ _ _ _ _ us hl => match us, hl with | [_, _], _ => rfl
  have M10 := fun_mk (st := sIn 10) lm10 cm10 km10
  have y10 := M10.binds (ps := ["self", "other"]) fun _ _ _ _ _ _ us hl => match us, hl with | [_, _], _ => rfl
  have P2 := fun_mk (st := sIn 2) lp2 cp2 kp2
  have w2 := P2.binds (ps := ["self"]) fun _ _ _ _ _ _ us hl => match us, hl with | [_], _ => rfl
  have P3 := fun_mk (st := sIn 3) lp3 cp3 kp3
  have w3 := P3.binds (ps := ["self"]) fun _ _ _ _ _ _ us hl => match us, hl with | [_], _ => rfl
  obtain ⟨tk1, nT1, rfl⟩ := dT
  have FI : FunD K "__init__" "Ratio.__init__" (defArgs (sIn 0)) (defBody (sIn 0)) (defScope (sIn 0)) [V.int 1] [] fI0 _ :=
    ⟨⟨_, _, _, _, _, _, _, _, _, _, rfl, lI0, cI0, .inr ⟨by simp, TI, _, [Value.int 1 tk1], nT1, rfl, lT_, rfl, .cons ⟨_, rfl⟩ .nil⟩, .inl rfl⟩, kI0⟩
  have bI3 := bind3 FI
  have bI2 := bind2 FI
  have cl : Cls K C := ⟨pg, hd, po, sa⟩
  have bl : Bl mg := ⟨PySem.W.mg_none_of X G z_int, PySem.W.mg_none_of X G z_len, PySem.W.mg_none_of X G z_abs, PySem.W.mg_none_of X G z_max⟩
  have gn : Gn K mg C :=
    { bl := bl, isi := PySem.W.mg_none_of X G z_isinstance, bool := PySem.W.mg_none_of X G z_bool, str := PySem.W.mg_none_of X G z_str, tl := hTL, gcd := PySem.W.mg_of X G g_gcd, mgC := PySem.W.mg_of X G aC, cl := cl, nT := nT, nB := nB,
      ca := ca, cn := cn, ct := ct0, mo := mo, kt := kit_no iC tC sKt rfl, ki := kit_no iC tC sKi rfl }
  have nk : NoK K C := ⟨kit_no iC tC sKn rfl, kit_no iC tC sKb rfl, kit_no iC tC sKi rfl, kit_no iC tC sKs rfl, kit_no iC tC sKt rfl, kit_no iC tC sKl rfl, kit_no iC tC sKd rfl⟩
  have eO : Pln K mg "InvalidOperation" CO := ⟨PySem.W.mg_of X G gO, xO, kO, bO, tO⟩
  have ePr : Pln K mg "InvalidPrime" CPr := ⟨PySem.W.mg_of X G gPr, xPr, kPr, bPr, tPr⟩
  have eR : Pln K mg "InvalidRatio" CR := ⟨PySem.W.mg_of X G gR, xR, kR, bR, tR⟩
  have eE : Vx.ECls K mg "InvalidCount" "value" "IndexError" "IndexError.__new__" [.type "IndexError", .type "LookupError", .type "Exception", .type "BaseException", .type "object"] CE fE :=
    have cls0 : ∃ nm q N bs bm sn sub ab col dd k0 k1 k2 k3 k5, K.lookup CE = some (excClassObj nm q CE N bs bm true sn sub ab col dd k0 k1 k2 k3 k5 "IndexError.__new__") ∧ PySem.W.excTail [.type "IndexError", .type "LookupError", .type "Exception", .type "BaseException", .type "object"] bm = true :=
      ⟨_, _, _, _, _, _, _, _, _, _, _, _, _, _, _, xE, rfl⟩
    have ov : PySem.W.excOver K CE [.type "IndexError", .type "LookupError", .type "Exception", .type "BaseException", .type "object"] = true := by
      obtain ⟨_, _, _, _, _, _, _, _, _, _, _, _, _, _, _, e, t⟩ := cls0
      exact Vx.over_of e t
    { gC := PySem.W.mg_of X G gE, cls := cls0, base := ⟨_, _, PySem.F.excBase_IndexError⟩, hB := ⟨by decide +kernel, by decide +kernel, by decide +kernel⟩, ga := gaE, gg := ggE, no := noE, iC := inE, tI := tiE, kC := kE, exC := bE, tyC := tE, hd := hdE,
      init := Vx.init_value PySem.F.store_IndexError ov noE hdE saE lE cE }
  have eT : Vx.ECls K mg "TooMany" "limit" "OverflowError" "OverflowError.__new__" [.type "OverflowError", .type "ArithmeticError", .type "Exception", .type "BaseException", .type "object"] CT fT :=
    have cls0 : ∃ nm q N bs bm sn sub ab col dd k0 k1 k2 k3 k5, K.lookup CT = some (excClassObj nm q CT N bs bm true sn sub ab col dd k0 k1 k2 k3 k5 "OverflowError.__new__") ∧ PySem.W.excTail [.type "OverflowError", .type "ArithmeticError", .type "Exception", .type "BaseException", .type "object"] bm = true :=
      ⟨_, _, _, _, _, _, _, _, _, _, _, _, _, _, _, xT, rfl⟩
    have ov : PySem.W.excOver K CT [.type "OverflowError", .type "ArithmeticError", .type "Exception", .type "BaseException", .type "object"] = true := by
      obtain ⟨_, _, _, _, _, _, _, _, _, _, _, _, _, _, _, e, t⟩ := cls0
      exact Vx.over_of e t
    { gC := PySem.W.mg_of X G gT, cls := cls0, base := ⟨_, _, PySem.F.excBase_OverflowError⟩, hB := ⟨by decide +kernel, by decide +kernel, by decide +kernel⟩, ga := gaT, gg := ggT, no := noT, iC := inT, tI := tiT, kC := kT, exC := bT, tyC := tT, hd := hdT,
      init := Vx.init_limit PySem.F.store_OverflowError ov noT hdT saT lT cT }
  have wd : Wd K CO CPr CR CE CT := ⟨exm_is bO iO tO wO_O, exm_is bO iO tO wPr_O, exm_is bPr iPr tPr wPr_Pr, exm_is bO iO tO wR_O, exm_is bPr iPr tPr wR_Pr, exm_is bR iR tR wR_R, exm_is bO iO tO wE_O, exm_is bPr iPr tPr wE_Pr, exm_is bR iR tR wE_R, exm_is bE iE tE wE_E, exm_is bO iO tO wT_O, exm_is bPr iPr tPr wT_Pr, exm_is bR iR tR wT_R, exm_is bE iE tE wT_E, exm_is bT iT tT wT_T⟩
  refine ⟨PySem.W.fnOf "law" "law" (defArgs sLaw) (defBody sLaw) (defScope sLaw) .none kVd48 dcd48 pmd48 and48 (.ref c_d48) ctd48, [(c_d45, P_d45), (c_d46, P_d46), (c_d47, P_d47), (c_d48, P_d48)], spLaw K [(P_d45, ("_law_ratios_right" : Str) ++ ".<locals>." ++ "<lambda>"), (P_d46, ("_law_numbers_right" : Str) ++ ".<locals>." ++ "<lambda>"), (P_d47, ("_law_rest_right" : Str) ++ ".<locals>." ++ "<lambda>"), (P_d48, ("law" : Str) ++ ".<locals>." ++ "<lambda>")], ?_, ?_, ?_, fun s v => .of_eq rfl, ?_, fun base _ _ tbs => ?_⟩
  · intro p hp
    simp only [List.mem_cons, List.not_mem_nil, or_false] at hp
    rcases hp with rfl | rfl | rfl | rfl
    · exact hd45.2
    · exact hd46.2
    · exact hd47.2
    · exact hd48.2
  · intro p hp
    simp only [List.mem_cons, List.not_mem_nil, or_false] at hp
    rcases hp with rfl | rfl | rfl | rfl
    · exact zd45
    · exact zd46
    · exact zd47
    · exact zd48
  · intro p hp
    simp only [List.mem_cons, List.not_mem_nil, or_false] at hp
    rcases hp with rfl | rfl | rfl | rfl
    · exact hd45.1
    · exact hd46.1
    · exact hd47.1
    · exact hd48.1
  · intro H a ns _ _ ht hS
    refine ⟨a, ns, rfl, hS, fun q hq => ?_, fun _ => rfl⟩
    simp only [List.mem_cons, List.not_mem_nil, or_false] at hq
    rcases hq with rfl | rfl | rfl | rfl
    · exact LamX.TabS.nil (ht (c_d45, P_d45) (.head _))
    · exact LamX.TabS.nil (ht (c_d46, P_d46) (.tail _ (.head _)))
    · exact LamX.TabS.nil (ht (c_d47, P_d47) (.tail _ (.tail _ (.head _))))
    · exact LamX.TabS.nil (ht (c_d48, P_d48) (.tail _ (.tail _ (.tail _ (.head _)))))
  simp only [List.nodup_cons, List.mem_cons, List.not_mem_nil, or_false, not_or, List.nodup_nil, not_false_eq_true, and_true] at nP
  obtain ⟨⟨n12, n13, n14⟩, ⟨n23, n24⟩, n34⟩ := nP
  have hu1 : ∀ p ∈ [(P_d45, ("_law_ratios_right" : Str) ++ ".<locals>." ++ "<lambda>"), (P_d46, ("_law_numbers_right" : Str) ++ ".<locals>." ++ "<lambda>"), (P_d47, ("_law_rest_right" : Str) ++ ".<locals>." ++ "<lambda>"), (P_d48, ("law" : Str) ++ ".<locals>." ++ "<lambda>")], p.1 = P_d45 → p.2 = ("_law_ratios_right" : Str) ++ ".<locals>." ++ "<lambda>" := by
    intro p hp e
    simp only [List.mem_cons, List.not_mem_nil, or_false] at hp
    rcases hp with rfl | rfl | rfl | rfl
    · rfl
    · exact absurd e.symm n12
    · exact absurd e.symm n13
    · exact absurd e.symm n14
  have hu2 : ∀ p ∈ [(P_d45, ("_law_ratios_right" : Str) ++ ".<locals>." ++ "<lambda>"), (P_d46, ("_law_numbers_right" : Str) ++ ".<locals>." ++ "<lambda>"), (P_d47, ("_law_rest_right" : Str) ++ ".<locals>." ++ "<lambda>"), (P_d48, ("law" : Str) ++ ".<locals>." ++ "<lambda>")], p.1 = P_d46 → p.2 = ("_law_numbers_right" : Str) ++ ".<locals>." ++ "<lambda>" := by
    intro p hp e
    simp only [List.mem_cons, List.not_mem_nil, or_false] at hp
    rcases hp with rfl | rfl | rfl | rfl
    · exact absurd e n12
    · rfl
    · exact absurd e.symm n23
    · exact absurd e.symm n24
  have hu3 : ∀ p ∈ [(P_d45, ("_law_ratios_right" : Str) ++ ".<locals>." ++ "<lambda>"), (P_d46, ("_law_numbers_right" : Str) ++ ".<locals>." ++ "<lambda>"), (P_d47, ("_law_rest_right" : Str) ++ ".<locals>." ++ "<lambda>"), (P_d48, ("law" : Str) ++ ".<locals>." ++ "<lambda>")], p.1 = P_d47 → p.2 = ("_law_rest_right" : Str) ++ ".<locals>." ++ "<lambda>" := by
    intro p hp e
    simp only [List.mem_cons, List.not_mem_nil, or_false] at hp
    rcases hp with rfl | rfl | rfl | rfl
    · exact absurd e n13
    · exact absurd e n23
    · rfl
    · exact absurd e.symm n34
  have hu4 : ∀ p ∈ [(P_d45, ("_law_ratios_right" : Str) ++ ".<locals>." ++ "<lambda>"), (P_d46, ("_law_numbers_right" : Str) ++ ".<locals>." ++ "<lambda>"), (P_d47, ("_law_rest_right" : Str) ++ ".<locals>." ++ "<lambda>"), (P_d48, ("law" : Str) ++ ".<locals>." ++ "<lambda>")], p.1 = P_d48 → p.2 = ("law" : Str) ++ ".<locals>." ++ "<lambda>" := by
    intro p hp e
    simp only [List.mem_cons, List.not_mem_nil, or_false] at hp
    rcases hp with rfl | rfl | rfl | rfl
    · exact absurd e n14
    · exact absurd e n24
    · exact absurd e n34
    · rfl
  have TB1 := tbs (c_d45, P_d45) (.head _)
  have TB2 := tbs (c_d46, P_d46) (.tail _ (.head _))
  have TB3 := tbs (c_d47, P_d47) (.tail _ (.tail _ (.head _)))
  have TB4 := tbs (c_d48, P_d48) (.tail _ (.tail _ (.tail _ (.head _))))
  have hR := PySem.W.mg_none_of X G z_range
  have hMC : ∃ t, mg "MAX_CHOSEN" = some (.int 1000 t) := ⟨_, PySem.W.mg_of X G g_MAX_CHOSEN⟩
  have hMP : ∃ t, mg "MAX_PRIME" = some (.int 997 t) := ⟨_, PySem.W.mg_of X G g_MAX_PRIME⟩
  have hM2 : ∃ t, mg "_MAX_PARTITIONED" = some (.int 200 t) := ⟨_, PySem.W.mg_of X G g__MAX_PARTITIONED⟩
  have hSh : HShK P w K mg base := ⟨_, _, ok_shortK F14 gn, g14, kd14, b14⟩
  have hLow : Has P w K mg base "_lowest_terms" 1 ["top", "bottom"] spLow := ⟨_, _, ok_low F17 gn, g17, kd17, b17⟩
  have hInit := ok_initK (P := P) (w := w) (mg := mg) (base := base) (C := C) (CE := CE) FI gn eE hSh hLow
  have hRat : HRatioK P w K mg base C CE := ⟨_, _, hInit, ⟨mk, aI0, iI0, kC⟩, bI3, bI2⟩
  have hOf : HOfK P w K mg base C CR := ⟨_, _, ok_ofK F15 gn eR hSh hRat, g15, kd15, b15⟩
  have hTop : HasP P w K mg base C "top" 1 (spTop C) := ⟨_, _, _, ⟨ap2, gp2, tp2, _, rp2⟩, fn_getter lp2 cp2 (scGet 2 (by first | exact .inl rfl | exact .inr rfl)) rfl rfl cl nT, w2⟩
  have hBot : HasP P w K mg base C "bottom" 1 (spBot C) := ⟨_, _, _, ⟨ap3, gp3, tp3, _, rp3⟩, fn_getter lp3 cp3 (scGet 3 (by first | exact .inl rfl | exact .inr rfl)) rfl rfl cl nB, w3⟩
  have hIsI : HIsI P w K mg base := ⟨_, _, ok_isI F25 hSh, g25, kd25, b25⟩
  have hLf : HLf P w K mg base := ⟨_, _, ok_lf F38 (PySem.W.mg_of X G g_isqrt) hR, g38, kd38, b38⟩
  have hTd : HTd P w K mg base := ⟨_, _, ok_td F39, g39, kd39, b39⟩
  have hPr : HPr P w K mg base := ⟨_, _, ok_pr F26 hIsI hLf hMF, g26, kd26, b26⟩
  have hCp : HCp P w K mg base CPr := ⟨_, _, ok_cp F27 ePr hPr hMP, g27, kd27, b27⟩
  have hChk : HChk P w K mg base CE := ⟨_, _, ok_chk F28 eE hIsI, g28, kd28, b28⟩
  have hFct : HFct P w K mg base CE CT := ⟨_, _, ok_fct F37 eE eT hIsI hMF, g37, kd37, b37⟩
  have hPp : HPp P w K mg base CE CT := ⟨_, _, ok_pp F31 hFct hLf hTd, g31, kd31, b31⟩
  have hDv : HasX P w K mg base "divisors" 6 ["number"] (spDv K CE CT) := ⟨_, _, ok_dv F30 hPp hR (PySem.W.mg_none_of X G z_tuple) (PySem.W.mg_none_of X G z_sorted), g30, kd30, b30⟩
  have hMo : HasX P w K mg base "moebius" 6 ["number"] (spNoF K CE CT) := ⟨_, _, ok_moB F32 hPp (PySem.W.mg_none_of X G z_list), g32, kd32, b32⟩
  have hBi : HasX P w K mg base "binomial" 5 ["top", "low"] (spBin K CE) := ⟨_, _, ok_bin F34 hChk (PySem.W.mg_of X G g_comb) hMC, g34, kd34, b34⟩
  have hSd : HasX P w K mg base "step_divisor" 5 ["number"] (spSdB K CE) := ⟨_, _, ok_sdB F35 hChk hMC, g35, kd35, b35⟩
  have hPo : HasX P w K mg base "partitions_of" 5 ["number"] (spPo K CE) := ⟨_, _, ok_po F36 hChk hR hM2, g36, kd36, b36⟩
  have hCd : HasX P w K mg base "common_divisor" 3 ["numbers"] (spCdB K CO) := ⟨_, _, ok_cdB F29 eO hIsI (PySem.W.mg_none_of X G z_isinstance) (PySem.W.mg_none_of X G z_tuple) (PySem.W.mg_none_of X G z_all), g29, kd29, b29⟩
  have hVa : HasX P w K mg base "valuation" 6 ["prime", "number"] (spVal K C CR CO CPr) := ⟨_, _, ok_val F33 gn hCp hOf eO hTop hBot hTd, g33, kd33, b33⟩
  have oRoll := ok_roll (P := P) (w := w) (base := base) F42 bl
  have hPick : HPick P w K mg base := ⟨_, _, ok_pick F43 bl g42 kd42 b42 oRoll, g43, kd43, b43⟩
  have hDic : Has P w K mg base "_law_dice" 1 ["_law_script", "_law_spot"] (spDic K) := ⟨_, _, ok_dic F41 bl, g41, kd41, b41⟩
  have rm : RM P w K mg base C CE CR CO := ⟨hRat, ⟨_, _, ok_plusB M5 hOf, ⟨am5, im5, km5⟩, y5⟩, ⟨_, _, ok_minusB M6 hOf, ⟨am6, im6, km6⟩, y6⟩, ⟨_, _, ok_timesB M7 hOf, ⟨am7, im7, km7⟩, y7⟩, ⟨_, _, ok_overB M8 gn eO hOf hTop, ⟨am8, im8, km8⟩, y8⟩, ⟨_, _, ok_cmpB M10 hOf, ⟨am10, im10, km10⟩, y10⟩⟩
  have nm : NM P w K mg base CE CT := ⟨hDv, hPp, hMo, hBi, hSd, hPo⟩
  have wo : HWord K mg CO CPr CR CE CT fE fT := ⟨wd, PySem.W.mg_of X G gO, PySem.W.mg_of X G gPr, PySem.W.mg_of X G gR, ⟨_, _, _, eE⟩, ⟨_, _, _, eT⟩, ⟨_, _, _, _, _, _, _, _, _, _, g44, kd44, ld44, cd44, b44⟩⟩
  have hA1 : Has P w K mg base "_law_ratios_right" 9 ["_law_dice_here"] (spPart [(P_d45, ("_law_ratios_right" : Str) ++ ".<locals>." ++ "<lambda>"), (P_d46, ("_law_numbers_right" : Str) ++ ".<locals>." ++ "<lambda>"), (P_d47, ("_law_rest_right" : Str) ++ ".<locals>." ++ "<lambda>"), (P_d48, ("law" : Str) ++ ".<locals>." ++ "<lambda>")]) := ⟨_, _, ok_rr FC45 gn nk wo TB1 (.head _) hu1 rm hPick, g45, kd45, b45⟩
  have hA2 : Has P w K mg base "_law_numbers_right" 9 ["_law_dice_here"] (spPart [(P_d45, ("_law_ratios_right" : Str) ++ ".<locals>." ++ "<lambda>"), (P_d46, ("_law_numbers_right" : Str) ++ ".<locals>." ++ "<lambda>"), (P_d47, ("_law_rest_right" : Str) ++ ".<locals>." ++ "<lambda>"), (P_d48, ("law" : Str) ++ ".<locals>." ++ "<lambda>")]) := ⟨_, _, ok_nr FC46 nk wo TB2 (.tail _ (.head _)) hu2 nm hPick, g46, kd46, b46⟩
  have hA3 : Has P w K mg base "_law_rest_right" 9 ["_law_dice_here"] (spPart [(P_d45, ("_law_ratios_right" : Str) ++ ".<locals>." ++ "<lambda>"), (P_d46, ("_law_numbers_right" : Str) ++ ".<locals>." ++ "<lambda>"), (P_d47, ("_law_rest_right" : Str) ++ ".<locals>." ++ "<lambda>"), (P_d48, ("law" : Str) ++ ".<locals>." ++ "<lambda>")]) := ⟨_, _, ok_re FC47 gn.mgC nk wo TB3 (.tail _ (.tail _ (.head _))) hu3 hRat hCd hVa hPick, g47, kd47, b47⟩
  exact ok_law FC48 bl wo TB4 (.tail _ (.tail _ (.tail _ (.head _)))) hu4 hR (PySem.W.mg_none_of X G z_min) hDic hA1 hA2 hA3 nm hVa
end Lk

set_option Elab.async false
set_option maxRecDepth 100000
open PySem PySem.W PyProof.Rows in
set_option maxRecDepth 100000 in
set_option maxHeartbeats 0 in
theorem PySem.Challenge.cw_lawseries_k03_errors_of_numbers_and_rati_holds : PySem.Challenge.rw_lawseries_k03_errors_of_numbers_and_rati.Holds := by
  w_on; o_law; k_head; (case hw => w_witness2)
  k_fill
  refine Lk.walkT (l := PySem.Challenge.rw_lawseries_k03_errors_of_numbers_and_rati) (k := 10) rfl rfl ⟨rfl, by decide, by decide⟩ (fun w h Y => PySem.W.km_in_of Y) ?F
  case F =>
    intro w mg fa h Y KX G XX hmg
    refine' Lk.all_mk KX G hmg (Lk.too_long XX) (Lk.max_factored XX) ?aC ?pg ?hd ?po ?sa ?mk ?kC ?nT ?nB ?ca ?cn ?ct0 ?mo ?iC ?tC ?sKn ?sKb ?sKi ?sKs ?sKt ?sKl ?sKd ?aI0 ?iI0 ?lI0 ?cI0 ?kI0 ?lT_ ?ap2 ?gp2 ?tp2 ?rp2 ?lp2 ?cp2 ?kp2 ?ap3 ?gp3 ?tp3 ?rp3 ?lp3 ?cp3 ?kp3 ?am5 ?im5 ?lm5 ?cm5 ?km5 ?am6 ?im6 ?lm6 ?cm6 ?km6 ?am7 ?im7 ?lm7 ?cm7 ?km7 ?am8 ?im8 ?lm8 ?cm8 ?km8 ?am10 ?im10 ?lm10 ?cm10 ?km10 ?ad14 ?ld14 ?cd14 ?kd14 ?ad15 ?ld15 ?cd15 ?kd15 ?ad17 ?ld17 ?cd17 ?kd17 ?ad25 ?ld25 ?cd25 ?kd25 ?ad26 ?ld26 ?cd26 ?kd26 ?ad27 ?ld27 ?cd27 ?kd27 ?ad28 ?ld28 ?cd28 ?kd28 ?ad29 ?ld29 ?cd29 ?kd29 ?ad30 ?ld30 ?cd30 ?kd30 ?ad31 ?ld31 ?cd31 ?kd31 ?ad32 ?ld32 ?cd32 ?kd32 ?ad33 ?ld33 ?cd33 ?kd33 ?ad34 ?ld34 ?cd34 ?kd34 ?ad35 ?ld35 ?cd35 ?kd35 ?ad36 ?ld36 ?cd36 ?kd36 ?ad37 ?ld37 ?cd37 ?kd37 ?ad38 ?ld38 ?cd38 ?kd38 ?ad39 ?ld39 ?cd39 ?kd39 ?ad41 ?ld41 ?cd41 ?kd41 ?ad42 ?ld42 ?cd42 ?kd42 ?ad43 ?ld43 ?cd43 ?kd43 ?ad44 ?ld44 ?cd44 ?kd44 ?ad45 ?ld45 ?cd45 ?kd45 ?xd45 ?yd45 ?zd45 ?hd45 ?ad46 ?ld46 ?cd46 ?kd46 ?xd46 ?yd46 ?zd46 ?hd46 ?ad47 ?ld47 ?cd47 ?kd47 ?xd47 ?yd47 ?zd47 ?hd47 ?ad48 ?ld48 ?cd48 ?kd48 ?xd48 ?yd48 ?zd48 ?hd48 ?gO ?xO ?kO ?bO ?tO ?iO ?gPr ?xPr ?kPr ?bPr ?tPr ?iPr ?gR ?xR ?kR ?bR ?tR ?iR ?gE ?xE ?saE ?gaE ?ggE ?noE ?inE ?tiE ?lE ?cE ?kE ?bE ?tE ?hdE ?iE ?gT ?xT ?saT ?gaT ?ggT ?noT ?inT ?tiT ?lT ?cT ?kT ?bT ?tT ?hdT ?iT ?wO_O ?wPr_O ?wPr_Pr ?wR_O ?wR_Pr ?wR_R ?wE_O ?wE_Pr ?wE_R ?wE_E ?wT_O ?wT_Pr ?wT_R ?wT_E ?wT_T ?g_MAX_CHOSEN ?g_MAX_PRIME ?g__MAX_PARTITIONED ?g_gcd ?g_isqrt ?g_comb ?z_int ?z_len ?z_abs ?z_max ?z_min ?z_isinstance ?z_bool ?z_str ?z_range ?z_list ?z_tuple ?z_sorted ?z_all ?dT ?nP
    (case aC => k_is)
    (case pg => k_is)
    (case hd => k_is)
    (case po => k_is)
    (case sa => k_is)
    (case mk => k_is)
    (case kC => k_is)
    (case nT => k_is)
    (case nB => k_is)
    (case ca => k_is)
    (case cn => k_is)
    (case ct0 => k_is)
    (case mo => k_is)
    (case iC => k_is)
    (case tC => k_is)
    (case sKn => k_is)
    (case sKb => k_is)
    (case sKi => k_is)
    (case sKs => k_is)
    (case sKt => k_is)
    (case sKl => k_is)
    (case sKd => k_is)
    (case aI0 => k_is)
    (case iI0 => k_is)
    (case lI0 => k_is)
    (case cI0 => k_is)
    (case kI0 => k_is)
    (case lT_ => k_is)
    (case ap2 => k_is)
    (case gp2 => k_is)
    (case tp2 => k_is)
    (case rp2 => k_is)
    (case lp2 => k_is)
    (case cp2 => k_is)
    (case kp2 => k_is)
    (case ap3 => k_is)
    (case gp3 => k_is)
    (case tp3 => k_is)
    (case rp3 => k_is)
    (case lp3 => k_is)
    (case cp3 => k_is)
    (case kp3 => k_is)
    (case am5 => k_is)
    (case im5 => k_is)
    (case lm5 => k_is)
    (case cm5 => k_is)
    (case km5 => k_is)
    (case am6 => k_is)
    (case im6 => k_is)
    (case lm6 => k_is)
    (case cm6 => k_is)
    (case km6 => k_is)
    (case am7 => k_is)
    (case im7 => k_is)
    (case lm7 => k_is)
    (case cm7 => k_is)
    (case km7 => k_is)
    (case am8 => k_is)
    (case im8 => k_is)
    (case lm8 => k_is)
    (case cm8 => k_is)
    (case km8 => k_is)
    (case am10 => k_is)
    (case im10 => k_is)
    (case lm10 => k_is)
    (case cm10 => k_is)
    (case km10 => k_is)
    (case ad14 => k_is)
    (case ld14 => k_is)
    (case cd14 => k_is)
    (case kd14 => k_is)
    (case ad15 => k_is)
    (case ld15 => k_is)
    (case cd15 => k_is)
    (case kd15 => k_is)
    (case ad17 => k_is)
    (case ld17 => k_is)
    (case cd17 => k_is)
    (case kd17 => k_is)
    (case ad25 => k_is)
    (case ld25 => k_is)
    (case cd25 => k_is)
    (case kd25 => k_is)
    (case ad26 => k_is)
    (case ld26 => k_is)
    (case cd26 => k_is)
    (case kd26 => k_is)
    (case ad27 => k_is)
    (case ld27 => k_is)
    (case cd27 => k_is)
    (case kd27 => k_is)
    (case ad28 => k_is)
    (case ld28 => k_is)
    (case cd28 => k_is)
    (case kd28 => k_is)
    (case ad29 => k_is)
    (case ld29 => k_is)
    (case cd29 => k_is)
    (case kd29 => k_is)
    (case ad30 => k_is)
    (case ld30 => k_is)
    (case cd30 => k_is)
    (case kd30 => k_is)
    (case ad31 => k_is)
    (case ld31 => k_is)
    (case cd31 => k_is)
    (case kd31 => k_is)
    (case ad32 => k_is)
    (case ld32 => k_is)
    (case cd32 => k_is)
    (case kd32 => k_is)
    (case ad33 => k_is)
    (case ld33 => k_is)
    (case cd33 => k_is)
    (case kd33 => k_is)
    (case ad34 => k_is)
    (case ld34 => k_is)
    (case cd34 => k_is)
    (case kd34 => k_is)
    (case ad35 => k_is)
    (case ld35 => k_is)
    (case cd35 => k_is)
    (case kd35 => k_is)
    (case ad36 => k_is)
    (case ld36 => k_is)
    (case cd36 => k_is)
    (case kd36 => k_is)
    (case ad37 => k_is)
    (case ld37 => k_is)
    (case cd37 => k_is)
    (case kd37 => k_is)
    (case ad38 => k_is)
    (case ld38 => k_is)
    (case cd38 => k_is)
    (case kd38 => k_is)
    (case ad39 => k_is)
    (case ld39 => k_is)
    (case cd39 => k_is)
    (case kd39 => k_is)
    (case ad41 => k_is)
    (case ld41 => k_is)
    (case cd41 => k_is)
    (case kd41 => k_is)
    (case ad42 => k_is)
    (case ld42 => k_is)
    (case cd42 => k_is)
    (case kd42 => k_is)
    (case ad43 => k_is)
    (case ld43 => k_is)
    (case cd43 => k_is)
    (case kd43 => k_is)
    (case ad44 => k_is)
    (case ld44 => k_is)
    (case cd44 => k_is)
    (case kd44 => k_is)
    (case ad45 => k_is)
    (case ld45 => k_is)
    (case cd45 => k_is)
    (case kd45 => k_is)
    (case xd45 => k_is)
    (case yd45 => rfl)
    (case zd45 => exact Option.isNone_iff_eq_none.mp (by kernel_rfl))
    (case hd45 => exact ⟨PySem.W.codeHd_of_K KX (by kernel_rfl), PySem.W.km_tabs_of Y _ (by decide)⟩)
    (case ad46 => k_is)
    (case ld46 => k_is)
    (case cd46 => k_is)
    (case kd46 => k_is)
    (case xd46 => k_is)
    (case yd46 => rfl)
    (case zd46 => exact Option.isNone_iff_eq_none.mp (by kernel_rfl))
    (case hd46 => exact ⟨PySem.W.codeHd_of_K KX (by kernel_rfl), PySem.W.km_tabs_of Y _ (by decide)⟩)
    (case ad47 => k_is)
    (case ld47 => k_is)
    (case cd47 => k_is)
    (case kd47 => k_is)
    (case xd47 => k_is)
    (case yd47 => rfl)
    (case zd47 => exact Option.isNone_iff_eq_none.mp (by kernel_rfl))
    (case hd47 => exact ⟨PySem.W.codeHd_of_K KX (by kernel_rfl), PySem.W.km_tabs_of Y _ (by decide)⟩)
    (case ad48 => k_is)
    (case ld48 => k_is)
    (case cd48 => k_is)
    (case kd48 => k_is)
    (case xd48 => k_is)
    (case yd48 => rfl)
    (case zd48 => exact Option.isNone_iff_eq_none.mp (by kernel_rfl))
    (case hd48 => exact ⟨PySem.W.codeHd_of_K KX (by kernel_rfl), PySem.W.km_tabs_of Y _ (by decide)⟩)
    (case gO => k_is)
    (case xO => k_exc)
    (case kO => k_is)
    (case bO => k_is)
    (case tO => k_is)
    (case iO => k_is)
    (case gPr => k_is)
    (case xPr => k_exc)
    (case kPr => k_is)
    (case bPr => k_is)
    (case tPr => k_is)
    (case iPr => k_is)
    (case gR => k_is)
    (case xR => k_exc)
    (case kR => k_is)
    (case bR => k_is)
    (case tR => k_is)
    (case iR => k_is)
    (case gE => k_is)
    (case xE => k_is)
    (case saE => k_is)
    (case gaE => k_is)
    (case ggE => k_is)
    (case noE => k_is)
    (case inE => k_is)
    (case tiE => k_is)
    (case lE => k_is)
    (case cE => k_is)
    (case kE => k_is)
    (case bE => k_is)
    (case tE => k_is)
    (case hdE => k_is)
    (case iE => k_is)
    (case gT => k_is)
    (case xT => k_is)
    (case saT => k_is)
    (case gaT => k_is)
    (case ggT => k_is)
    (case noT => k_is)
    (case inT => k_is)
    (case tiT => k_is)
    (case lT => k_is)
    (case cT => k_is)
    (case kT => k_is)
    (case bT => k_is)
    (case tT => k_is)
    (case hdT => k_is)
    (case iT => k_is)
    (case wO_O => k_is)
    (case wPr_O => k_is)
    (case wPr_Pr => k_is)
    (case wR_O => k_is)
    (case wR_Pr => k_is)
    (case wR_R => k_is)
    (case wE_O => k_is)
    (case wE_Pr => k_is)
    (case wE_R => k_is)
    (case wE_E => k_is)
    (case wT_O => k_is)
    (case wT_Pr => k_is)
    (case wT_R => k_is)
    (case wT_E => k_is)
    (case wT_T => k_is)
    (case g_MAX_CHOSEN => k_is)
    (case g_MAX_PRIME => k_is)
    (case g__MAX_PARTITIONED => k_is)
    (case g_gcd => k_is)
    (case g_isqrt => k_is)
    (case g_comb => k_is)
    (case z_int => k_is)
    (case z_len => k_is)
    (case z_abs => k_is)
    (case z_max => k_is)
    (case z_min => k_is)
    (case z_isinstance => k_is)
    (case z_bool => k_is)
    (case z_str => k_is)
    (case z_range => k_is)
    (case z_list => k_is)
    (case z_tuple => k_is)
    (case z_sorted => k_is)
    (case z_all => k_is)
    (case dT => exact ⟨_, _, rfl⟩)
    (case nP => decide)

