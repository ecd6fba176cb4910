import PyProof.Rows.All
import Flt.RightSqrt
import HandS.ClsMeth
import HandS.Conv
import HandS.DeepEq
import HandS.Defaults
import HandS.Dict
import HandS.DictComp
import HandS.DictEq
import HandS.EndTab
import HandS.Ends
import HandS.ExcField
import HandS.ExcInit
import HandS.ExcIs
import HandS.ExcValue
import HandS.ForExc
import HandS.ForMost
import HandS.Gcd
import HandS.IsInst
import HandS.Iter
import HandS.ListItems
import HandS.More
import HandS.OwnEq
import HandS.Property
import HandS.SetFor
import HandS.SlotsOwn
import HandS.SortInts
import HandS.StrMore
import HandS.Strs
import HandS.Style
import HandS.Text
import HandS.Walk
import HandS.Wide
import HandS.WideBits
import HandS.WordsDict
import HandS.WordsExc
import HandS.Zip
import KE.KCallOwn
import KE.KDictList
import KE.KEqNest
import KE.KExcInit
import KE.KExcIs
import KE.KFmtOwn
import KE.KIsAll
import KE.KMathG
import KE.KMathGC
import KE.KNest
import OpenK.AllK
import PyProof.InstNe
import PyProof.InstStoreFacts
import PyProof.NeKinds
import PyProof.Rows.ChunkLeaf
import PyProof.Rows.SetFrom
import Wide.All
import Wide.FinOn
import PySem.Challenge.RW_lawseries_k02_whole_numbers_of_primes_an
set_option Elab.async false
set_option linter.all false
set_option maxRecDepth 100000
set_option maxHeartbeats 4000000
namespace Vx
open PySem PySem.W PySem.Calls PySem.Spec
/-- an own class whose maker is the built-in base B's, B anywhere in its order of bases -/
structure Mkr (B newId : String) (bm : List Value) : Prop where
  facts : ∃ i l, ExcBaseFacts B newId i l
  has : bm.contains (.type B) = true
  noA : bm.contains (.type "AttributeError") = false
  noN : bm.contains (.type "NameError") = false
section
variable {M : Model} {A : Around} {E : Value → Shared → Prop} {h : Heap} {g : Array GenState}
variable {d : Drawn} {t : Nat} {os : OsState} {prog : Program} {w : World} {R : Result → Shared → Prop}
variable {nm q : Str} {C N : Addr} {bs bm : List Value} {hdct : Bool} {sn : List Str} {sub : List Value} {ab : Bool} {col : Option Bool}
variable {dd : Option Addr} {k0 k1 k2 k3 k5 : Option Value} {B newId : String} {rest : List Value} {fI : Addr}
theorem cons_has {X : String} {b : Bool} (e : bm.contains (.type X) = b) :
    (Value.ref C :: bm).contains (.type X) = b := by
  rw [List.contains_cons, e]; cases b <;> rfl
theorem chk (m : Mkr B newId bm) {Q : Unit → Shared → Prop}
    (hC : h.get? C = some (excClassObj nm q C N bs bm hdct sn sub ab col dd k0 k1 k2 k3 k5 newId))
    (hq : Q () ⟨h, g, d, t, os⟩) :
    wpAny M A (checkBuiltinCall newId ⟨.ref C :: rest, []⟩) Q E ⟨h, g, d, t, os⟩ := by
  obtain ⟨i, l, F⟩ := m.facts
  have c1 := cons_has (C := C) m.has
  have c2 := F.noStar
  simp only [checkBuiltinCall, F.newKind, F.newSplit, F.newRow]
  repeat (first
    | refine wpAny_loadPart_at hC ?_
    | (refine wpAny_isSubtype_exc hC ?_; rw [c1])
    | refine wpAny_staticBase_exc hC ?_
    | refine wpAny_madeBy_exc hC ?_
    | simp only [bne_self_eq_false, Bool.false_eq_true, if_false]
    | wp_step)
  exact hq
theorem mkN (m : Mkr B newId bm) (hr : rest.length ≤ sizeLine)
    (hC : h.get? C = some (excClassObj nm q C N bs bm hdct sn sub ab col dd k0 k1 k2 k3 k5 newId))
    (hq : R (.ok (.ret (.ref (h.objs.size + 1))))
      ⟨(h.push (kdv_tup rest)).push (PX.excO C h.objs.size), g, d, t, os⟩) :
    codeAny (model prog w) A (.builtin newId ⟨.ref C :: rest, []⟩) R ⟨h, g, d, t, os⟩ := by
  obtain ⟨i, l, F⟩ := m.facts
  have e0 := F.ends
  have c1 := cons_has (C := C) m.has
  have c2 := cons_has (C := C) m.noA
  have c3 := cons_has (C := C) m.noN
  refine codeAny_builtinAt F.entry ?_
  unfold Builtin.«BaseException.__new__»
  refine wpAt_bind ?_
  show wpAt _ _ _ (stack >>= _) _ _ _
  refine wpAt_bind (wpAt_stack fun p below => wpAt_of_wpAny ?_)
  wp_walk
  refine wpAt_of_wpAny ?_
  rw [F.owner]
  repeat (first
    | with_reducible refine wpAny_madeHere_exc F.canon hC ?_
    | with_reducible refine wpAny_loadPart_at hC ?_
    | (with_reducible refine wpAny_isSubtype_exc hC ?_; first | rw [c1] | rw [c2] | rw [c3])
    | wp_step)
  show R _ _
  rw [Heap.size_push]
  exact hq
theorem tyCall (m : Mkr B newId bm) {Q : Fin → Shared → Prop} (hr : rest.length ≤ sizeLine)
    (hC : h.get? C = some (excClassObj nm q C N bs bm hdct sn sub ab col dd k0 k1 k2 k3 k5 newId))
    (hi : Looks (model prog w) h (typeLookup (.ref C) "__init__") (some (.ref fI)))
    (hb : ∀ self, Looks (model prog w) h (bindSpecial (.ref fI) self) (.ref fI, [self]))
    (hq : codeAny (model prog w) A (.call (.ref fI) ⟨.ref (h.objs.size + 1) :: rest, []⟩)
      (fun r s' => match r with
        | .ok (.ret v) => v = .none ∧ Q (.done (.ret (.ref (h.objs.size + 1)))) s'
        | .ok _ => False
        | .error e => E e s')
      ⟨(h.push (kdv_tup rest)).push (PX.excO C h.objs.size), g, d, t, os⟩) :
    wpAny (model prog w) A (Builtin.«type.__call__» ⟨.ref C :: rest, []⟩) Q E ⟨h, g, d, t, os⟩ := by
  obtain ⟨i, l, F⟩ := m.facts
  repeat (first
    | with_reducible refine wpAny_loadPart_at hC ?_
    | with_reducible refine wpAny_madeBy_exc hC ?_
    | wp_step)
  refine codeAny_call_builtin_code (Code.quiet_builtin _ F.quiet) (chk m hC ?_)
  refine mkN m hr hC ?_
  show wpAny _ _ _ _ _ _
  have kp : ∀ b o, h.get? b = some o → ((h.push (kdv_tup rest)).push (PX.excO C h.objs.size)).get? b = some o :=
    fun b o e => Heap.get?_push_of_some _ (Heap.get?_push_of_some _ e)
  have hC1 := kp _ _ hC
  have hg : ((h.push (kdv_tup rest)).push (PX.excO C h.objs.size)).get? (h.objs.size + 1) = some (PX.excO C h.objs.size) := by
    heap_get
  have cC : (Value.ref C :: bm).contains (.ref C) = true := by simp
  have i1 := hi.keeps kp
  have b1 := (hb (.ref (h.objs.size + 1))).keeps kp
  unfold isInstance
  repeat (first
    | with_reducible refine wpAny_loadPart_at hg ?_
    | (with_reducible refine wpAny_isSubtype_exc hC1 ?_; rw [cC])
    | wp_step)
  show wpAny _ _ (typeLookup (.ref C) _) _ _ _
  refine i1.at (wpAny_holding (wpAny_bind (b1.at ?_)))
  refine wpAny_bind (wpAny_call (codeAny_mono hq fun r s' z => ?_))
  rcases r with e | (v | _ | _ | _) <;> first | exact z | exact z.elim | skip
  obtain ⟨rfl, z⟩ := z
  first
    | exact wpAny_pure (wpAny_pure z)
    | (wp_walk; exact z)
theorem clsCall (m : Mkr B newId bm) (hr : rest.length ≤ sizeLine)
    (hC : h.get? C = some (excClassObj nm q C N bs bm hdct sn sub ab col dd k0 k1 k2 k3 k5 newId))
    (hi : Looks (model prog w) h (typeLookup (.ref C) "__init__") (some (.ref fI)))
    (hb : ∀ self, Looks (model prog w) h (bindSpecial (.ref fI) self) (.ref fI, [self]))
    (hq : codeAny (model prog w) (A.under (.builtin "type.__call__" ⟨.ref C :: rest, []⟩))
      (.call (.ref fI) ⟨.ref (h.objs.size + 1) :: rest, []⟩) (InitBack (h.objs.size + 1) R)
      ⟨(h.push (kdv_tup rest)).push (PX.excO C h.objs.size), g, d, t, os⟩) :
    codeAny (model prog w) A (.call (.ref C) ⟨rest, []⟩) R ⟨h, g, d, t, os⟩ := by
  have f1 := tc_lookup
  have f2 := tc_bind (.ref C)
  have hTy : (⟨h, g, d, t, os⟩ : Shared).TypeIs (.ref C) "type" := ⟨_, hC, rfl⟩
  refine codeAny_of_tree ?_
  show wpAny _ _ (callAny (.ref C) _) _ _ _
  repeat (any_goals (first
    | assumption
    | with_reducible refine wpAny_loadPart_at hC ?_
    | wp_step))
  refine ⟨rfl, codeAny_call_builtin_at (Code.quiet_builtin _ (by decide +kernel)) entry_typeCall ?_⟩
  refine wpAny_check_type_call_sub hC (tyCall m hr hC hi hb (codeAny_mono hq fun r s' z => ?_))
  rcases r with e | (v | _ | _ | _) <;> exact z
end
/-- of a built-in class: its attribute __setattr__ is object's -/
theorem store_KeyE : StoreFacts "KeyError"
    [.type "KeyError", .type "LookupError", .type "Exception", .type "BaseException", .type "object"]
    "object.__setattr__" "object" := by
  constructor
  case mro => kernel_rfl
  case slot =>
    exact .of (owner := "object") (n := "__setattr__")
      (by rw [typeLookup_type, builtinLookup_eq_fast]; kernel_rfl)
      (by decide +kernel) (by decide +kernel) (by decide +kernel)
      (by first | exact .inl (by decide +kernel) | exact .inr (by decide +kernel))
      (by rw [isSubtype_type]; kernel_rfl)
  case entry => exact F.store_IndexError.entry
  case kind => decide +kernel
  case split => decide +kernel
  case hasOwner => decide +kernel
  case args => exact F.store_IndexError.args
  case passes => intro _; kernel_rfl
end Vx

set_option Elab.async false
set_option linter.all false
set_option maxRecDepth 100000
set_option maxHeartbeats 4000000
namespace Vx
open PySem PySem.W PySem.Calls PyProof.Rows PySem.Spec Builtin Builtin.ObjectAttr
/-- what an __init__ that stores its one argument leaves of a fresh error at x -/
structure Left (h h' : Heap) (x C dx t1 : Addr) (f : Str) (v : Value) : Prop where
  keep : ∀ b o, b ≠ x → h.get? b = some o → h'.get? b = some o
  obj : h'.get? x = some { cls := .ref C, dict := some dx, data := .fields #[.ref t1, .none, .none, .none, .bool false, .none] }
  big : h.objs.size ≤ dx
  ne : dx ≠ x
  ns : h'.Ns1 dx (fun y => if y = f then some v else none)
/-- a store into an error that has no dict as yet, whatever its built-in base is -/
theorem osaN {prog : Program} {w : World} {A : Around} {R : Result → Shared → Prop} {hp : Heap} {g : Array GenState}
    {d : Drawn} {t : Nat} {os : OsState} {K : Frag} {name : Str} {tk : Tok} {v : Value} {x C t0 : Addr} {B : String} {bmB : List Value}
    (SF : StoreFacts B bmB "object.__setattr__" "object") (X : K.In hp) (hx : hp.get? x = some (PX.excO C t0))
    (ov : excOver K C bmB = true) (no : findIn K (.ref C) name = some none) (hh : hasDictIn K C = true)
    (hq : ∀ h' tk' dx, Left hp h' x C dx t0 name v → R (.ok (.ret .none)) ⟨h', g, d, tk', os⟩) :
    codeAny (model prog w) A (.call (.builtin "object.__setattr__") ⟨[.ref x, .str name tk, v], []⟩) R ⟨hp, g, d, t, os⟩ := by
  have tn : takerIn K C name = some none := by unfold takerIn; rw [no]; rfl
  have xs : x ≠ hp.objs.size := Nat.ne_of_lt (Heap.lt_size hx)
  refine osa_openX (s := ⟨hp, g, d, t, os⟩) (od := none) SF X ⟨hx, rfl, rfl, trivial⟩ ov tn fun b => ?_
  obtain ⟨cd, hc, hd⟩ := any_some hh
  refine wpAny_bind (wpAny_pure (wpAny_bind (instanceDict_exc (s := ⟨hp, g, d, t, os⟩) hx (looks_clsIn X hc) hd ?_)))
  show wpAny _ _ (storeInDict hp.objs.size (.str name tk) name v) _ _ _
  refine PX.store_in_new ?_ fun h' tk' hn hs => ?_
  · exact ⟨_, #[], _, (Heap.get?_update_ne _ _ _ _ xs.symm).trans (Heap.get?_push_at rfl rfl), rfl,
      fun e he => absurd he (by simp), fun _ => rfl⟩
  · have hx1 : (hp.push (dictOf [] 0)).get? x = some (PX.excO C t0) := Heap.get?_push_of_some _ hx
    refine hq h' tk' hp.objs.size ⟨fun b o hb ho => ?_, ?_, Nat.le_refl _, xs.symm, hn⟩
    · exact (hs.2 b (Nat.ne_of_lt (Heap.lt_size ho))).trans
        ((Heap.get?_update_ne _ _ _ _ hb).trans (Heap.get?_push_of_some _ ho))
    · exact (hs.2 x xs).trans (Heap.get?_update_self _ hx1 rfl)
theorem ldL {M : Model} {s : Shared} {name : Str} {scope : Scope} {L a : Addr} {cd : Value} {m : Str → Option Value} {x : Str} {pos : Pos}
    {v : Value} {Q : Value → Shared → Prop} {A : Around} {E : Value → Shared → Prop} (hn : s.heap.Ns L m) (hv : m x = some v) (h : Q v s)
    (hk : scope.kind = .function := by rfl) (hl : (envOfC name scope L a cd).kindOf x = some .local := by rfl)
    (hd : (x == ("__debug__" : Str)) = false := by decide) :
    wpAny M A (eval (.Name x pos) (envOfC name scope L a cd)) Q E s :=
  wpAny_Name (wpAny_loadName_local hk hl hn hv h) hd
/-- the __init__ at fI stores its argument as f -/
def InitOk (K : Frag) (C fI : Addr) (f : Str) : Prop :=
  ∀ (prog : Program) (w : World) (A : Around) (R : Result → Shared → Prop) (s : Shared) (x t0 : Addr) (v : Value),
    K.In s.heap → s.heap.NoLimit → s.heap.get? x = some (PX.excO C t0) → A.depth < recursionLimit →
    (∀ h' tk dx, Left s.heap h' x C dx t0 f v → R (.ok (.ret .none)) { s with heap := h', toks := tk }) →
    codeAny (model prog w) A (.call (.ref fI) ⟨[.ref x, v], []⟩) R s
/-- what the written part says of an error class whose own __init__ stores one field -/
structure ECls (K : Frag) (mg : Str → Option Value) (cn f : Str) (B newId : String) (bmB : List Value) (C fI : Addr) : Prop where
  gC : mg cn = some (.ref C)
  cls : ∃ nm q N bs bm sn sub ab col dd k0 k1 k2 k3 k5,
    K.lookup C = some (excClassObj nm q C N bs bm true sn sub ab col dd k0 k1 k2 k3 k5 newId) ∧ excTail bmB bm = true
  base : ∃ i l, ExcBaseFacts B newId i l
  hB : bmB.contains (.type B) = true ∧ bmB.contains (.type "AttributeError") = false ∧ bmB.contains (.type "NameError") = false
  ga : findIn K (.ref C) "__getattribute__" = some (some (.builtin "BaseException.__getattribute__"))
  gg : findIn K (.ref C) "__getattr__" = some none
  no : findIn K (.ref C) f = some none
  iC : findIn K (.ref C) "__init__" = some (some (.ref fI))
  tI : typeIn K (.ref fI) = some (.type "function")
  kC : keepIn K (.ref C) = true
  exC : subIn K (.ref C) (.type "BaseException") = some true
  tyC : typeIn K (.ref C) = some (.type "type")
  hd : hasDictIn K C = true
  init : InitOk K C fI f
theorem over_of {K : Frag} {C : Addr} {nm q N bs bm sn sub ab col dd k0 k1 k2 k3 k5 newId bmB}
    (e : K.lookup C = some (excClassObj nm q C N bs bm true sn sub ab col dd k0 k1 k2 k3 k5 newId)) (t : excTail bmB bm = true) :
    excOver K C bmB = true := by
  have c : clsIn K C = some { name := nm, bases := bs, mro := .ref C :: bm, ns := N, qualname := q, hasDict := true, slotNames := sn, subclasses := sub, abstract := ab, collection := col, hasDel := false } := by
    unfold clsIn; rw [e] <;> rfl
  unfold excOver
  rw [c]
  show (C == C && excTail bmB bm) = true
  rw [t, beq_self_eq_true, Bool.and_true]
def iArgs (f : Str) (p1 p2 : Pos) : Arguments :=
  { posonlyargs := [], args := [{ arg := "self", annotation := none, pos := p1 }, { arg := f, annotation := none, pos := p2 }],
    vararg := none, kwonlyargs := [], kw_defaults := [], kwarg := none, defaults := [] }
def iBody (f : Str) (q1 q2 q3 q4 : Pos) : List Stmt := [.Assign [.Attribute (.Name "self" q1) f q2] (.Name f q3) q4]
def iScope (f : Str) : Scope :=
  { kind := .function, names := [(PySem.Str.ofString "self", .local), (f, .local)], isGenerator := false, isCoroutine := false, more := [] }
theorem init_value {K : Frag} {C fI : Addr} {B : String} {bmB : List Value} {qn : Str} (SF : StoreFacts B bmB "object.__setattr__" "object")
    (ov : excOver K C bmB = true) (no : findIn K (.ref C) "value" = some none) (hh : hasDictIn K C = true)
    (sa : findIn K (.ref C) "__setattr__" = some (some (.builtin "object.__setattr__")))
    {oc doc pm cdv ct kV : Value} {od an : Option Addr} {osl : Array (Option Value)} {p1 p2 q1 q2 q3 q4 : Pos}
    (ho : K.lookup fI = some ⟨oc, od, .func (fnOf "__init__" qn (iArgs "value" p1 p2) (iBody "value" q1 q2 q3 q4) (iScope "value") .none kV doc pm an cdv ct), osl⟩)
    (hc : codeIn K cdv qn = true) : InitOk K C fI "value" := by
  intro prog w A R s x t0 v X lim hx room hq
  refine Att.call_fn (binds := [("self", .ref x), ("value", v)]) X lim ho hc room (BindsTo.of_eq (by first | rfl | with_unfolding_all rfl)) (by first | rfl | decide | with_unfolding_all rfl) (fun s1 IC => ?_) rfl rfl rfl
  obtain ⟨h1, tk1, rfl⟩ := IC.toInCall.same
  have k : ∀ b o, s.heap.get? b = some o → h1.get? b = some o := IC.toInCall.keep
  have hn := IC.toInCall.ns
  have X1 : K.In h1 := X.keeps k
  have hx1 := k _ _ hx
  show wpAny _ _ (execs _ _) _ _ _
  refine wpAny_execs_cons (plainObj_wpAny_Assign_Attribute ?_)
  refine ldL (v := v) hn (by first | rfl | with_unfolding_all rfl | kernel_rfl) (ldL (v := .ref x) hn (by first | rfl | with_unfolding_all rfl | kernel_rfl) ?_)
  refine set_plain X1 (ox := PX.excO C t0) (od := none) ⟨hx1, rfl, rfl, trivial⟩ sa ?_
  refine osaN SF X1 hx1 ov no hh fun h3 tk3 dx Z => ?_
  show wpAny _ _ (execs _ _) _ _ _
  have z : s.heap.objs.size < h1.objs.size := hn.lt
  exact wpAny_execs_nil (hq h3 tk3 dx ⟨fun b o hb e => Z.keep b o hb (k b o e), Z.obj, Nat.le_of_lt (Nat.lt_of_lt_of_le z Z.big), Z.ne, Z.ns⟩)
theorem init_spot {K : Frag} {C fI : Addr} {B : String} {bmB : List Value} {qn : Str} (SF : StoreFacts B bmB "object.__setattr__" "object")
    (ov : excOver K C bmB = true) (no : findIn K (.ref C) "spot" = some none) (hh : hasDictIn K C = true)
    (sa : findIn K (.ref C) "__setattr__" = some (some (.builtin "object.__setattr__")))
    {oc doc pm cdv ct kV : Value} {od an : Option Addr} {osl : Array (Option Value)} {p1 p2 q1 q2 q3 q4 : Pos}
    (ho : K.lookup fI = some ⟨oc, od, .func (fnOf "__init__" qn (iArgs "spot" p1 p2) (iBody "spot" q1 q2 q3 q4) (iScope "spot") .none kV doc pm an cdv ct), osl⟩)
    (hc : codeIn K cdv qn = true) : InitOk K C fI "spot" := by
  intro prog w A R s x t0 v X lim hx room hq
  refine Att.call_fn (binds := [("self", .ref x), ("spot", v)]) X lim ho hc room (BindsTo.of_eq (by first | rfl | with_unfolding_all rfl)) (by first | rfl | decide | with_unfolding_all rfl) (fun s1 IC => ?_) rfl rfl rfl
  obtain ⟨h1, tk1, rfl⟩ := IC.toInCall.same
  have k : ∀ b o, s.heap.get? b = some o → h1.get? b = some o := IC.toInCall.keep
  have hn := IC.toInCall.ns
  have X1 : K.In h1 := X.keeps k
  have hx1 := k _ _ hx
  show wpAny _ _ (execs _ _) _ _ _
  refine wpAny_execs_cons (plainObj_wpAny_Assign_Attribute ?_)
  refine ldL (v := v) hn (by first | rfl | with_unfolding_all rfl | kernel_rfl) (ldL (v := .ref x) hn (by first | rfl | with_unfolding_all rfl | kernel_rfl) ?_)
  refine set_plain X1 (ox := PX.excO C t0) (od := none) ⟨hx1, rfl, rfl, trivial⟩ sa ?_
  refine osaN SF X1 hx1 ov no hh fun h3 tk3 dx Z => ?_
  show wpAny _ _ (execs _ _) _ _ _
  have z : s.heap.objs.size < h1.objs.size := hn.lt
  exact wpAny_execs_nil (hq h3 tk3 dx ⟨fun b o hb e => Z.keep b o hb (k b o e), Z.obj, Nat.le_of_lt (Nat.lt_of_lt_of_le z Z.big), Z.ne, Z.ns⟩)
theorem init_name {K : Frag} {C fI : Addr} {B : String} {bmB : List Value} {qn : Str} (SF : StoreFacts B bmB "object.__setattr__" "object")
    (ov : excOver K C bmB = true) (no : findIn K (.ref C) "name" = some none) (hh : hasDictIn K C = true)
    (sa : findIn K (.ref C) "__setattr__" = some (some (.builtin "object.__setattr__")))
    {oc doc pm cdv ct kV : Value} {od an : Option Addr} {osl : Array (Option Value)} {p1 p2 q1 q2 q3 q4 : Pos}
    (ho : K.lookup fI = some ⟨oc, od, .func (fnOf "__init__" qn (iArgs "name" p1 p2) (iBody "name" q1 q2 q3 q4) (iScope "name") .none kV doc pm an cdv ct), osl⟩)
    (hc : codeIn K cdv qn = true) : InitOk K C fI "name" := by
  intro prog w A R s x t0 v X lim hx room hq
  refine Att.call_fn (binds := [("self", .ref x), ("name", v)]) X lim ho hc room (BindsTo.of_eq (by first | rfl | with_unfolding_all rfl)) (by first | rfl | decide | with_unfolding_all rfl) (fun s1 IC => ?_) rfl rfl rfl
  obtain ⟨h1, tk1, rfl⟩ := IC.toInCall.same
  have k : ∀ b o, s.heap.get? b = some o → h1.get? b = some o := IC.toInCall.keep
  have hn := IC.toInCall.ns
  have X1 : K.In h1 := X.keeps k
  have hx1 := k _ _ hx
  show wpAny _ _ (execs _ _) _ _ _
  refine wpAny_execs_cons (plainObj_wpAny_Assign_Attribute ?_)
  refine ldL (v := v) hn (by first | rfl | with_unfolding_all rfl | kernel_rfl) (ldL (v := .ref x) hn (by first | rfl | with_unfolding_all rfl | kernel_rfl) ?_)
  refine set_plain X1 (ox := PX.excO C t0) (od := none) ⟨hx1, rfl, rfl, trivial⟩ sa ?_
  refine osaN SF X1 hx1 ov no hh fun h3 tk3 dx Z => ?_
  show wpAny _ _ (execs _ _) _ _ _
  have z : s.heap.objs.size < h1.objs.size := hn.lt
  exact wpAny_execs_nil (hq h3 tk3 dx ⟨fun b o hb e => Z.keep b o hb (k b o e), Z.obj, Nat.le_of_lt (Nat.lt_of_lt_of_le z Z.big), Z.ne, Z.ns⟩)
theorem init_wanted {K : Frag} {C fI : Addr} {B : String} {bmB : List Value} {qn : Str} (SF : StoreFacts B bmB "object.__setattr__" "object")
    (ov : excOver K C bmB = true) (no : findIn K (.ref C) "wanted" = some none) (hh : hasDictIn K C = true)
    (sa : findIn K (.ref C) "__setattr__" = some (some (.builtin "object.__setattr__")))
    {oc doc pm cdv ct kV : Value} {od an : Option Addr} {osl : Array (Option Value)} {p1 p2 q1 q2 q3 q4 : Pos}
    (ho : K.lookup fI = some ⟨oc, od, .func (fnOf "__init__" qn (iArgs "wanted" p1 p2) (iBody "wanted" q1 q2 q3 q4) (iScope "wanted") .none kV doc pm an cdv ct), osl⟩)
    (hc : codeIn K cdv qn = true) : InitOk K C fI "wanted" := by
  intro prog w A R s x t0 v X lim hx room hq
  refine Att.call_fn (binds := [("self", .ref x), ("wanted", v)]) X lim ho hc room (BindsTo.of_eq (by first | rfl | with_unfolding_all rfl)) (by first | rfl | decide | with_unfolding_all rfl) (fun s1 IC => ?_) rfl rfl rfl
  obtain ⟨h1, tk1, rfl⟩ := IC.toInCall.same
  have k : ∀ b o, s.heap.get? b = some o → h1.get? b = some o := IC.toInCall.keep
  have hn := IC.toInCall.ns
  have X1 : K.In h1 := X.keeps k
  have hx1 := k _ _ hx
  show wpAny _ _ (execs _ _) _ _ _
  refine wpAny_execs_cons (plainObj_wpAny_Assign_Attribute ?_)
  refine ldL (v := v) hn (by first | rfl | with_unfolding_all rfl | kernel_rfl) (ldL (v := .ref x) hn (by first | rfl | with_unfolding_all rfl | kernel_rfl) ?_)
  refine set_plain X1 (ox := PX.excO C t0) (od := none) ⟨hx1, rfl, rfl, trivial⟩ sa ?_
  refine osaN SF X1 hx1 ov no hh fun h3 tk3 dx Z => ?_
  show wpAny _ _ (execs _ _) _ _ _
  have z : s.heap.objs.size < h1.objs.size := hn.lt
  exact wpAny_execs_nil (hq h3 tk3 dx ⟨fun b o hb e => Z.keep b o hb (k b o e), Z.obj, Nat.le_of_lt (Nat.lt_of_lt_of_le z Z.big), Z.ne, Z.ns⟩)
theorem init_limit {K : Frag} {C fI : Addr} {B : String} {bmB : List Value} {qn : Str} (SF : StoreFacts B bmB "object.__setattr__" "object")
    (ov : excOver K C bmB = true) (no : findIn K (.ref C) "limit" = some none) (hh : hasDictIn K C = true)
    (sa : findIn K (.ref C) "__setattr__" = some (some (.builtin "object.__setattr__")))
    {oc doc pm cdv ct kV : Value} {od an : Option Addr} {osl : Array (Option Value)} {p1 p2 q1 q2 q3 q4 : Pos}
    (ho : K.lookup fI = some ⟨oc, od, .func (fnOf "__init__" qn (iArgs "limit" p1 p2) (iBody "limit" q1 q2 q3 q4) (iScope "limit") .none kV doc pm an cdv ct), osl⟩)
    (hc : codeIn K cdv qn = true) : InitOk K C fI "limit" := by
  intro prog w A R s x t0 v X lim hx room hq
  refine Att.call_fn (binds := [("self", .ref x), ("limit", v)]) X lim ho hc room (BindsTo.of_eq (by first | rfl | with_unfolding_all rfl)) (by first | rfl | decide | with_unfolding_all rfl) (fun s1 IC => ?_) rfl rfl rfl
  obtain ⟨h1, tk1, rfl⟩ := IC.toInCall.same
  have k : ∀ b o, s.heap.get? b = some o → h1.get? b = some o := IC.toInCall.keep
  have hn := IC.toInCall.ns
  have X1 : K.In h1 := X.keeps k
  have hx1 := k _ _ hx
  show wpAny _ _ (execs _ _) _ _ _
  refine wpAny_execs_cons (plainObj_wpAny_Assign_Attribute ?_)
  refine ldL (v := v) hn (by first | rfl | with_unfolding_all rfl | kernel_rfl) (ldL (v := .ref x) hn (by first | rfl | with_unfolding_all rfl | kernel_rfl) ?_)
  refine set_plain X1 (ox := PX.excO C t0) (od := none) ⟨hx1, rfl, rfl, trivial⟩ sa ?_
  refine osaN SF X1 hx1 ov no hh fun h3 tk3 dx Z => ?_
  show wpAny _ _ (execs _ _) _ _ _
  have z : s.heap.objs.size < h1.objs.size := hn.lt
  exact wpAny_execs_nil (hq h3 tk3 dx ⟨fun b o hb e => Z.keep b o hb (k b o e), Z.obj, Nat.le_of_lt (Nat.lt_of_lt_of_le z Z.big), Z.ne, Z.ns⟩)
theorem init_reason {K : Frag} {C fI : Addr} {B : String} {bmB : List Value} {qn : Str} (SF : StoreFacts B bmB "object.__setattr__" "object")
    (ov : excOver K C bmB = true) (no : findIn K (.ref C) "reason" = some none) (hh : hasDictIn K C = true)
    (sa : findIn K (.ref C) "__setattr__" = some (some (.builtin "object.__setattr__")))
    {oc doc pm cdv ct kV : Value} {od an : Option Addr} {osl : Array (Option Value)} {p1 p2 q1 q2 q3 q4 : Pos}
    (ho : K.lookup fI = some ⟨oc, od, .func (fnOf "__init__" qn (iArgs "reason" p1 p2) (iBody "reason" q1 q2 q3 q4) (iScope "reason") .none kV doc pm an cdv ct), osl⟩)
    (hc : codeIn K cdv qn = true) : InitOk K C fI "reason" := by
  intro prog w A R s x t0 v X lim hx room hq
  refine Att.call_fn (binds := [("self", .ref x), ("reason", v)]) X lim ho hc room (BindsTo.of_eq (by first | rfl | with_unfolding_all rfl)) (by first | rfl | decide | with_unfolding_all rfl) (fun s1 IC => ?_) rfl rfl rfl
  obtain ⟨h1, tk1, rfl⟩ := IC.toInCall.same
  have k : ∀ b o, s.heap.get? b = some o → h1.get? b = some o := IC.toInCall.keep
  have hn := IC.toInCall.ns
  have X1 : K.In h1 := X.keeps k
  have hx1 := k _ _ hx
  show wpAny _ _ (execs _ _) _ _ _
  refine wpAny_execs_cons (plainObj_wpAny_Assign_Attribute ?_)
  refine ldL (v := v) hn (by first | rfl | with_unfolding_all rfl | kernel_rfl) (ldL (v := .ref x) hn (by first | rfl | with_unfolding_all rfl | kernel_rfl) ?_)
  refine set_plain X1 (ox := PX.excO C t0) (od := none) ⟨hx1, rfl, rfl, trivial⟩ sa ?_
  refine osaN SF X1 hx1 ov no hh fun h3 tk3 dx Z => ?_
  show wpAny _ _ (execs _ _) _ _ _
  have z : s.heap.objs.size < h1.objs.size := hn.lt
  exact wpAny_execs_nil (hq h3 tk3 dx ⟨fun b o hb e => Z.keep b o hb (k b o e), Z.obj, Nat.le_of_lt (Nat.lt_of_lt_of_le z Z.big), Z.ne, Z.ns⟩)
/-- a made error -/
structure Made (h h' : Heap) (e C d : Addr) (f : Str) (v : Value) : Prop where
  keep : ∀ b o, h.get? b = some o → h'.get? b = some o
  new : h.objs.size ≤ e
  obj : ∃ t1 : Addr, h'.get? e = some { cls := .ref C, dict := some d, data := .fields #[.ref t1, .none, .none, .none, .bool false, .none] }
  big : h.objs.size ≤ d
  ne : d ≠ e
  ns : h'.Ns1 d (fun y => if y = f then some v else none)
theorem one_fits (v : Value) : [v].length ≤ sizeLine := by
  rw [sizeLine_eq]; exact (by decide : 1 ≤ 16777216)
section
variable {prog : Program} {w : World} {A : Around} {R : Result → Shared → Prop} {s : Shared} {K : Frag} {mg : Str → Option Value}
variable {cn f : Str} {B newId : String} {bmB : List Value} {C fI : Addr}
theorem made (T : ECls K mg cn f B newId bmB C fI) {v : Value} (X : K.In s.heap) (lim : s.heap.NoLimit) (room : A.depth + 1 < recursionLimit)
    (hq : ∀ h' tk e d, Made s.heap h' e C d f v → R (.ok (.ret (.ref e))) { s with heap := h', toks := tk }) :
    codeAny (model prog w) A (.call (.ref C) ⟨[v], []⟩) R s := by
  obtain ⟨nm, q, N, bs, bm, sn, sub, ab, col, dd, k0, k1, k2, k3, k5, hC, hbm⟩ := T.cls
  have m : Mkr B newId bm := ⟨T.base, (excTail_contains _ bm hbm).trans T.hB.1, (excTail_contains _ bm hbm).trans T.hB.2.1, (excTail_contains _ bm hbm).trans T.hB.2.2⟩
  obtain ⟨hp, g, dr, tk, os⟩ := s
  have k : ∀ b o, hp.get? b = some o → ((hp.push (kdv_tup [v])).push (PX.excO C hp.objs.size)).get? b = some o :=
    fun b o e => Heap.get?_push_of_some _ (Heap.get?_push_of_some _ e)
  have hg : ((hp.push (kdv_tup [v])).push (PX.excO C hp.objs.size)).get? (hp.objs.size + 1) = some (PX.excO C hp.objs.size) := by
    heap_get
  refine clsCall m (one_fits v) (X _ _ hC) (looks_findIn X T.iC) (fun self => bind_fn X self T.tI) ?_
  refine T.init prog w _ _ ⟨(hp.push (kdv_tup [v])).push (PX.excO C hp.objs.size), g, dr, tk, os⟩ _ _ v (X.keeps k) (lim.keeps k) hg ?_ fun h' tk' dx Z => ?_
  · show A.depth + 1 < recursionLimit
    exact room
  · have old : ∀ b o, hp.get? b = some o → h'.get? b = some o := fun b o e =>
      Z.keep b o (Nat.ne_of_lt (Nat.lt_succ_of_lt (Heap.lt_size e))) (k b o e)
    have z : hp.objs.size + 1 + 1 ≤ dx := by
      have q := Z.big
      first
        | exact q
        | (simpa only [Heap.size_push] using q)
    exact ⟨rfl, hq h' tk' (hp.objs.size + 1) dx ⟨old, Nat.le_succ _, ⟨_, Z.obj⟩, Nat.le_trans (Nat.le_trans (Nat.le_succ _) (Nat.le_succ _)) z, Z.ne, Z.ns⟩⟩
end
end Vx

set_option Elab.async false
set_option linter.all false
set_option maxRecDepth 100000
set_option maxHeartbeats 4000000
namespace Vx
open PySem PySem.Spec PyProof.Rows L2
/-- at a: an error of the class at C, its own dict at d, held as a value -/
def ErrD (C d a : Addr) : HO := .ext fun h => ∃ t1 : Addr,
  h.get? a = some ({ cls := .ref C, dict := some d, data := .fields #[.ref t1, .none, .none, .none, .bool false, .none] } : Obj)
theorem errD_ok {P : Program} {w : World} {H : Hp} {h : Heap} {C d a t1 : Addr}
    (e : h.get? a = some ({ cls := .ref C, dict := some d, data := .fields #[.ref t1, .none, .none, .none, .bool false, .none] } : Obj)) :
    ObjOk P w H h a (ErrD C d a) :=
  ⟨⟨t1, e⟩, ⟨_, e⟩, fun _ _ ⟨t, q⟩ k => ⟨t, k _ q⟩⟩
theorem errD_at {P : Program} {w : World} {H : Hp} {h : Heap} {C d a : Addr} (hok : HOk P w H h) (he : H a = some (ErrD C d a)) :
    ∃ t1 : Addr, h.get? a = some ({ cls := .ref C, dict := some d, data := .fields #[.ref t1, .none, .none, .none, .bool false, .none] } : Obj) := by
  have x : ObjOk P w H h a (.ext fun h => ∃ t1 : Addr, h.get? a = some ({ cls := .ref C, dict := some d, data := .fields #[.ref t1, .none, .none, .none, .bool false, .none] } : Obj)) := hok a _ he
  exact x.1
theorem rel_one {f : Str} {y : V} {u : Value} (r : RelV y u) (g : Str) :
    RelO ([(f, y)].lookup g) (if g = f then some u else none) :=
  relO_put (fs := []) (mA := fun _ => none) r (fun _ => True.intro) g
section
variable {X : Cx} {cn f : Str} {B newId : String} {bmB : List Value} {C fI : Addr}
/-- C(e), held as a value -/
def tMkV (C : Addr) (f : Str) (te : TE) : TE := fun σ H Q => te σ H fun v H1 =>
  ∀ a d : Addr, H1 a = none → H1 d = none → d ≠ a → Q (.ref a) (upd (upd H1 d (.xd [(f, v)])) a (ErrD C d a))
theorem pe_mkV {e : Expr} {te : TE} {p pos : Pos} {k : Nat} (T : ECls X.K X.mg cn f B newId bmB C fI) (hr : Room k X.A)
    (he : PE X e te) (hg : Gl X cn := by rfl) (hdb : (cn == ("__debug__" : Str)) = false := by decide)
    (hs : starEach [e] X.env = (false, eval e X.env) :: starEach [] X.env := by rfl) :
    PE X (.Call (.Name cn p) [e] [] pos) (tMkV C f te) := by
  refine ⟨fun pins s σ H Q I h => ?_⟩
  refine wpAny_Call_Name_kw (ld_glob I hg T.gC ?_ hdb)
  refine PySem.W.callWith_K (h₀ := X.base) I.ok.mod.kin T.kC ?_ hs (by rfl)
  rw [hs]
  show wpAny _ _ (spliced ((false, eval e X.env) :: backTo pos (starEach [] X.env))) _ _ s
  refine Calls.spliced_cons (thn (he.run pins s σ H _ I h) fun u s1 ⟨v, H1, I1, rv, q1⟩ => ?_)
  refine Calls.spliced_nil ⟨I1.kIn, ?_⟩
  show wpAny _ _ (call (.ref C) [u]) _ _ _
  have lim := I1.nolimit
  obtain ⟨hp, g, dr, tk, os⟩ := s1
  refine wpAny_call (made T I1.kIn lim (by have := hr.dp; omega) fun h' tk' e d M => ?_)
  obtain ⟨t1, ho⟩ := M.obj
  obtain ⟨G, g1, g2⟩ := restrict h' fun b => decide (b ≠ e)
  have gk : ∀ b, b ≠ e → G.get? b = h'.get? b := fun b hb => g1 b (decide_eq_true hb)
  have ge : G.get? e = none := g2 e (by simp)
  have old : ∀ b o, hp.get? b = some o → G.get? b = some o := fun b o q =>
    (gk b (Nat.ne_of_lt (Nat.lt_of_lt_of_le (Heap.lt_size q) M.new))).trans (M.keep b o q)
  have up : ∀ b o, G.get? b = some o → h'.get? b = some o := fun b o q => by
    by_cases hb : b = e
    · rw [hb, ge] at q; cases q
    · exact (gk b hb).symm.trans q
  have ob : ObjOk X.prog X.w (upd H1 d (.xd [(f, v)])) G d (.xd [(f, v)]) :=
    ⟨_, M.ns.at (fun o q => (gk d M.ne).trans q), rel_one rv⟩
  have J : Inv X pins σ (upd H1 d (.xd [(f, v)])) ⟨G, g, dr, tk', os⟩ := I1.laid (t' := tk') old M.big ob
  have ne : H1 e = none := I1.hok.fresh M.new
  have nd : H1 d = none := I1.hok.fresh M.big
  have nu : upd H1 d (.xd [(f, v)]) e = none := by rw [upd_ne (Ne.symm M.ne)]; exact ne
  exact ⟨.ref e, _, J.laidN (t' := tk') up ge nu (errD_ok ho), rfl, q1 e d ne nd M.ne⟩
/-- raise C(e) -/
def tMkE (C : Addr) (f : Str) (te : TE) : L2.St → Hp → XK → Prop := fun σ H Q => te σ H fun v H1 =>
  ∀ d : Addr, H1 d = none → Q (.ref C) (some d) (upd H1 d (.xd [(f, v)]))
theorem pmk_E {e : Expr} {te : TE} {p pos : Pos} {k : Nat} (T : ECls X.K X.mg cn f B newId bmB C fI) (hr : Room k X.A)
    (he : PE X e te) (hg : Gl X cn := by rfl) (hdb : (cn == ("__debug__" : Str)) = false := by decide)
    (hs : starEach [e] X.env = (false, eval e X.env) :: starEach [] X.env := by rfl) :
    PMk X (.Call (.Name cn p) [e] [] pos) (tMkE C f te) := by
  intro pins s σ H Q I h
  refine wpAny_Call_Name_kw (ld_glob I hg T.gC ?_ hdb)
  refine PySem.W.callWith_K (h₀ := X.base) I.ok.mod.kin T.kC ?_ hs (by rfl)
  rw [hs]
  show wpAny _ _ (spliced ((false, eval e X.env) :: backTo pos (starEach [] X.env))) _ _ s
  refine Calls.spliced_cons (thn (he.run pins s σ H _ I h) fun u s1 ⟨v, H1, I1, rv, q1⟩ => ?_)
  refine Calls.spliced_nil ⟨I1.kIn, ?_⟩
  show wpAny _ _ (call (.ref C) [u]) _ _ _
  have lim := I1.nolimit
  obtain ⟨hp, g, dr, tk, os⟩ := s1
  refine wpAny_call (made T I1.kIn lim (by have := hr.dp; omega) fun h' tk' e d M => ?_)
  show MkP X pins σ Q (.ref e) ⟨h', g, dr, tk', os⟩
  obtain ⟨t1, ho⟩ := M.obj
  obtain ⟨G, g1, g2⟩ := restrict h' fun b => decide (b ≠ e)
  have gk : ∀ b, b ≠ e → G.get? b = h'.get? b := fun b hb => g1 b (decide_eq_true hb)
  have ge : G.get? e = none := g2 e (by simp)
  have old : ∀ b o, hp.get? b = some o → G.get? b = some o := fun b o q =>
    (gk b (Nat.ne_of_lt (Nat.lt_of_lt_of_le (Heap.lt_size q) M.new))).trans (M.keep b o q)
  have up : ∀ b o, G.get? b = some o → h'.get? b = some o := fun b o q => by
    by_cases hb : b = e
    · rw [hb, ge] at q; cases q
    · exact (gk b hb).symm.trans q
  have ob : ObjOk X.prog X.w (upd H1 d (.xd [(f, v)])) G d (.xd [(f, v)]) :=
    ⟨_, M.ns.at (fun o q => (gk d M.ne).trans q), rel_one rv⟩
  have J : Inv X pins σ (upd H1 d (.xd [(f, v)])) ⟨G, g, dr, tk', os⟩ := I1.laid (t' := tk') old M.big ob
  have nu : upd H1 d (.xd [(f, v)]) e = none := by rw [upd_ne (Ne.symm M.ne)]; exact I1.hok.fresh M.new
  exact ⟨e, _, _, ⟨G, g, dr, tk', os⟩, _, .ref C, some d, rfl, J, up, ge, ho, ⟨rfl, rfl⟩, rfl, rfl, nu, rfl, I1.bare,
    raises_own T.exC T.tyC, q1 d (I1.hok.fresh M.big)⟩
def tRaiseE (C : Addr) (f : Str) (W : WX) (te : TE) : TS := fun _ σ H => tMkE C f te σ H fun cls d H' => W cls d σ H'
theorem ps_raiseE {e : Expr} {te : TE} {W : WX} {p pos pos2 : Pos} {k : Nat} (hc : X.calm = true)
    (T : ECls X.K X.mg cn f B newId bmB C fI) (hr : Room k X.A) (tk : Takes X W) (he : PE X e te) (hg : Gl X cn := by rfl)
    (hdb : (cn == ("__debug__" : Str)) = false := by decide)
    (hs : starEach [e] X.env = (false, eval e X.env) :: starEach [] X.env := by rfl) :
    PS X (.Raise (some (.Call (.Name cn p) [e] [] pos)) none pos2) (tRaiseE C f W te) :=
  ps_raise hc tk (pmk_E T hr he hg hdb hs)
/-- a.f, a an error held as a value -/
def tGetE (C : Addr) (f : Str) (te : TE) : TE := fun σ H Q => te σ H fun x H1 =>
  ∃ (a d : Addr) (v : V), x = .ref a ∧ H1 a = some (ErrD C d a) ∧ H1 d = some (.xd [(f, v)]) ∧ Q v H1
theorem pe_getE {e : Expr} {te : TE} {pos : Pos} (T : ECls X.K X.mg cn f B newId bmB C fI) (he : PE X e te)
    (hb : attributeBase e f X.env (eval e X.env) = eval e X.env := by rfl) : PE X (.Attribute e f pos) (tGetE C f te) := by
  refine ⟨fun pins s σ H Q I h => ?_⟩
  refine attr_of hb (thn (he.run pins s σ H _ I h) fun u s1 hh => ?_)
  obtain ⟨x, H1, I1, rx, a, d, v, ex, ea, ed, q⟩ := hh
  subst ex
  obtain rfl : u = Value.ref a := rx
  obtain ⟨t1, ho⟩ := errD_at I1.hok ea
  have hx : ObjOk X.prog X.w H1 s1.heap d (.xd [(f, v)]) := I1.hok d _ ed
  obtain ⟨mA, hns, hr⟩ := hx
  obtain ⟨od, hd, hl⟩ := lookIn_ns hns
  have l : List.lookup f [(f, v)] = some v := by simp [List.lookup]
  obtain ⟨u, hu, ru⟩ := RelO.some_of (v := v) (o := mA f) (by rw [← l]; exact hr f)
  have J : PySem.W.InstAt s1.heap a _ C (some od) := ⟨ho, rfl, rfl, hd⟩
  exact HandSPX.exc_get I1.kIn J T.ga T.gg T.exC (PySem.W.findObj_own T.hd T.no rfl (by rw [hl, hu])) (handed_of ru)
    ⟨v, H1, I1.tok _, ru, q⟩
/-- an error held as a value: without a dict, or with one that stands -/
def IsE (H : Hp) (a C : Addr) : Prop :=
  H a = some (ExO (.ref C) a) ∨ ∃ d fs, H a = some (ErrD C d a) ∧ H d = some (.xd fs)
/-- isinstance(a, c) -/
def rIsV (K : PySem.W.Frag) : List V → Hp → VK → Prop := fun xs H Q =>
  ∃ (a C : Addr) (c : V) (cv : Value) (b : Bool), xs = [.ref a, c] ∧ IsE H a C ∧ ExcC K C ∧ (∀ u, RelV c u → u = cv) ∧
    PySem.W.kitOne K (.ref C) cv = some b ∧ Q (.bl b) H
theorem inst_of {pins : List (Addr × Obj)} {σ : L2.St} {H : Hp} {s : Shared} {a C : Addr} (I : Inv X pins σ H s) (e : IsE H a C) :
    ∃ ox od, PySem.W.InstAt s.heap a ox C od := by
  rcases e with e | ⟨d, fs, e, ed⟩
  · have x : ObjOk X.prog X.w H s.heap a (ExO (.ref C) a) := I.hok a _ e
    obtain ⟨⟨oe, vs, ho, ⟨z1, z2⟩, hd, _⟩, _⟩ := x
    obtain ⟨oc, od, oda, osl⟩ := oe
    dsimp only at z1 z2 hd
    subst z1 z2 hd
    exact ⟨_, none, ho, rfl, rfl, trivial⟩
  · obtain ⟨t1, ho⟩ := errD_at I.hok e
    have hx : ObjOk X.prog X.w H s.heap d (.xd fs) := I.hok d _ ed
    obtain ⟨mA, hns, _⟩ := hx
    obtain ⟨od, hd, _⟩ := lookIn_ns hns
    exact ⟨_, some od, ho, rfl, rfl, hd⟩
theorem call_isV : CallR X (.builtin "isinstance") (rIsV X.K) := by
  intro pins s σ H xs us Q I r h
  obtain ⟨a, C, c, cv, b, rfl, ie, T, hcv, e, q⟩ := h
  cases r with
  | cons rx rr =>
    cases rr with
    | cons rt rr =>
      cases rr
      cases rx
      have ec := hcv _ rt
      subst ec
      obtain ⟨ox, od, J⟩ := inst_of I ie
      have hcl : (PySem.W.clsIn X.K C).isSome = true := by
        obtain ⟨cd, hc, _⟩ := PySem.W.any_some T.hd
        rw [hc]; rfl
      exact PySem.W.kia_one (PySem.W.kitx_exc (ox := ox) (od := od) hcl T.hg T.hk T.hs T.ha T.hn T.ht T.hm) I.kIn J e (fun z => nomatch z)
        fun tk => ⟨.bl b, H, I.kept (t' := tk) fun _ _ z => z, rfl, q⟩
end
end Vx

set_option Elab.async false
set_option linter.all false
set_option maxRecDepth 100000
set_option maxHeartbeats 4000000
namespace Vx
open PySem PySem.Spec PyProof.Rows L2
section
variable {X : Cx} {cn f : Str} {B newId : String} {bmB : List Value} {C fI : Addr}
/-- n.f in the suite of `except C as n` -/
def tByE (C : Addr) (f : Str) (a : Addr) (cls : Value) (d : Option Addr) (te : TE) : TE := fun σ H Q => te σ H fun x H1 =>
  x = .ref a ∧ cls = .ref C ∧ ∃ dd v, d = some dd ∧ H1 dd = some (.xd [(f, v)]) ∧ Q v H1
theorem pe_byE {a : Addr} {oe : Obj} {cls : Value} {d : Option Addr} {pn : List (Addr × Obj)} {e : Expr} {te : TE} {pos : Pos} (T : ECls X.K X.mg cn f B newId bmB C fI) (hz : Zc cls d oe) (hf : ∃ vs, oe.data = .fields vs) (he : PE (X.suite a ((a, oe) :: pn)) e te)
    (hb : attributeBase e f X.env (eval e X.env) = eval e X.env := by rfl) :
    PE (X.suite a ((a, oe) :: pn)) (.Attribute e f pos) (tByE C f a cls d te) := by
  refine ⟨fun pins s σ H Q I h => ?_⟩
  refine attr_of hb (thn (he.run pins s σ H _ I h) fun u s1 hh => ?_)
  obtain ⟨x, H1, I1, rx, ex, ec, dd, v, ed, ea, q⟩ := hh
  subst ex
  obtain rfl : u = Value.ref a := rx
  subst ec
  subst ed
  obtain ⟨ha, _⟩ := I1.pin (a, oe) (List.mem_append_left _ List.mem_cons_self)
  obtain ⟨vs, hd⟩ := hf
  have hx : ObjOk X.prog X.w H1 s1.heap dd (.xd [(f, v)]) := I1.hok dd _ ea
  obtain ⟨mA, hns, hr⟩ := hx
  obtain ⟨od, ho, hl⟩ := lookIn_ns hns
  have l : List.lookup f [(f, v)] = some v := by simp [List.lookup]
  obtain ⟨u, hu, ru⟩ := RelO.some_of (v := v) (o := mA f) (by rw [← l]; exact hr f)
  have J : PySem.W.InstAt s1.heap a oe C (some od) := ⟨ha, hz.1, by unfold PySem.W.notCls; rw [hd] <;> rfl, by rw [hz.2]; exact ho⟩
  exact HandSPX.exc_get I1.kIn J T.ga T.gg T.exC (PySem.W.findObj_own T.hd T.no rfl (by rw [hl, hu])) (handed_of ru) ⟨v, H1, I1.tok _, ru, q⟩
end
end Vx

set_option Elab.async false
set_option linter.all false
set_option maxRecDepth 100000
set_option maxHeartbeats 4000000
namespace Lk
open PySem PySem.Spec L2
section
variable {X : Cx}
/-- // by any divisor but 0, below 2 ^ 9000 in size -/
def CDivG (_ j : Int) : Prop := j ≠ 0 ∧ j.natAbs.log2 < 9000
theorem divG {i j : Int} {b : Nat} (h : j ≠ 0) (hb : j.natAbs < 2 ^ b) (h0 : 0 < b) (h9 : b ≤ 9000) : CDivG i j :=
  ⟨h, Nat.lt_of_lt_of_le (PySem.Flt.log2_lt_of h0 hb) h9⟩
theorem op_fdivG : OpR X (binaryOp .FloorDiv) (rI CDivG fun i j => .int (i.fdiv j)) := opI fun i j _ _ _ _ _ hc q =>
  PyProof.Rows.floordiv_int hc.1 q (.inl (PyProof.noPylong_of_log2 hc.2))
/-- o.f as a target -/
def gFld (K : PySem.W.Frag) (to : TE) (f : Str) : TG := fun v σ H Q => to σ H fun x H1 =>
  ∃ a C dx fs, x = .ref a ∧ H1 a = some (.ins C dx fs) ∧ Cls K C ∧ NoAttr K C f ∧ fs.length < 1000 ∧ Q σ (upd H1 a (.ins C dx (putF f v fs)))
theorem pg_fld {o : Expr} {to : TE} {f : Str} {pos : Pos} (ho : PE X o to) : PG X (.Attribute o f pos) (gFld X.K to f) := by
  refine ⟨fun pins s σ H v u Q I r h => ?_⟩
  rw [assign_Attribute]
  refine wpAny_bind (wpAny_holding (thn (ho.run pins s σ H _ I h) fun ov s1 ⟨x, H1, I1, rx, a, C, dx, fs, ex, ea, c, n, l, q⟩ => ?_))
  subst ex
  obtain rfl : ov = Value.ref a := rx
  refine wpAny_bind (wpAny_standAt (wpAny_bind (wpAny_holding (setattr_ok I1 ea c n l r fun s3 I3 => wpAny_release ?_))))
  exact ⟨σ, _, I3, q⟩
/-- how a promise's call comes back as a value of a comparison or a text -/
theorem strback {P : Value → Shared → Prop} {y : Str} {v : Value} {s' : Shared} (r : RelV (.str y) v) (h : P v s') : PySem.W.StrBack P v s' := by
  obtain ⟨t, rfl⟩ := (show ∃ t, v = Value.str y t from r)
  exact h
/-- str(x), x an instance whose class has its own __str__ -/
def rStrOwn (C : Addr) (sp : Sp) (E : XK) : List V → Hp → VK → Prop := fun xs H Q =>
  ∃ a dx fs, xs = [.ref a] ∧ H a = some (.ins C dx fs) ∧ sp [.ref a] H (fun z H' => ∃ y, z = .str y ∧ Q z H') E
section
variable {CX : CXT} {C g : Addr} {k : Nat} {fd : FuncData} {ps : List Str} {sp : Sp} {E : XK}
theorem call_strOwn (hs : PySem.W.findIn X.K (.ref C) "__str__" = some (some (.ref g))) (hf : PySem.W.isFn X.K (.ref g) = true)
    (F : FnOk X.prog X.w X.K X.mg X.base CX k g fd ps sp) (hr : Room (k + 2) X.A) (hb : Binds X.K fd ps [])
    (hx : Passes CX X E) : CallR X (.type "str") (rStrOwn C sp E) := by
  intro pins s σ H xs us Q I r h
  obtain ⟨a, dx, fs, rfl, ea, q⟩ := h
  cases r with
  | cons rx rr =>
    cases rr
    cases rx
    obtain ⟨mA, O, _, _, _, _⟩ := ins_get I.hok ea
    obtain ⟨od, J, _⟩ := O.look
    have r2 : Room k X.A.in1.in1 := (show Room (k + 1) X.A.in1 from Room.in1 hr).in1
    have hl : ([Value.ref a] ++ []).length = ps.length := (F.len _ _ _ _ q) ▸ rfl
    refine PySem.W.kso_call (by have := r2.un; omega) I.kIn J hs hf (wpAny_call (codeAny_mono (F.run X.A.in1.in1 X.stack s H ⟨[.ref a], []⟩ [.ref a] [.ref a] _ E r2 I.env0.in1.in1 (hb s [.ref a] I.kIn hl) (.cons rfl .nil) q) fun r s' hq => ?_))
    cases r with
    | error e => exact hx pins σ H s e s' I hq
    | ok fl =>
      cases fl with
      | ret u =>
        obtain ⟨v, H', I2, rv, y, ey, q2⟩ := I.after hq
        subst ey
        exact strback rv ⟨.str y, H', I2, rv, q2⟩
      | next => exact False.elim hq
      | brk => exact False.elim hq
      | cont => exact False.elim hq
/-- what stands on the right of an own ==: an instance of the same class, a tuple, a whole number -/
inductive Rgt (H : Hp) (C : Addr) : V → Prop where
  | own {b dx fs} : H b = some (.ins C dx fs) → Rgt H C (.ref b)
  | tup {b xs} : H b = some (.tup xs) → Rgt H C (.ref b)
  | int (i : Int) : Rgt H C (.int i)
theorem rgt_type {pins : List (Addr × Obj)} {σ : L2.St} {H : Hp} {s : Shared} {y : V} {u : Value} (I : Inv X pins σ H s) (h : Rgt H C y) (r : RelV y u) (M : Model)
    (nt : PySem.W.notFirst X.K C (.ref C) = true) (n1 : PySem.W.notFirst X.K C (.type "tuple") = true) (n2 : PySem.W.notFirst X.K C (.type "int") = true) :
    ∃ tb, PySem.W.Looks M s.heap (typeOf u) tb ∧ PySem.W.notFirst X.K C tb = true := by
  cases h with
  | own e =>
    cases r
    obtain ⟨mA, O, _, _, _, _⟩ := ins_get I.hok e
    obtain ⟨od, J, _⟩ := O.look
    exact ⟨.ref C, J.type, nt⟩
  | tup e =>
    cases r
    obtain ⟨_, us, _, o, ho, hc, _⟩ := (show ObjOk X.prog X.w H s.heap _ (.tup _) from I.hok _ _ e)
    exact ⟨.type "tuple", fun A Q E s k q => wpAny_typeOf_ref (k _ _ ho) (by rw [hc]; exact q), n1⟩
  | int i =>
    obtain ⟨t, rfl⟩ := (show ∃ t, u = Value.int i t from r)
    exact ⟨.type "int", fun A Q E s k q => wpAny_typeOf (typeIs_int s i t) q, n2⟩
structure OwnEq (K : PySem.W.Frag) (C g : Addr) : Prop where
  eq : PySem.W.findIn K (.ref C) "__eq__" = some (some (.ref g))
  ne : PySem.W.findIn K (.ref C) "__ne__" = some (some (.builtin "object.__ne__"))
  fn : PySem.W.isFn K (.ref g) = true
  n0 : PySem.W.notFirst K C (.ref C) = true
  n1 : PySem.W.notFirst K C (.type "tuple") = true
  n2 : PySem.W.notFirst K C (.type "int") = true
  mo : PySem.W.mroIn K C (.type "object") = some true
/-- x == y by an own __eq__ -/
def rEqOwn (C : Addr) (sp : Sp) (E : XK) : R2 := fun x y H Q => ∃ a dx fs, x = .ref a ∧ H a = some (.ins C dx fs) ∧ Rgt H C y ∧ sp [x, y] H Q E
theorem op_eqOwn (T : OwnEq X.K C g) (F : FnOk X.prog X.w X.K X.mg X.base CX k g fd ps sp) (hr : Room k X.A) (hb : Binds X.K fd ps [])
    (hx : Passes CX X E) : OpR X (compareOp .Eq) (rEqOwn C sp E) := by
  intro pins s σ H x y v u Q I rx ry h
  obtain ⟨a, dx, fs, rfl, ea, hy, q⟩ := h
  cases (show v = Value.ref a from rx)
  obtain ⟨mA, O, _, _, _, _⟩ := ins_get I.hok ea
  obtain ⟨od, J, _⟩ := O.look
  obtain ⟨tb, hb1, hb2⟩ := rgt_type I hy ry (model X.prog X.w) T.n0 T.n1 T.n2
  obtain ⟨m, hF⟩ := I.fr
  show wpAny _ _ (richCompare .Eq (.ref a) u) _ _ _
  refine PySem.W.cmp_K (op := .Eq) (tb := tb) hr.units0 hF I.ok.mod.kin J hb1 hb2 T.eq T.fn ?_
  refine wpAny_mono (run_fn (us := [.ref a, u]) (vs := [.ref a, y]) (dvs := []) (ds := []) F hr hb .nil hx I (.cons rfl (.cons ry .nil)) q) (fun w s' z => ?_) fun _ _ x => x
  obtain ⟨z', H', I', rz, qz⟩ := z
  exact SlX.cmpback rz ⟨z', H', I', rz, qz⟩
/-- x != y, where the class has an own __eq__ and object's __ne__ -/
def rNeOwn (C : Addr) (sp : Sp) (E : XK) : R2 := fun x y H Q => ∃ a dx fs, x = .ref a ∧ H a = some (.ins C dx fs) ∧ Rgt H C y ∧
  sp [x, y] H (fun z H' => ∃ b, z = .bl b ∧ Q (.bl (!b)) H') E
theorem ifB {M : Model} {A : Around} {E' : Value → Shared → Prop} {s : Shared} {K : PySem.W.Frag} {x : Addr} {ox : Obj} {od : Option Obj} {name : Str} {id : String} {args : List Value} {Q : Option Value → Shared → Prop}
    (Y : K.In s.heap) (J : PySem.W.InstAt s.heap x ox C od) (hs : PySem.W.findIn K (.ref C) name = some (some (.builtin id)))
    (hb : ∀ self, bindSpecial (.builtin id) self = pure (.builtin id, [self]))
    (h : wpAny M A (call (.builtin id) (.ref x :: args)) (fun v => Q (some v)) E' s) : wpAny M A (callSpecialIfBound? (.ref x) name args) Q E' s := by
  have fin : wpAny M A (call (.builtin id) ([.ref x] ++ args) >>= fun v => pure (some v)) Q E' s :=
    wpAny_bind (wpAny_mono h (fun v s' z => wpAny_pure z) fun _ _ z => z)
  simp only [callSpecialIfBound?, bindSpecialIfBound?]
  refine wpAny_holding (wpAny_bind (wpAny_bind (wpAny_bind (J.type.here ((PySem.W.looks_findIn Y hs).here (wpAny_bind (wpAny_askSetting (wpAny_ite ?_))))))))
  split
  · exact wpAny_bind ((PySem.W.Looks.of_pure (hb _)).here (wpAny_pure (by exact fin)))
  · exact wpAny_tryCatch (wpAny_bind ((PySem.W.Looks.of_pure (hb _)).here (wpAny_pure (by exact fin))))
theorem op_neOwn (T : OwnEq X.K C g) (F : FnOk X.prog X.w X.K X.mg X.base CX k g fd ps sp) (hr : Room (k + 1) X.A) (hb : Binds X.K fd ps [])
    (hx : Passes CX X E) : OpR X (compareOp .NotEq) (rNeOwn C sp E) := by
  intro pins s σ H x y v u Q I rx ry h
  obtain ⟨a, dx, fs, rfl, ea, hy, q⟩ := h
  cases (show v = Value.ref a from rx)
  obtain ⟨mA, O, _, _, _, _⟩ := ins_get I.hok ea
  obtain ⟨od, J, _⟩ := O.look
  obtain ⟨tb, hb1, hb2⟩ := rgt_type I hy ry (model X.prog X.w) T.n0 T.n1 T.n2
  have Y := I.kIn
  have r1 : Room k X.A.in1 := Room.in1 hr
  have hl : ([Value.ref a, u] ++ []).length = ps.length := (F.len _ _ _ _ q) ▸ rfl
  have one : wpAny (model X.prog X.w) X.A (tryCompare (.ref a) (cmpInfo .NotEq).2.1 u) (fun r s' => ∃ v, r = some v ∧ EP X pins σ Q v s') X.xe s := by
    unfold tryCompare
    refine wpAny_bind (ifB Y J T.ne PySem.F.slot_object_ne.bind ?_)
    refine wpAny_call (codeAny_call_builtin PySem.F.slot_object_ne.plain PySem.F.entry_object_ne (PySem.W.check_slot (i := "object.__ne__") (owner := "object") (n := "__ne__") (by decide +kernel) (by decide +kernel) (J.type.andThen (PySem.W.looks_mroIn Y T.mo)) (PySem.F.args_object_ne_2 _ _) ?_))
    unfold Builtin.«object.__ne__»
    refine wpAny_bind (m := slotArgs "__ne__" 1 _) (wpAny_pure ?_)
    refine wpAny_bind (m := cRoomFor _ _) (wpAny_cRoomFor r1.units0 ?_)
    refine wpAny_bind (m := callSpecialIfBound? (.ref a) (Str.ofString "__eq__") _) (PySem.W.ifBound_K Y J T.eq T.fn ?_)
    refine wpAny_call (codeAny_mono (F.run X.A.in1 X.stack s H ⟨[.ref a, u], []⟩ [.ref a, u] [.ref a, y] _ E r1 I.env0.in1 (hb s [.ref a, u] Y hl) (.cons rfl (.cons ry .nil)) q) fun r s' hq => ?_)
    cases r with
    | error e => exact hx pins σ H s e s' I hq
    | ok fl =>
      cases fl with
      | ret z =>
        obtain ⟨zv, H', I2, rz, b, ez, q2⟩ := I.after hq
        subst ez
        cases (show z = Value.bool b from rz)
        refine wpAny_bind (m := truthy (.bool b)) (wpAny_truthy_bool (wpAny_pure ?_))
        exact wpAny_pure ⟨_, rfl, .bl (!b), H', I2, rfl, q2⟩
      | next => exact False.elim hq
      | brk => exact False.elim hq
      | cont => exact False.elim hq
  show wpAny _ _ (richCompare .NotEq (.ref a) u) _ _ _
  unfold richCompare
  simp only [oneThing_ref]
  refine wpAny_holding (wpAny_bind (wpAny_cRoomFor hr.units0 ?_))
  refine wpAny_bind (J.type.here (wpAny_bind (hb1.here ?_)))
  split
  · rename_i z
    have e : PySem.W.subIn X.K tb (.ref C) = some false := by
      rcases Bool.or_eq_true_iff.mp hb2 with e | e
      · rw [beq_iff_eq.mp e] at z; simp at z
      · exact beq_iff_eq.mp e
    refine wpAny_bind ((PySem.W.looks_subIn Y e).here ?_)
    simp only [Bool.false_eq_true, if_false]
    refine wpAny_bind (wpAny_mono one (fun r s' w => ?_) fun _ _ e => e)
    obtain ⟨v, rfl, hq⟩ := w
    exact wpAny_pure hq
  · refine wpAny_bind (wpAny_pure ?_)
    simp only [Bool.false_eq_true, if_false]
    refine wpAny_bind (wpAny_mono one (fun r s' w => ?_) fun _ _ e => e)
    obtain ⟨v, rfl, hq⟩ := w
    exact wpAny_pure hq
end
end
end Lk

set_option Elab.async false
set_option linter.all false
set_option maxRecDepth 100000
set_option maxHeartbeats 4000000
namespace Lk
open PySem L2
def top (i : Nat) : Stmt := PySem.Challenge.pw_lawseries_k02_whole_numbers_of_primes_an.main.body.getD i (.Pass ⟨0, 0, 0, 0⟩)
/-- what the module's name space leaves of built-in names -/
structure Bl (mg : Str → Option Value) : Prop where
  int : mg "int" = none
  len : mg "len" = none
  abs : mg "abs" = none
  max : mg "max" = none
/-- the three numbers of a law's dice, at p -/
def DiceAt (H : Hp) (p : Addr) : Prop := ∃ a b c : Int, H p = some (.lst [.int a, .int b, .int c])
section
variable {P : Program} {w : World} {K : PySem.W.Frag} {mg : Str → Option Value} {base : Heap}
theorem sqL_upd {K : PySem.W.Frag} {H : Hp} {a p : Addr} {xs : List V} {o : HO} (ne : a ≠ p) (h : SqL K H a xs) : SqL K (upd H p o) a xs := by
  unfold SqL Rd at h ⊢
  rw [upd_ne ne]
  exact h
/-! ### roll -/
def spRoll : Sp := fun vs H Q _ => ∃ (p : Addr) (a b c t : Int), vs = [.ref p, .int t] ∧ H p = some (.lst [.int a, .int b, .int c]) ∧
  0 < t ∧ t < 1606938044258990275541962092341162602522202993782792835301376 ∧ ∀ (r a' c' : Int), 0 ≤ r → r < t → Q (.int r) (upd H p (.lst [.int a', .int b, .int c']))
abbrev sRoll : Stmt := top 44
theorem scRoll : FnScope ["_law_dice_here", "_law_total", "_law_found", "_law_one", "_law_two"] ["_law_dice_here", "_law_total"] (defScope sRoll) :=
  ⟨rfl, rfl, rfl, by decide +kernel, rfl, by decide +kernel, by decide +kernel⟩
theorem upd_upd {H : Hp} {p : Addr} {o o' : HO} : upd (upd H p o) p o' = upd H p o' := by
  funext b
  by_cases h : b = p
  · subst h; rw [upd_same, upd_same]
  · rw [upd_ne h, upd_ne h, upd_ne h]
theorem upd_self {H : Hp} {p : Addr} {o : HO} (h : H p = some o) : upd H p o = H := by
  funext b
  by_cases e : b = p
  · subst e; rw [upd_same, h]
  · rw [upd_ne e]
theorem mod_lo {i j : Int} (h : 0 < j) : 0 ≤ i.fmod j := by
  rw [Int.fmod_eq_emod_of_nonneg _ (Int.le_of_lt h)]; exact Int.emod_nonneg _ (by omega)
theorem mod_hi {i j : Int} (h : 0 < j) : i.fmod j < j := by
  rw [Int.fmod_eq_emod_of_nonneg _ (Int.le_of_lt h)]; exact Int.emod_lt_of_pos _ h
theorem ok_roll {f : Addr} {fd : FuncData} (F : Fun K "_law_roll" "_law_roll" sRoll f fd) (B : Bl mg) :
    FnOk P w K mg base CX0 1 f fd ["_law_dice_here", "_law_total"] spRoll := by
  refine F.ok scRoll (fun vs H Q E h => ?_) (fun cdv A outer s H vs Q E hr h => ?_)
  · obtain ⟨p, a, b, c, t, rfl, _⟩ := h
    rfl
  · obtain ⟨p, a, b, c, t, rfl, hp, t0, t1, k⟩ := h
    refine ⟨_, pss_cons (ps_if (pt_cmpR op_gt (pe_ix ix_list (pv 0) pe_int (fun _ _ => rfl)) pe_int (nomark _))
        (pss_cons (ps_set (i := 2) scRoll.nd rfl (.inl rfl) (pe_op op_modN (pe_callTy call_int1 (by rfl) B.int PyProof.Rows.boot_int (pa_cons (pe_ix ix_list (pv 0) pe_int (fun _ _ => rfl)) pa_nil)) (pv 1)))
          (pss_cons (ps_asg (pe_op op_fdivW (pe_ix ix_list (pv 0) pe_int (fun _ _ => rfl)) (pv 1)) (pg_sub (pv 0) pe_int set_list)) (pss_one (ps_ret (pv 2)))))
        pss_nil)
      (pss_cons (ps_asg (pe_op op_add (pe_ix ix_list (pv 0) pe_int (fun _ _ => rfl)) pe_int) (pg_sub (pv 0) pe_int set_list))
      (pss_cons (ps_set (i := 3) scRoll.nd rfl (.inl rfl) (pe_op op_modN (pe_callTy call_int1 (by rfl) B.int PyProof.Rows.boot_int (pa_cons (pe_op op_add (pe_ix ix_list (pv 0) pe_int (fun _ _ => rfl)) (pe_op op_mul pe_int (pe_ix ix_list (pv 0) pe_int (fun _ _ => rfl)))) pa_nil)) pe_int))
      (pss_cons (ps_set (i := 4) scRoll.nd rfl (.inl rfl) (pe_op op_add (pe_op op_mul (pe_op op_modN (pe_callTy call_int1 (by rfl) B.int PyProof.Rows.boot_int (pa_cons (pe_op op_add (pe_op op_mul (pv 3) (pv 3)) (pe_op op_mul pe_int (pe_ix ix_list (pv 0) pe_int (fun _ _ => rfl)))) pa_nil)) pe_int) pe_int) (pv 3)))
      (pss_one (ps_ret (pe_op op_modN (pe_callTy call_int1 (by rfl) B.int PyProof.Rows.boot_int (pa_cons (pe_op op_fdivN (pv 4) pe_int) pa_nil)) (pv 1))))))), ?_⟩
    refine ⟨_, rfl, p, _, 0, _, rfl, rfl, SqL.of hp, rfl, _, _, rfl, rfl, _, rfl, ?_⟩
    refine ite2 (fun _ => ?_) (fun _ => ?_)
    · refine ⟨_, rfl, p, _, 0, _, rfl, rfl, SqL.of hp, rfl, .inl ⟨_, rfl, _, rfl, _, _, rfl, rfl, by show t ≠ 0; omega, ?_⟩⟩
      refine ⟨_, rfl, p, _, 0, _, rfl, rfl, SqL.of hp, rfl, _, rfl, _, _, rfl, rfl, wide_div t0 (b := 200) (by omega) (by decide) (by decide), ?_⟩
      refine ⟨_, rfl, p, _, 0, 0, rfl, rfl, hp, rfl, ?_⟩
      exact ⟨_, rfl, k _ _ _ (mod_lo t0) (mod_hi t0)⟩
    · refine ⟨_, rfl, p, _, 2, _, rfl, rfl, SqL.of hp, rfl, _, _, rfl, rfl, _, rfl, p, _, 2, 2, rfl, rfl, hp, rfl, ?_⟩
      have hp1 : upd H p (.lst [.int a, .int b, .int (c + 1)]) p = some (.lst [.int a, .int b, .int (c + 1)]) := upd_same
      refine ⟨_, rfl, p, _, 1, _, rfl, rfl, SqL.of hp1, rfl, _, rfl, p, _, 2, _, rfl, rfl, SqL.of hp1, rfl, _, _, rfl, rfl, .inl (by decide), _, _, rfl, rfl, .inl ⟨_, rfl, _, _, rfl, rfl, (by show (_ : Int) ≠ 0; exact (by decide : (2305843009213693613 : Int) ≠ 0)), ?_⟩⟩
      have l0 : 0 ≤ (b + 86028157 * (c + 1)).fmod 2305843009213693613 := mod_lo (by decide)
      have l1 : (b + 86028157 * (c + 1)).fmod 2305843009213693613 < 2305843009213693613 := mod_hi (by decide)
      refine ⟨_, rfl, _, rfl, _, _, rfl, rfl, .inl ⟨by omega, by omega⟩, _, rfl, p, _, 2, _, rfl, rfl, SqL.of hp1, rfl, _, _, rfl, rfl, .inl (by decide), _, _, rfl, rfl, .inl ⟨_, rfl, _, _, rfl, rfl, (by show (_ : Int) ≠ 0; exact (by decide : (2305843009213693669 : Int) ≠ 0)), ?_⟩⟩
      have m0 := mod_lo (i := (b + 86028157 * (c + 1)).fmod 2305843009213693613 * (b + 86028157 * (c + 1)).fmod 2305843009213693613 + 97 * (c + 1)) (j := 2305843009213693669) (by decide)
      have m1 := mod_hi (i := (b + 86028157 * (c + 1)).fmod 2305843009213693613 * (b + 86028157 * (c + 1)).fmod 2305843009213693613 + 97 * (c + 1)) (j := 2305843009213693669) (by decide)
      refine ⟨_, _, rfl, rfl, .inl ⟨by omega, by omega⟩, _, rfl, _, _, rfl, rfl, ?_⟩
      refine ⟨_, rfl, _, _, rfl, rfl, ⟨by decide, by decide⟩, .inl ⟨_, rfl, _, rfl, _, _, rfl, rfl, by show t ≠ 0; omega, k _ _ _ (mod_lo t0) (mod_hi t0)⟩⟩
/-! ### pick -/
def spPick (K : PySem.W.Frag) : Sp := fun vs H Q _ => ∃ (p q : Addr) (a b c : Int) (xs : List V), vs = [.ref p, .ref q] ∧ H p = some (.lst [.int a, .int b, .int c]) ∧
  SqL K H q xs ∧ q ≠ p ∧ 0 < xs.length ∧ xs.length < 1000 ∧ ∀ (i : Nat) (x : V) (a' c' : Int), xs[i]? = some x → Q x (upd H p (.lst [.int a', .int b, .int c']))
abbrev sPick : Stmt := top 45
theorem scPick : FnScope ["_law_dice_here", "_law_items"] ["_law_dice_here", "_law_items"] (defScope sPick) :=
  ⟨rfl, rfl, rfl, by decide +kernel, rfl, by decide +kernel, by decide +kernel⟩
theorem ok_pick {f fR : Addr} {fd fdR : FuncData} (F : Fun K "_law_pick" "_law_pick" sPick f fd) (B : Bl mg) (mR : mg "_law_roll" = some (.ref fR))
    (kR : PySem.W.keepIn K (.ref fR) = true) (bR : Binds K fdR ["_law_dice_here", "_law_total"] [])
    (GR : FnOk P w K mg base CX0 1 fR fdR ["_law_dice_here", "_law_total"] spRoll) :
    FnOk P w K mg base CX0 2 f fd ["_law_dice_here", "_law_items"] (spPick K) := by
  refine F.ok scPick (fun vs H Q E h => ?_) (fun cdv A outer s H vs Q E hr h => ?_)
  · obtain ⟨p, q, a, b, c, xs, rfl, _⟩ := h
    rfl
  · obtain ⟨p, q, a, b, c, xs, rfl, hp, hq, ne, x0, x1, k⟩ := h
    refine ⟨_, pss_one (ps_ret (pe_ix ix_list (pv 1) (pe_call GR hr rfl mR kR bR .nil pass0 (pa_cons (pv 0) (pa_cons (pe_callB call_len_seq (by rfl) B.len PySem.boot_len (pa_cons (pv 1) pa_nil)) pa_nil))) (fun _ _ => rfl))), ?_⟩
    refine ⟨_, rfl, _, rfl, _, rfl, q, _, rfl, .inl hq, p, a, b, c, _, rfl, hp, by omega, by omega, fun r a' c' r0 r1 => ?_⟩
    obtain ⟨n, rfl⟩ : ∃ n : Nat, r = (n : Int) := ⟨r.toNat, by omega⟩
    have hn : n < xs.length := by omega
    have hq' : SqL K (upd H p (.lst [.int a', .int b, .int c'])) q xs := sqL_upd ne hq
    exact ⟨q, _, _, _, rfl, rfl, hq', atI_nat (List.getElem?_eq_getElem hn), k n _ a' c' (List.getElem?_eq_getElem hn)⟩
end
end Lk

set_option Elab.async false
set_option linter.all false
set_option maxRecDepth 100000
set_option maxHeartbeats 4000000
namespace Lk
open PySem L2
/-! ### the mathematics of lowest terms -/
def sg (t b : Int) : Int := if b < 0 then -((Nat.gcd t.natAbs b.natAbs : Nat) : Int) else ((Nat.gcd t.natAbs b.natAbs : Nat) : Int)
def lT (t b : Int) : Int := t.fdiv (sg t b)
def lB (t b : Int) : Int := b.fdiv (sg t b)
theorem g_pos {t b : Int} (h : b ≠ 0) : 0 < Nat.gcd t.natAbs b.natAbs := Nat.gcd_pos_of_pos_right _ (by omega)
theorem sg_ne {t b : Int} (h : b ≠ 0) : sg t b ≠ 0 := by
  have := g_pos (t := t) h
  unfold sg
  split <;> omega
theorem sg_abs (t b : Int) : (sg t b).natAbs = Nat.gcd t.natAbs b.natAbs := by
  unfold sg
  split <;> simp
theorem sg_le {t b : Int} (h : b ≠ 0) : (sg t b).natAbs ≤ b.natAbs := by
  rw [sg_abs]
  exact Nat.gcd_le_right _ (by omega)
theorem sg_dT (t b : Int) : sg t b ∣ t := by
  rw [← Int.natAbs_dvd_natAbs, sg_abs]
  exact Nat.gcd_dvd_left _ _
theorem sg_dB (t b : Int) : sg t b ∣ b := by
  rw [← Int.natAbs_dvd_natAbs, sg_abs]
  exact Nat.gcd_dvd_right _ _
theorem fdiv_mul_of {a j : Int} (h : j ∣ a) (n : j ≠ 0) : a.fdiv j * j = a := by
  obtain ⟨c, rfl⟩ := h
  rw [Int.mul_fdiv_cancel_left _ n, Int.mul_comm]
theorem lT_mul {t b : Int} (h : b ≠ 0) : lT t b * sg t b = t := fdiv_mul_of (sg_dT t b) (sg_ne h)
theorem lB_mul {t b : Int} (h : b ≠ 0) : lB t b * sg t b = b := fdiv_mul_of (sg_dB t b) (sg_ne h)
theorem abs_le_of_mul {x g t : Int} (h : x * g = t) (n : g ≠ 0) : x.natAbs ≤ t.natAbs := by
  rw [← h, Int.natAbs_mul]
  exact Nat.le_mul_of_pos_right _ (by omega)
theorem lT_le {t b : Int} (h : b ≠ 0) : (lT t b).natAbs ≤ t.natAbs := abs_le_of_mul (lT_mul h) (sg_ne h)
theorem lB_le {t b : Int} (h : b ≠ 0) : (lB t b).natAbs ≤ b.natAbs := abs_le_of_mul (lB_mul h) (sg_ne h)
theorem lB_pos {t b : Int} (h : b ≠ 0) : 0 < lB t b := by
  have e := lB_mul (t := t) h
  have g := g_pos (t := t) h
  unfold sg at e
  rcases Int.lt_trichotomy 0 (lB t b) with p | p | p
  · exact p
  · rw [← p] at e; simp at e; omega
  · exfalso
    split at e
    · have : 0 < lB t b * -((Nat.gcd t.natAbs b.natAbs : Nat) : Int) := Int.mul_pos_of_neg_of_neg p (by omega)
      omega
    · have : lB t b * ((Nat.gcd t.natAbs b.natAbs : Nat) : Int) < 0 := Int.mul_neg_of_neg_of_pos p (by omega)
      omega
theorem low_co {t b : Int} (h : b ≠ 0) : Nat.gcd (lT t b).natAbs (lB t b).natAbs = 1 := by
  have g := g_pos (t := t) h
  have e1 : (lT t b).natAbs * Nat.gcd t.natAbs b.natAbs = t.natAbs := by rw [← sg_abs t b, ← Int.natAbs_mul, lT_mul h]
  have e2 : (lB t b).natAbs * Nat.gcd t.natAbs b.natAbs = b.natAbs := by rw [← sg_abs t b, ← Int.natAbs_mul, lB_mul h]
  have e3 : Nat.gcd ((lT t b).natAbs * Nat.gcd t.natAbs b.natAbs) ((lB t b).natAbs * Nat.gcd t.natAbs b.natAbs) = Nat.gcd t.natAbs b.natAbs := by rw [e1, e2]
  rw [Nat.gcd_mul_right] at e3
  exact Nat.eq_of_mul_eq_mul_right g (by rw [e3, Nat.one_mul])
/-- what is in lowest terms stays -/
theorem low_id {t b : Int} (h : 0 < b) (c : Nat.gcd t.natAbs b.natAbs = 1) : lT t b = t ∧ lB t b = b := by
  have s : sg t b = 1 := by
    unfold sg
    rw [if_neg (by omega), c]
    rfl
  unfold lT lB
  rw [s]
  exact ⟨Int.fdiv_one t, Int.fdiv_one b⟩
theorem low_int (n : Int) : lT n 1 = n ∧ lB n 1 = 1 := low_id (by decide) (by simp)
theorem low_neg {t b : Int} (h : b ≠ 0) : lT (-(lT t b)) (lB t b) = -(lT t b) ∧ lB (-(lT t b)) (lB t b) = lB t b :=
  low_id (lB_pos h) (by rw [Int.natAbs_neg]; exact low_co h)
/-! ### the program's numbers. The text by places -/
abbrev sShort : Stmt := top 14
abbrev sOf : Stmt := top 15
abbrev sMade : Stmt := top 16
abbrev sLow : Stmt := top 17
abbrev sSign : Stmt := top 18
abbrev sIn (j : Nat) : Stmt := inClass (top 13) j
def LONG : Int := 1000000000000000000000000000000000000000000000000000000000000
/-- what the module tells of names -/
structure Gn (K : PySem.W.Frag) (mg : Str → Option Value) (C : Addr) : Prop where
  bl : Bl mg
  isi : mg "isinstance" = none
  bool : mg "bool" = none
  str : mg "str" = none
  tl : ∃ t, mg "_TOO_LONG" = some (.int LONG t)
  gcd : mg "gcd" = some (.builtin "math.gcd")
  mgC : mg "Ratio" = some (.ref C)
  cl : Cls K C
  nT : NoAttr K C "_top"
  nB : NoAttr K C "_bottom"
  ca : PySem.W.findIn K (.ref C) "__class__" = some (some (.builtin "object.__class__"))
  cn : PySem.W.specialIn K (.builtin "object.__class__") "__get__" = some (some (.builtin "getset_descriptor.__get__"))
  ct : PySem.W.takesIn K (.builtin "object.__class__") = some true
  mo : PySem.W.mroIn K C (.type "object") = some true
  kt : PySem.W.kitOne K (.type "tuple") (.ref C) = some false
  ki : PySem.W.kitOne K (.type "int") (.ref C) = some false
section
variable {P : Program} {w : World} {K : PySem.W.Frag} {mg : Str → Option Value} {base : Heap} {C : Addr}
def spShort : Sp := fun vs H Q _ => ∃ i : Int, vs = [.int i] ∧ Q (.bl (decide (-LONG < i) && decide (i < LONG))) H
theorem scShort : FnScope ["value"] ["value"] (defScope sShort) := ⟨rfl, rfl, rfl, by decide +kernel, rfl, by decide +kernel, by decide +kernel⟩
theorem ok_short {f : Addr} {fd : FuncData} (F : Fun K "is_short_integer" "is_short_integer" sShort f fd) (G : Gn K mg C) :
    FnOk P w K mg base CX0 1 f fd ["value"] spShort := by
  obtain ⟨tk, hTL⟩ := G.tl
  refine F.ok scShort (fun vs H Q E h => ?_) (fun cdv A outer s H vs Q E hr h => ?_)
  · obtain ⟨i, rfl, _⟩ := h
    rfl
  · obtain ⟨i, rfl, k⟩ := h
    refine ⟨_, pss_one (ps_ret (pe_and (pe_callB call_isi (by rfl) G.isi (by decide +kernel) (pa_cons (pv 0) (pa_cons (pe_bltn (by rfl) G.bl.int (by decide +kernel) (show RelV (.ty "int") (.type "int") from rfl)) pa_nil)))
      (pe_and (pe_not (pe_callB call_isi (by rfl) G.isi (by decide +kernel) (pa_cons (pv 0) (pa_cons (pe_bltn (by rfl) G.bool (by decide +kernel) (show RelV (.ty "bool") (.type "bool") from rfl)) pa_nil))))
        (pe_one (pe_chain op_lt op_lt (pe_un un_neg (pe_glob rfl hTL (show RelV (.int LONG) (.int LONG tk) from ⟨_, rfl⟩))) (pv 0) (pe_glob rfl hTL (show RelV (.int LONG) (.int LONG tk) from ⟨_, rfl⟩))))))), ?_⟩
    refine ⟨_, rfl, _, _, _, _, true, rfl, .ty "int", .base (.int i), kit_ty (by decide +kernel), true, rfl, ?_⟩
    rw [if_pos rfl]
    refine ⟨_, rfl, _, _, _, _, false, rfl, .ty "bool", .base (.int i), kit_ty (by decide +kernel), false, rfl, true, rfl, ?_⟩
    rw [if_pos rfl]
    refine ⟨_, rfl, _, rfl, _, _, rfl, rfl, _, rfl, ?_⟩
    by_cases c : -LONG < i
    · rw [decide_eq_true c] at k
      rw [if_pos (decide_eq_true c)]
      exact ⟨_, _, rfl, rfl, k⟩
    · rw [decide_eq_false c] at k
      rw [if_neg (by rw [decide_eq_false c]; exact Bool.false_ne_true)]
      exact k
end
end Lk

set_option Elab.async false
set_option linter.all false
set_option maxRecDepth 100000
set_option maxHeartbeats 4000000
set_option exponentiation.threshold 10000
namespace Lk
open PySem L2
theorem tb_ : ¬ (("_top" : Str) = "_bottom") := by decide +kernel
theorem bt_ : ¬ (("_bottom" : Str) = "_top") := by decide +kernel
/-- the fields of a ratio -/
def rf (t b : Int) : List (Str × V) := putF "_bottom" (.int b) (putF "_top" (.int t) [])
theorem rf_eq (t b : Int) : rf t b = ([("_top", V.int t), ("_bottom", V.int b)] : List (Str × V)) := by
  show (if ("_top" : Str) = "_bottom" then [(("_top" : Str), V.int b)] else (("_top" : Str), V.int t) :: putF "_bottom" (V.int b) []) = _
  rw [if_neg tb_]
  all_goals rfl
theorem rf_t (t b : Int) : (rf t b).lookup ("_top" : Str) = some (.int t) := by
  unfold rf
  rw [lookup_putF, if_neg tb_, lookup_putF, if_pos rfl]
theorem rf_b (t b : Int) : (rf t b).lookup ("_bottom" : Str) = some (.int b) := by
  unfold rf
  rw [lookup_putF, if_pos rfl]
theorem rf_no (t b : Int) {m : Str} (h1 : ¬ m = "_bottom") (h2 : ¬ m = "_top") : (rf t b).lookup m = none := by
  unfold rf
  rw [lookup_putF, if_neg h1, lookup_putF, if_neg h2]
  all_goals rfl
theorem rf_putT (t b u : Int) : putF "_top" (.int u) (rf t b) = rf u b := by
  rw [rf_eq, rf_eq]
  show (if ("_top" : Str) = "_top" then (("_top" : Str), V.int u) :: [(("_bottom" : Str), V.int b)] else _) = _
  rw [if_pos rfl]
theorem rf_putB (t b u : Int) : putF "_bottom" (.int u) (rf t b) = rf t u := by
  rw [rf_eq, rf_eq]
  show (if ("_top" : Str) = "_bottom" then _ else (("_top" : Str), V.int t) :: (if ("_bottom" : Str) = "_bottom" then [(("_bottom" : Str), V.int u)] else _)) = _
  rw [if_neg tb_, if_pos rfl]
theorem rf_len (t b : Int) : (rf t b).length < 1000 := by rw [rf_eq]; show 2 < 1000; decide
/-- all that stood stands, but for p -/
def But (p : Addr) (H H' : Hp) : Prop := ∀ a o, a ≠ p → H a = some o → H' a = some o
theorem same_new {H : Hp} {p : Addr} {o : HO} (h : H p = none) : Same H (upd H p o) := fun b u e => by
  rw [upd_ne (ne_of_none e h)]
  exact e
theorem Same.tr {H H1 H2 : Hp} (a : Same H H1) (b : Same H1 H2) : Same H H2 := fun c o h => b c o (a c o h)
theorem same_refl (H : Hp) : Same H H := fun _ _ h => h
/-- a ratio at p -/
abbrev RatAt (C : Addr) (H : Hp) (p : Addr) (t b : Int) : Prop := ∃ dx, H p = some (.ins C dx (rf t b))
def NewRat (C : Addr) (H : Hp) (t b : Int) (Q : VK) : Prop := ∀ (H' : Hp) (x : Addr), Same H H' → H x = none → RatAt C H' x t b → Q (.ref x) H'
/-- a ratio or a whole number, as an argument -/
def Arg (C : Addr) (H : Hp) (y : V) (t b : Int) : Prop := (∃ q, y = .ref q ∧ RatAt C H q t b) ∨ (y = .int t ∧ b = 1 ∧ -LONG < t ∧ t < LONG)
abbrev Bd (x : Int) : Prop := x.natAbs < 2 ^ 300
theorem itT {c : Bool} {A B : Prop} (hc : c = true) (h : A) : if c = true then A else B := by
  rw [if_pos hc]; exact h
theorem itF {c : Bool} {A B : Prop} (hc : c = false) (h : B) : if c = true then A else B := by
  rw [hc, if_neg Bool.false_ne_true]; exact h
section
variable {P : Program} {w : World} {K : PySem.W.Frag} {mg : Str → Option Value} {base : Heap} {C : Addr}
/-! ### _lowest_terms -/
def spLow : Sp := fun vs H Q _ => ∃ t b : Int, vs = [.int t, .int b] ∧ b ≠ 0 ∧ b.natAbs < 2 ^ 4000 ∧
  ∀ p, H p = none → Q (.ref p) (upd H p (.tup [.int (lT t b), .int (lB t b)]))
theorem scLow : FnScope ["top", "bottom", "divisor"] ["top", "bottom"] (defScope sLow) := ⟨rfl, rfl, rfl, by decide +kernel, rfl, by decide +kernel, by decide +kernel⟩
theorem ok_low {f : Addr} {fd : FuncData} (F : Fun K "_lowest_terms" "_lowest_terms" sLow f fd) (G : Gn K mg C) :
    FnOk P w K mg base CX0 1 f fd ["top", "bottom"] spLow := by
  refine F.ok scLow (fun vs H Q E h => ?_) (fun cdv A outer s H vs Q E hr h => ?_)
  · obtain ⟨t, b, rfl, _⟩ := h
    rfl
  · obtain ⟨t, b, rfl, b0, bb, k⟩ := h
    refine ⟨_, pss_cons (ps_set (i := 2) scLow.nd rfl (.inl rfl) (pe_callBfun cr_gcd rfl G.gcd (pa_cons (pv 0) (pa_cons (pv 1) pa_nil))))
      (pss_cons (ps_if (pt_cmpR op_lt (pv 1) pe_int (nomark _)) (pss_one (ps_set (i := 2) scLow.nd rfl (.inl rfl) (pe_un un_neg (pv 2)))) pss_nil)
      (pss_one (ps_ret (pe_tup (pa_cons (pe_op op_fdivG (pv 0) (pv 2)) (pa_cons (pe_op op_fdivG (pv 1) (pv 2)) pa_nil)))))), ?_⟩
    have hs : CDivG t (sg t b) ∧ CDivG b (sg t b) := ⟨divG (sg_ne b0) (Nat.lt_of_le_of_lt (sg_le b0) bb) (by decide) (by decide), divG (sg_ne b0) (Nat.lt_of_le_of_lt (sg_le b0) bb) (by decide) (by decide)⟩
    refine ⟨_, rfl, _, rfl, t, b, rfl, ?_⟩
    refine ⟨_, rfl, _, _, rfl, rfl, _, rfl, ?_⟩
    by_cases c : b < 0
    · refine itT (decide_eq_true c) ?_
      have e : -((Nat.gcd t.natAbs b.natAbs : Nat) : Int) = sg t b := by unfold sg; rw [if_pos c]
      unfold lT lB at k
      rw [← e] at k hs
      refine ⟨_, rfl, _, rfl, ?_⟩
      refine ⟨_, rfl, _, rfl, t, _, rfl, rfl, hs.1, _, rfl, _, rfl, b, _, rfl, rfl, hs.2, (by show 2 ≤ sizeLine; decide), fun p hp => ?_⟩
      exact k p hp
    · refine itF (decide_eq_false c) ?_
      have e : ((Nat.gcd t.natAbs b.natAbs : Nat) : Int) = sg t b := by unfold sg; rw [if_neg c]
      unfold lT lB at k
      rw [← e] at k hs
      refine ⟨_, rfl, _, rfl, t, _, rfl, rfl, hs.1, _, rfl, _, rfl, b, _, rfl, rfl, hs.2, (by show 2 ≤ sizeLine; decide), fun p hp => ?_⟩
      exact k p hp
/-! ### __init__ -/
def spInit (C : Addr) : Sp := fun vs H Q _ => ∃ (p dx : Addr) (t b : Int), vs = [.ref p, .int t, .int b] ∧ H p = some (.ins C dx []) ∧ b ≠ 0 ∧ -LONG < t ∧ t < LONG ∧ -LONG < b ∧ b < LONG ∧
  ∀ H', But p H H' → H' p = some (.ins C dx (rf (lT t b) (lB t b))) → Q .non H'
theorem long_lt {x : Int} (h1 : -LONG < x) (h2 : x < LONG) : x.natAbs < 2 ^ 200 := by
  have e : LONG < 2 ^ 200 := by decide
  have : x.natAbs < LONG.natAbs := by unfold LONG at *; omega
  exact Nat.lt_trans this (by decide)
theorem long_bd {x : Int} (h1 : -LONG < x) (h2 : x < LONG) : Bd x := Nat.lt_trans (long_lt h1 h2) (by decide)
theorem lt_pow {n a b : Nat} (h : n < 2 ^ a) (l : a ≤ b) : n < 2 ^ b := Nat.lt_of_lt_of_le h (Nat.pow_le_pow_right (by decide) l)
theorem both {x : Int} (h1 : -LONG < x) (h2 : x < LONG) : (decide (-LONG < x) && decide (x < LONG)) = true := by
  rw [decide_eq_true h1, decide_eq_true h2]; rfl
/-- a def of the module, as its callers have it -/
def Has (P : Program) (w : World) (K : PySem.W.Frag) (mg : Str → Option Value) (base : Heap) (nm : Str) (k : Nat) (ps : List Str) (sp : Sp) : Prop :=
  ∃ f fd, FnOk P w K mg base CX0 k f fd ps sp ∧ mg nm = some (.ref f) ∧ PySem.W.keepIn K (.ref f) = true ∧ Binds K fd ps []
/-- a method -/
def HasM (P : Program) (w : World) (K : PySem.W.Frag) (mg : Str → Option Value) (base : Heap) (C : Addr) (nm : Str) (k : Nat) (ps : List Str) (sp : Sp) : Prop :=
  ∃ f fd, FnOk P w K mg base CX0 k f fd ps sp ∧ Meth K C nm f ∧ Binds K fd ps []
/-- a property -/
def HasP (P : Program) (w : World) (K : PySem.W.Frag) (mg : Str → Option Value) (base : Heap) (C : Addr) (nm : Str) (k : Nat) (sp : Sp) : Prop :=
  ∃ p g fd, PropOf K C nm p g ∧ FnOk P w K mg base CX0 k g fd ["self"] sp ∧ Binds K fd ["self"] []
theorem scInit : FnScope ["self", "top", "bottom"] ["self", "top", "bottom"] (defScope (sIn 0)) := ⟨rfl, rfl, rfl, by decide +kernel, rfl, by decide +kernel, by decide +kernel⟩
theorem ok_init {f : Addr} {fd : FuncData} {dvs : List V} {kws : List (Str × V)} (F : FunD K "__init__" "Ratio.__init__" (defArgs (sIn 0)) (defBody (sIn 0)) (defScope (sIn 0)) dvs kws f fd) (G : Gn K mg C) (S : Has P w K mg base "is_short_integer" 1 ["value"] spShort) (L : Has P w K mg base "_lowest_terms" 1 ["top", "bottom"] spLow) :
    FnOk P w K mg base CX0 2 f fd ["self", "top", "bottom"] (spInit C) := by
  obtain ⟨fS, dS, GS, mS, kS, bS⟩ := S
  obtain ⟨fL, dL, GL, mL, kL, bL⟩ := L
  refine F.ok scInit (fun vs H Q E h => ?_) (fun cdv A outer s H vs Q E hr h => ?_)
  · obtain ⟨p, dx, t, b, rfl, _⟩ := h
    rfl
  · obtain ⟨p, dx, t, b, rfl, hp, b0, t1, t2, b1, b2, k⟩ := h
    refine ⟨_, pss_cons (ps_if (pt_not (pt_val (pe_call GS hr rfl mS kS bS .nil pass0 (pa_cons (pv 1) pa_nil)))) (pss_one ps_never) pss_nil)
      (pss_cons (ps_if (PW.pt (pw_or (pt_not (pt_val (pe_call GS hr rfl mS kS bS .nil pass0 (pa_cons (pv 2) pa_nil)))) (pw_or1 (pt_cmpR op_eq (pv 2) pe_int (nomark _))))) (pss_one ps_never) pss_nil)
      (pss_one (ps_asg (pe_call GL hr rfl mL kL bL .nil pass0 (pa_cons (pv 1) (pa_cons (pv 2) pa_nil))) (pg_tup rfl (pgs_cons (pg_fld (pv 0)) (pgs_cons (pg_fld (pv 0)) pgs_nil)))))), ?_⟩
    refine ⟨_, rfl, t, rfl, _, rfl, itF (by rw [both t1 t2]; rfl) ?_⟩
    refine ⟨_, rfl, b, rfl, _, rfl, itF (by rw [both b1 b2]; rfl) ?_⟩
    refine ⟨_, rfl, rfl, _, rfl, itF (decide_eq_false (fun z => b0 (by cases z; rfl))) ?_⟩
    refine ⟨_, rfl, _, rfl, t, b, rfl, b0, lt_pow (long_lt b1 b2) (by decide), fun q hq => ?_⟩
    have npq : p ≠ q := ne_of_none hp hq
    refine ⟨q, _, rfl, .inl (.inl upd_same), rfl, _, _, rfl, ?_⟩
    refine ⟨_, rfl, p, C, dx, [], rfl, (by rw [upd_ne npq]; exact hp), G.cl, G.nT, (by show 0 < 1000; decide), _, _, rfl, ?_⟩
    refine ⟨_, rfl, p, C, dx, _, rfl, upd_same, G.cl, G.nB, (by show 1 < 1000; decide), rfl, ?_⟩
    refine k _ (fun a o ne e => ?_) upd_same
    rw [upd_ne ne, upd_ne ne, upd_ne (ne_of_none e hq)]
    exact e
end
end Lk

set_option Elab.async false
set_option linter.all false
set_option maxRecDepth 100000
set_option maxHeartbeats 4000000
set_option exponentiation.threshold 10000
namespace Lk
open PySem L2
section
variable {P : Program} {w : World} {K : PySem.W.Frag} {mg : Str → Option Value} {base : Heap} {C : Addr}
abbrev HShort (P : Program) (w : World) (K : PySem.W.Frag) (mg : Str → Option Value) (base : Heap) : Prop := Has P w K mg base "is_short_integer" 1 ["value"] spShort
abbrev HLow (P : Program) (w : World) (K : PySem.W.Frag) (mg : Str → Option Value) (base : Heap) : Prop := Has P w K mg base "_lowest_terms" 1 ["top", "bottom"] spLow
/-- Ratio(n), Ratio(t, b): the class and its __init__, with its default 1 -/
def HRatio (P : Program) (w : World) (K : PySem.W.Frag) (mg : Str → Option Value) (base : Heap) (C : Addr) : Prop :=
  ∃ f fd, FnOk P w K mg base CX0 2 f fd ["self", "top", "bottom"] (spInit C) ∧ Mk K C f ∧ Binds K fd ["self", "top", "bottom"] [] ∧
    ∃ ds, Vals [V.int 1] ds ∧ Binds K fd ["self", "top", "bottom"] ds
/-! ### ratio_of -/
def spOf (C : Addr) : Sp := fun vs H Q _ => ∃ (y : V) (t b : Int), vs = [y] ∧ Arg C H y t b ∧ ∀ (H' : Hp) (q : Addr), Same H H' → RatAt C H' q t b → Q (.ref q) H'
theorem scOf : FnScope ["value"] ["value"] (defScope sOf) := ⟨rfl, rfl, rfl, by decide +kernel, rfl, by decide +kernel, by decide +kernel⟩
theorem ok_of {f : Addr} {fd : FuncData} (F : Fun K "ratio_of" "ratio_of" sOf f fd) (G : Gn K mg C) (S : HShort P w K mg base) (R : HRatio P w K mg base C) :
    FnOk P w K mg base CX0 4 f fd ["value"] (spOf C) := by
  obtain ⟨fS, dS, GS, mS, kS, bS⟩ := S
  obtain ⟨fI, dI, GI, M, _, ds, vd, bD⟩ := R
  refine F.ok scOf (fun vs H Q E h => ?_) (fun cdv A outer s H vs Q E hr h => ?_)
  · obtain ⟨y, t, b, rfl, _⟩ := h
    rfl
  · obtain ⟨y, t, b, rfl, ar, k⟩ := h
    refine ⟨_, pss_cons (ps_if (pt_val (pe_callB call_isi (by rfl) G.isi (by decide +kernel) (pa_cons (pv 0) (pa_cons (pe_glob rfl G.mgC (show RelV (.ref C) (.ref C) from rfl)) pa_nil)))) (pss_one (ps_ret (pv 0))) pss_nil)
      (pss_cons (ps_if (pt_not (pt_val (pe_call GS (hr.mono (by decide)) rfl mS kS bS .nil pass0 (pa_cons (pv 0) pa_nil)))) (pss_one ps_never) pss_nil)
      (pss_one (ps_ret (pe_make M GI hr rfl G.mgC bD vd pass0 (pa_cons (pv 0) pa_nil))))), ?_⟩
    rcases ar with ⟨q, rfl, dx, hq⟩ | ⟨rfl, rfl, t1, t2⟩
    · refine ⟨_, rfl, _, _, _, _, true, rfl, .own C, .base (.ins hq G.cl G.ca G.cn G.ct G.mo), (by unfold PySem.W.kitOne; simp), _, rfl, itT rfl ?_⟩
      exact ⟨_, rfl, k H q (same_refl H) ⟨dx, hq⟩⟩
    · refine ⟨_, rfl, _, _, _, _, false, rfl, .own C, .base (.int t), G.ki, _, rfl, itF rfl ?_⟩
      refine ⟨_, rfl, t, rfl, _, rfl, itF (by rw [both t1 t2]; rfl) ?_⟩
      refine ⟨_, rfl, fun x dx nx nd ne => ?_⟩
      refine ⟨x, dx, t, 1, rfl, upd_same, by decide, t1, t2, by decide, by decide, fun H' bu hx => ⟨rfl, ?_⟩⟩
      have e := low_int t
      rw [e.1, e.2] at hx
      refine k H' x (fun a o z => ?_) ⟨dx, hx⟩
      have nax := ne_of_none z nx
      refine bu a o nax ?_
      rw [upd_ne nax, upd_ne (ne_of_none z nd)]
      exact z
/-! ### made_ratio -/
def spMade (C : Addr) : Sp := fun vs H Q _ => ∃ t b : Int, vs = [.int t, .int b] ∧ b ≠ 0 ∧ b.natAbs < 2 ^ 4000 ∧ NewRat C H (lT t b) (lB t b) Q
theorem scMade : FnScope ["top", "bottom", "lowest_top", "lowest_bottom", "made"] ["top", "bottom"] (defScope sMade) := ⟨rfl, rfl, rfl, by decide +kernel, rfl, by decide +kernel, by decide +kernel⟩
theorem ok_made {f : Addr} {fd : FuncData} (F : Fun K "made_ratio" "made_ratio" sMade f fd) (G : Gn K mg C) (L : HLow P w K mg base) (R : HRatio P w K mg base C) :
    FnOk P w K mg base CX0 4 f fd ["top", "bottom"] (spMade C) := by
  obtain ⟨fL, dL, GL, mL, kL, bL⟩ := L
  obtain ⟨fI, dI, GI, M, _, ds, vd, bD⟩ := R
  refine F.ok scMade (fun vs H Q E h => ?_) (fun cdv A outer s H vs Q E hr h => ?_)
  · obtain ⟨t, b, rfl, _⟩ := h
    rfl
  · obtain ⟨t, b, rfl, b0, bb, k⟩ := h
    refine ⟨_, pss_cons (ps_asg (pe_call GL (hr.mono (by decide)) rfl mL kL bL .nil pass0 (pa_cons (pv 0) (pa_cons (pv 1) pa_nil))) (pg_tup rfl (pgs_cons (pg_name (i := 2) scMade.nd rfl (.inl rfl)) (pgs_cons (pg_name (i := 3) scMade.nd rfl (.inl rfl)) pgs_nil))))
      (pss_cons (ps_set (i := 4) scMade.nd rfl (.inl rfl) (pe_make M GI hr rfl G.mgC bD vd pass0 (pa_cons pe_int pa_nil)))
      (pss_cons (ps_fld (pv 4) (pv 2) rfl) (pss_cons (ps_fld (pv 4) (pv 3) rfl) (pss_one (ps_ret (pv 4)))))), ?_⟩
    refine ⟨_, rfl, _, rfl, t, b, rfl, b0, bb, fun q hq => ?_⟩
    refine ⟨q, _, rfl, .inl (.inl upd_same), rfl, _, _, rfl, _, _, rfl, rfl, ?_⟩
    intro x dx nx nd ne
    have nxq : x ≠ q := fun z => by rw [z, upd_same] at nx; cases nx
    have nx0 : H x = none := by rw [upd_ne nxq] at nx; exact nx
    have ndq : dx ≠ q := fun z => by rw [z, upd_same] at nd; cases nd
    have nd0 : H dx = none := by rw [upd_ne ndq] at nd; exact nd
    refine ⟨x, dx, 0, 1, rfl, upd_same, by decide, by decide, by decide, by decide, by decide, fun H' bu hx => ⟨rfl, ?_⟩⟩
    refine ⟨_, rfl, _, rfl, x, C, dx, _, rfl, hx, G.cl, G.nT, rf_len _ _, ?_⟩
    refine ⟨_, rfl, _, rfl, x, C, dx, _, rfl, upd_same, G.cl, G.nB, (by rw [rf_putT]; exact rf_len _ _), ?_⟩
    refine ⟨_, rfl, k _ x (fun a o z => ?_) nx0 ⟨dx, ?_⟩⟩
    · have nax := ne_of_none z nx0
      rw [upd_ne nax, upd_ne nax]
      refine bu a o nax ?_
      rw [upd_ne nax, upd_ne (ne_of_none z nd0), upd_ne (ne_of_none z hq)]
      exact z
    · rw [upd_same, rf_putT, rf_putB]
/-! ### top, bottom, sign -/
abbrev sSg : Stmt := top 18
def sgn (n : Int) : Int := if n = 0 then 0 else if 0 < n then 1 else -1
def spSgn : Sp := fun vs H Q _ => ∃ n : Int, vs = [.int n] ∧ Q (.int (sgn n)) H
theorem scSgn : FnScope ["number"] ["number"] (defScope sSign) := ⟨rfl, rfl, rfl, by decide +kernel, rfl, by decide +kernel, by decide +kernel⟩
theorem ok_sgn {f : Addr} {fd : FuncData} (F : Fun K "_sign_of" "_sign_of" sSign f fd) : FnOk P w K mg base CX0 1 f fd ["number"] spSgn := by
  refine F.ok scSgn (fun vs H Q E h => ?_) (fun cdv A outer s H vs Q E hr h => ?_)
  · obtain ⟨n, rfl, _⟩ := h
    rfl
  · obtain ⟨n, rfl, k⟩ := h
    refine ⟨_, pss_cons (ps_if (pt_cmpR op_eq (pv 0) pe_int (nomark _)) (pss_one (ps_ret pe_int)) pss_nil)
      (pss_one (ps_ret (pe_ifExp (pt_cmpR op_gt (pv 0) pe_int (nomark _)) pe_int (pe_un un_neg pe_int)))), ?_⟩
    refine ⟨_, rfl, rfl, _, rfl, ?_⟩
    by_cases c : n = 0
    · subst c
      exact itT (decide_eq_true rfl) k
    · refine itF (decide_eq_false (fun z => c (by cases z; rfl))) ?_
      refine ⟨_, rfl, _, _, rfl, rfl, _, rfl, ?_⟩
      unfold sgn at k
      rw [if_neg c] at k
      by_cases c2 : 0 < n
      · rw [if_pos c2] at k
        exact itT (decide_eq_true c2) k
      · rw [if_neg c2] at k
        exact itF (decide_eq_false c2) ⟨_, rfl, k⟩
def spTop (C : Addr) : Sp := getSp C "_top"
def spBot (C : Addr) : Sp := getSp C "_bottom"
def spSign (C : Addr) : Sp := fun vs H Q _ => ∃ (p : Addr) (t b : Int), vs = [.ref p] ∧ RatAt C H p t b ∧ Q (.int (sgn t)) H
theorem scSelf : FnScope ["self"] ["self"] (defScope (sIn 4)) := ⟨rfl, rfl, rfl, by decide +kernel, rfl, by decide +kernel, by decide +kernel⟩
theorem ok_sign {f : Addr} {fd : FuncData} (F : Fun K "sign" "Ratio.sign" (sIn 4) f fd) (G : Gn K mg C) (S : Has P w K mg base "_sign_of" 1 ["number"] spSgn) : FnOk P w K mg base CX0 2 f fd ["self"] (spSign C) := by
  obtain ⟨fS, dS, GS, mS, kS, bS⟩ := S
  refine F.ok scSelf (fun vs H Q E h => ?_) (fun cdv A outer s H vs Q E hr h => ?_)
  · obtain ⟨p, t, b, rfl, _⟩ := h
    rfl
  · obtain ⟨p, t, b, rfl, ⟨dx, hp⟩, k⟩ := h
    refine ⟨_, pss_one (ps_ret (pe_call GS hr rfl mS kS bS .nil pass0 (pa_cons (pe_fld (pv 0) rfl) pa_nil))), ?_⟩
    exact ⟨_, rfl, p, C, dx, _, _, rfl, hp, G.cl, G.nT, rf_t _ _, t, rfl, k⟩
end
end Lk

set_option Elab.async false
set_option linter.all false
set_option maxRecDepth 100000
set_option maxHeartbeats 4000000
set_option exponentiation.threshold 10000
namespace Lk
open PySem L2 Vx
/-! values of every kind, as arguments: whether a short integer -/
inductive Kd (K : PySem.W.Frag) (H : Hp) : V → Bool → Prop
  | int (i : Int) : Kd K H (.int i) (decide (-LONG < i) && decide (i < LONG))
  | bl (b : Bool) : Kd K H (.bl b) false
  | oth {y : V} {t : Value} (ty : TyX K H y t) (no : PySem.W.kitOne K t (.type "int") = some false) (nb : ∀ b, y ≠ .bl b) (ni : ∀ i, y ≠ .int i) : Kd K H y false
theorem Kd.same {K : PySem.W.Frag} {H H' : Hp} {i : Int} {b : Bool} (h : Kd K H (.int i) b) : Kd K H' (.int i) b := by
  cases h with
  | int i => exact .int i
  | oth ty no nb ni => exact absurd rfl (ni i)
theorem Kd.short {K : PySem.W.Frag} {H : Hp} {y : V} (h : Kd K H y true) : ∃ i, y = .int i ∧ -LONG < i ∧ i < LONG := by
  generalize e : true = b at h
  cases h with
  | int i =>
    have z := e.symm
    rw [Bool.and_eq_true, decide_eq_true_eq, decide_eq_true_eq] at z
    exact ⟨i, rfl, z.1, z.2⟩
  | bl b => cases e
  | oth => cases e
/-- an error of the class at CE with the one field f, whose value is v, is let out -/
def Ref (CE : Addr) (f : Str) (H : Hp) (E : XK) (v : V) : Prop := ∀ H' d, Same H H' → H d = none → H' d = some (.xd [(f, v)]) → E (.ref CE) (some d) H'
section
variable {P : Program} {w : World} {K : PySem.W.Frag} {mg : Str → Option Value} {base : Heap} {C CE fE : Addr} {B newId : String} {bm : List Value}
def spShortK (K : PySem.W.Frag) : Sp := fun vs H Q _ => ∃ (y : V) (b : Bool), vs = [y] ∧ Kd K H y b ∧ Q (.bl b) H
theorem ok_shortK {f : Addr} {fd : FuncData} (F : Fun K "is_short_integer" "is_short_integer" sShort f fd) (G : Gn K mg C) :
    FnOk P w K mg base CX0 1 f fd ["value"] (spShortK K) := by
  obtain ⟨tk, hTL⟩ := G.tl
  refine F.ok scShort (fun vs H Q E h => ?_) (fun cdv A outer s H vs Q E hr h => ?_)
  · obtain ⟨y, b, rfl, _⟩ := h
    rfl
  · obtain ⟨y, b, rfl, hk, k⟩ := h
    refine ⟨_, pss_one (ps_ret (pe_and (pe_callB call_isi (by rfl) G.isi (by decide +kernel) (pa_cons (pv 0) (pa_cons (pe_bltn (by rfl) G.bl.int (by decide +kernel) (show RelV (.ty "int") (.type "int") from rfl)) pa_nil)))
      (pe_and (pe_not (pe_callB call_isi (by rfl) G.isi (by decide +kernel) (pa_cons (pv 0) (pa_cons (pe_bltn (by rfl) G.bool (by decide +kernel) (show RelV (.ty "bool") (.type "bool") from rfl)) pa_nil))))
        (pe_one (pe_chain op_lt op_lt (pe_un un_neg (pe_glob rfl hTL (show RelV (.int LONG) (.int LONG tk) from ⟨_, rfl⟩))) (pv 0) (pe_glob rfl hTL (show RelV (.int LONG) (.int LONG tk) from ⟨_, rfl⟩))))))), ?_⟩
    cases hk with
    | int i =>
      refine ⟨_, rfl, _, _, _, _, true, rfl, .ty "int", .base (.int i), kit_ty (by decide +kernel), true, rfl, itT rfl ?_⟩
      refine ⟨_, rfl, _, _, _, _, false, rfl, .ty "bool", .base (.int i), kit_ty (by decide +kernel), false, rfl, true, rfl, itT rfl ?_⟩
      refine ⟨_, rfl, _, rfl, _, _, rfl, rfl, _, rfl, ?_⟩
      by_cases c : -LONG < i
      · rw [decide_eq_true c] at k
        exact itT (decide_eq_true c) ⟨_, _, rfl, rfl, k⟩
      · rw [decide_eq_false c] at k
        exact itF (decide_eq_false c) k
    | bl b =>
      refine ⟨_, rfl, _, _, _, _, true, rfl, .ty "int", .base (.bl b), kit_ty (by decide +kernel), true, rfl, itT rfl ?_⟩
      exact ⟨_, rfl, _, _, _, _, true, rfl, .ty "bool", .base (.bl b), kit_ty (by decide +kernel), true, rfl, false, rfl, itF rfl k⟩
    | oth ty no nb ni =>
      exact ⟨_, rfl, _, _, _, _, false, rfl, .ty "int", ty, no, false, rfl, itF rfl k⟩
/-! ### Ratio(top, bottom), refused or made -/
abbrev HShK (P : Program) (w : World) (K : PySem.W.Frag) (mg : Str → Option Value) (base : Heap) : Prop := Has P w K mg base "is_short_integer" 1 ["value"] (spShortK K)
def spInitK (K : PySem.W.Frag) (C CE : Addr) : Sp := fun vs H Q E => ∃ (p dx : Addr) (y z : V) (b1 b2 : Bool), vs = [.ref p, y, z] ∧ H p = some (.ins C dx []) ∧ Kd K H y b1 ∧ Kd K H z b2 ∧
  (b1 = false → Ref CE "value" H E y) ∧ (b1 = true → b2 = false → Ref CE "value" H E z) ∧
  (∀ t b : Int, y = .int t → z = .int b → b1 = true → b2 = true → (b = 0 → Ref CE "value" H E z) ∧ (b ≠ 0 → ∀ H', But p H H' → H' p = some (.ins C dx (rf (lT t b) (lB t b))) → Q .non H'))
theorem ok_initK {f : Addr} {fd : FuncData} {dvs : List V} {kws : List (Str × V)} (F : FunD K "__init__" "Ratio.__init__" (defArgs (sIn 0)) (defBody (sIn 0)) (defScope (sIn 0)) dvs kws f fd) (G : Gn K mg C) (T : ECls K mg "InvalidCount" "value" B newId bm CE fE)
    (S : HShK P w K mg base) (L : Has P w K mg base "_lowest_terms" 1 ["top", "bottom"] spLow) :
    FnOk P w K mg base (L2.CX P w) 3 f fd ["self", "top", "bottom"] (spInitK K C CE) := by
  obtain ⟨fS, dS, GS, mS, kS, bS⟩ := S
  obtain ⟨fL, dL, GL, mL, kL, bL⟩ := L
  refine F.ok scInit (fun vs H Q E h => ?_) (fun cdv A outer s H vs Q E hr h => ?_)
  · obtain ⟨p, dx, y, z, b1, b2, rfl, _⟩ := h
    rfl
  · obtain ⟨p, dx, y, z, b1, b2, rfl, hp, k1, k2, r1, r2, r3⟩ := h
    refine ⟨_, pss_cons (ps_if (pt_not (pt_val (pe_call GS (hr.mono (by decide)) rfl mS kS bS .nil pass0 (pa_cons (pv 1) pa_nil)))) (pss_one (ps_raiseE rfl T hr (takes_of rfl rfl rfl rfl) (pv 1))) pss_nil)
      (pss_cons (ps_if (PW.pt (pw_or (pt_not (pt_val (pe_call GS (hr.mono (by decide)) rfl mS kS bS .nil pass0 (pa_cons (pv 2) pa_nil)))) (pw_or1 (pt_cmpR op_eq (pv 2) pe_int (nomark _))))) (pss_one (ps_raiseE rfl T hr (takes_of rfl rfl rfl rfl) (pv 2))) pss_nil)
      (pss_one (ps_asg (pe_call GL (hr.mono (by decide)) rfl mL kL bL .nil pass0 (pa_cons (pv 1) (pa_cons (pv 2) pa_nil))) (pg_tup rfl (pgs_cons (pg_fld (pv 0)) (pgs_cons (pg_fld (pv 0)) pgs_nil)))))), ?_⟩
    cases b1 with
    | false => exact ⟨_, rfl, y, _, rfl, k1, _, rfl, itT rfl ⟨_, rfl, fun d hd => r1 rfl _ d (same_new hd) hd upd_same⟩⟩
    | true =>
      obtain ⟨t, rfl, t1, t2⟩ := k1.short
      refine ⟨_, rfl, _, _, rfl, k1, _, rfl, itF rfl ?_⟩
      cases b2 with
      | false => exact ⟨_, rfl, z, _, rfl, k2, _, rfl, itT rfl (itT rfl ⟨_, rfl, fun d hd => r2 rfl rfl _ d (same_new hd) hd upd_same⟩)⟩
      | true =>
        obtain ⟨b, rfl, u1, u2⟩ := k2.short
        obtain ⟨q0, q1⟩ := r3 t b rfl rfl rfl rfl
        refine ⟨_, rfl, _, _, rfl, k2, _, rfl, itF rfl ?_⟩
        refine ⟨_, rfl, rfl, _, rfl, ?_⟩
        by_cases b0 : b = 0
        · exact itT (by rw [b0]; rfl) ⟨_, rfl, fun d hd => q0 b0 _ d (same_new hd) hd upd_same⟩
        · refine itF (decide_eq_false (fun z => b0 (V.int.inj z))) ?_
          refine ⟨_, rfl, _, rfl, t, b, rfl, b0, lt_pow (long_lt u1 u2) (by decide), fun q hq => ?_⟩
          have npq : p ≠ q := ne_of_none hp hq
          refine ⟨q, _, rfl, .inl (.inl upd_same), rfl, _, _, rfl, ?_⟩
          refine ⟨_, rfl, p, C, dx, [], rfl, (by rw [upd_ne npq]; exact hp), G.cl, G.nT, (by show 0 < 1000; decide), _, _, rfl, ?_⟩
          refine ⟨_, rfl, p, C, dx, _, rfl, upd_same, G.cl, G.nB, (by show 1 < 1000; decide), rfl, ?_⟩
          refine q1 b0 _ (fun a o ne e => ?_) upd_same
          rw [upd_ne ne, upd_ne ne, upd_ne (ne_of_none e hq)]
          exact e
end
end Lk

set_option Elab.async false
set_option linter.all false
set_option maxRecDepth 100000
set_option maxHeartbeats 4000000
/-! math.isqrt and math.comb, as rules for a call (with pe_callBfun, as cr_gcd) -/
namespace Lk
open PySem PySem.Spec PyProof.Rows L2
section
variable {X : Cx}
def rSqrt : List V → Hp → VK → Prop := fun vs H Q => ∃ a : Int, vs = [.int a] ∧ 0 ≤ a ∧ a < 2 ^ 64 ∧ Q (.int ((Float64.isqrt a.toNat : Nat) : Int)) H
theorem cr_isqrt : CallR X (.builtin "math.isqrt") rSqrt := by
  intro pins s σ H vs us Q I r h
  obtain ⟨a, rfl, h0, h1, q⟩ := h
  obtain ⟨u, rfl, t, rfl⟩ := vals1 r
  exact PySem.W.mg_isqrt h0 h1 ⟨.int _, H, I.tok _, ⟨_, rfl⟩, q⟩
def rComb : List V → Hp → VK → Prop := fun vs H Q => ∃ a b : Int, vs = [.int a, .int b] ∧ 0 ≤ a ∧ 0 ≤ b ∧ a ≤ 18000 ∧ Q (.int (PySem.W.mcComb a b)) H
theorem cr_comb : CallR X (.builtin "math.comb") rComb := by
  intro pins s σ H vs us Q I r h
  obtain ⟨a, b, rfl, ha, hb, hk, q⟩ := h
  obtain ⟨t, u, rfl⟩ := Vals.int2 r
  exact PySem.W.mc_comb ha hb (by omega) (.inr hk) fun _ => ⟨.int _, H, I.tok _, ⟨_, rfl⟩, q⟩
end
end Lk

set_option Elab.async false
set_option linter.all false
set_option maxRecDepth 100000
set_option maxHeartbeats 4000000
set_option exponentiation.threshold 10000
namespace Lk
open PySem L2 Vx
/-! ratio_of and the methods of a ratio, where the other one is none -/
/-- an own error without an __init__ of its own, over ValueError -/
structure Pln (K : PySem.W.Frag) (mg : Str → Option Value) (x : Str) (C : Addr) : Prop where
  gP : mg x = some (.ref C)
  xP : PySem.W.excIn K C [.type "ValueError", .type "Exception", .type "BaseException", .type "object"] "ValueError.__new__" = true
  kP : PySem.W.keepIn K (.ref C) = true
  bP : PySem.W.subIn K (.ref C) (.type "BaseException") = some true
  tP : PySem.W.typeIn K (.ref C) = some (.type "type")
section
variable {X : Cx} {x m : Str} {CP : Addr} {W : WX} {j : Nat} {p p2 pos pos2 : Pos}
/-- raise X("..") -/
theorem ps_raiseP (hc : X.calm = true) (T : Pln X.K X.mg x CP) (tk : Takes X W) (hg : Gl X x := by rfl) (hdb : (x == ("__debug__" : Str)) = false := by decide) :
    PS X (.Raise (some (.Call (.Name x p) [.Constant (.str m) j p2] [] pos)) none pos2) (fun _ σ H => W (.ref CP) none σ H) :=
  ps_raise hc tk (pmk_own PySem.F.excBase_ValueError T.xP T.gP T.kP (raises_own T.bP T.tP) hg hdb)
end
/-- no ratio: its kind, and whether it is a short integer -/
def NoR (K : PySem.W.Frag) (C : Addr) (H : Hp) (y : V) (b : Bool) : Prop := ∃ t, TyX K H y t ∧ PySem.W.kitOne K t (.ref C) = some false ∧ Kd K H y b
section
variable {P : Program} {w : World} {K : PySem.W.Frag} {mg : Str → Option Value} {base : Heap} {C CE fE CR CO : Addr} {B newId : String} {bm : List Value}
/-- Ratio(..) as its callers have it -/
def HRatioK (P : Program) (w : World) (K : PySem.W.Frag) (mg : Str → Option Value) (base : Heap) (C CE : Addr) : Prop :=
  ∃ f fd, FnOk P w K mg base (L2.CX P w) 3 f fd ["self", "top", "bottom"] (spInitK K C CE) ∧ Mk K C f ∧ Binds K fd ["self", "top", "bottom"] [] ∧
    ∃ ds, Vals [V.int 1] ds ∧ Binds K fd ["self", "top", "bottom"] ds
def spOfK (K : PySem.W.Frag) (C CR : Addr) : Sp := fun vs H Q E => ∃ y : V, vs = [y] ∧
  ((∃ (q : Addr) (t b : Int), y = .ref q ∧ RatAt C H q t b ∧ Q (.ref q) H) ∨
   (∃ i : Int, y = .int i ∧ -LONG < i ∧ i < LONG ∧ ∀ (H' : Hp) (q : Addr), Same H H' → RatAt C H' q i 1 → Q (.ref q) H') ∨
   (NoR K C H y false ∧ E (.ref CR) none H))
theorem ok_ofK {f : Addr} {fd : FuncData} (F : Fun K "ratio_of" "ratio_of" sOf f fd) (G : Gn K mg C) (T : Pln K mg "InvalidRatio" CR) (S : HShK P w K mg base) (R : HRatioK P w K mg base C CE) :
    FnOk P w K mg base (L2.CX P w) 5 f fd ["value"] (spOfK K C CR) := by
  obtain ⟨fS, dS, GS, mS, kS, bS⟩ := S
  obtain ⟨fI, dI, GI, M, _, ds, vd, bD⟩ := R
  refine F.okX scOf (fun vs H Q E h => ?_) (fun cdv A outer s H vs Q E hr h => ?_)
  · obtain ⟨y, rfl, _⟩ := h
    rfl
  · obtain ⟨y, rfl, k⟩ := h
    refine ⟨_, pss_cons (ps_if (pt_val (pe_callB call_isi (by rfl) G.isi (by decide +kernel) (pa_cons (pv 0) (pa_cons (pe_glob rfl G.mgC (show RelV (.ref C) (.ref C) from rfl)) pa_nil)))) (pss_one (ps_ret (pv 0))) pss_nil)
      (pss_cons (ps_if (pt_not (pt_val (pe_call GS (hr.mono (by decide)) rfl mS kS bS .nil pass0 (pa_cons (pv 0) pa_nil)))) (pss_one (ps_raiseP rfl T (takes_of rfl rfl rfl rfl))) pss_nil)
      (pss_one (ps_ret (pe_make M GI hr rfl G.mgC bD vd passL (pa_cons (pv 0) pa_nil))))), ?_⟩
    rcases k with ⟨q, t, b, rfl, ⟨dx, hq⟩, k⟩ | ⟨i, rfl, i1, i2, k⟩ | ⟨⟨t, ty, no, kd⟩, k⟩
    · refine ⟨_, rfl, _, _, _, _, true, rfl, .own C, .base (.ins hq G.cl G.ca G.cn G.ct G.mo), (by unfold PySem.W.kitOne; simp), _, rfl, itT rfl ?_⟩
      exact ⟨_, rfl, k⟩
    · refine ⟨_, rfl, _, _, _, _, false, rfl, .own C, .base (.int i), G.ki, _, rfl, itF rfl ?_⟩
      have kd : Kd K H (.int i) true := by
        have := Kd.int (K := K) (H := H) i
        rw [both i1 i2] at this
        exact this
      refine ⟨_, rfl, _, _, rfl, kd, _, rfl, itF rfl ?_⟩
      refine ⟨_, rfl, fun x dx nx nd ne => ?_⟩
      refine ⟨x, dx, .int i, .int 1, true, true, rfl, upd_same, kd.same, Kd.int 1, (fun z => nomatch z), (fun _ z => nomatch z), fun t b et eb _ _ => ?_⟩
      cases et; cases eb
      refine ⟨(fun z => nomatch z), fun _ H' bu hx => ⟨rfl, ?_⟩⟩
      have e := low_int i
      rw [e.1, e.2] at hx
      refine k H' x (fun a o z => ?_) ⟨dx, hx⟩
      have nax := ne_of_none z nx
      refine bu a o nax ?_
      rw [upd_ne nax, upd_ne (ne_of_none z nd)]
      exact z
    · refine ⟨_, rfl, _, _, _, _, false, rfl, .own C, ty, no, _, rfl, itF rfl ?_⟩
      exact ⟨_, rfl, y, false, rfl, kd, _, rfl, itT rfl k⟩
def HOfK (P : Program) (w : World) (K : PySem.W.Frag) (mg : Str → Option Value) (base : Heap) (C CR : Addr) : Prop :=
  ∃ f fd, FnOk P w K mg base (L2.CX P w) 5 f fd ["value"] (spOfK K C CR) ∧ mg "ratio_of" = some (.ref f) ∧ PySem.W.keepIn K (.ref f) = true ∧ Binds K fd ["value"] []
end
end Lk

set_option Elab.async false
set_option linter.all false
set_option maxRecDepth 100000
set_option maxHeartbeats 4000000
set_option exponentiation.threshold 10000
namespace Lk
open PySem L2 Vx
/-! numbers: counts checked, binomials -/
section
variable {P : Program} {w : World} {K : PySem.W.Frag} {mg : Str → Option Value} {base : Heap} {C CE fE CT fT : Addr} {B newId B2 newId2 : String} {bm bm2 : List Value}
abbrev sIsI : Stmt := top 26
abbrev sChk : Stmt := top 30
abbrev sBin : Stmt := top 36
abbrev sFct : Stmt := top 39
theorem scIsI : FnScope ["value"] ["value"] (defScope sIsI) := ⟨rfl, rfl, rfl, by decide +kernel, rfl, by decide +kernel, by decide +kernel⟩
theorem ok_isI {f : Addr} {fd : FuncData} (F : Fun K "is_integer" "is_integer" sIsI f fd) (S : HShK P w K mg base) : FnOk P w K mg base CX0 2 f fd ["value"] (spShortK K) := by
  obtain ⟨fS, dS, GS, mS, kS, bS⟩ := S
  refine F.ok scIsI (fun vs H Q E h => ?_) (fun cdv A outer s H vs Q E hr h => ?_)
  · obtain ⟨y, b, rfl, _⟩ := h
    rfl
  · obtain ⟨y, b, rfl, kd, k⟩ := h
    refine ⟨_, pss_one (ps_ret (pe_call GS hr rfl mS kS bS .nil pass0 (pa_cons (pv 0) pa_nil))), ?_⟩
    exact ⟨_, rfl, y, b, rfl, kd, k⟩
abbrev HIsI (P : Program) (w : World) (K : PySem.W.Frag) (mg : Str → Option Value) (base : Heap) : Prop := Has P w K mg base "is_integer" 2 ["value"] (spShortK K)
/-- a count: short and within its bounds, or refused -/
def spChk (K : PySem.W.Frag) (CE : Addr) : Sp := fun vs H Q E => ∃ (y : V) (b : Bool) (lo hi : Int), vs = [y, .int lo, .int hi] ∧ Kd K H y b ∧
  (b = false → Ref CE "value" H E y) ∧ ∀ i : Int, y = .int i → b = true → (i < lo ∨ hi < i → Ref CE "value" H E y) ∧ (lo ≤ i → i ≤ hi → Q .non H)
theorem scChk : FnScope ["value", "low", "high"] ["value", "low", "high"] (defScope sChk) := ⟨rfl, rfl, rfl, by decide +kernel, rfl, by decide +kernel, by decide +kernel⟩
theorem ok_chk {f : Addr} {fd : FuncData} (F : Fun K "check_count" "check_count" sChk f fd) (T : ECls K mg "InvalidCount" "value" B newId bm CE fE) (S : HIsI P w K mg base) :
    FnOk P w K mg base (L2.CX P w) 4 f fd ["value", "low", "high"] (spChk K CE) := by
  obtain ⟨fS, dS, GS, mS, kS, bS⟩ := S
  refine F.okX scChk (fun vs H Q E h => ?_) (fun cdv A outer s H vs Q E hr h => ?_)
  · obtain ⟨y, b, lo, hi, rfl, _⟩ := h
    rfl
  · obtain ⟨y, b, lo, hi, rfl, kd, r1, r2⟩ := h
    refine ⟨_, pss_one (ps_if (PW.pt (pw_or (pt_not (pt_val (pe_call GS (hr.mono (by decide)) rfl mS kS bS .nil pass0 (pa_cons (pv 0) pa_nil)))) (pw_or (pt_cmpR op_lt (pv 0) (pv 1) (nomark _)) (pw_or1 (pt_cmpR op_gt (pv 0) (pv 2) (nomark _))))))
      (pss_one (ps_raiseE rfl T hr (takes_of rfl rfl rfl rfl) (pv 0))) pss_nil), ?_⟩
    cases b with
    | false => exact ⟨_, rfl, y, false, rfl, kd, _, rfl, itT rfl (itT rfl ⟨_, rfl, fun d hd => r1 rfl _ d (same_new hd) hd upd_same⟩)⟩
    | true =>
      obtain ⟨i, rfl, _, _⟩ := kd.short
      obtain ⟨q1, q2⟩ := r2 i rfl rfl
      refine ⟨_, rfl, _, true, rfl, kd, _, rfl, itF rfl ?_⟩
      refine ⟨_, rfl, _, rfl, _, _, rfl, rfl, _, rfl, ?_⟩
      by_cases c : i < lo
      · exact itT (decide_eq_true c) (itT rfl ⟨_, rfl, fun d hd => q1 (.inl c) _ d (same_new hd) hd upd_same⟩)
      · refine itF (decide_eq_false c) ?_
        refine ⟨_, rfl, _, rfl, _, _, rfl, rfl, _, rfl, ?_⟩
        by_cases c2 : hi < i
        · exact itT (decide_eq_true c2) ⟨_, rfl, fun d hd => q1 (.inr c2) _ d (same_new hd) hd upd_same⟩
        · exact itF (decide_eq_false c2) (q2 (by omega) (by omega))
def HChk (P : Program) (w : World) (K : PySem.W.Frag) (mg : Str → Option Value) (base : Heap) (CE : Addr) : Prop :=
  ∃ f fd, FnOk P w K mg base (L2.CX P w) 4 f fd ["value", "low", "high"] (spChk K CE) ∧ mg "check_count" = some (.ref f) ∧ PySem.W.keepIn K (.ref f) = true ∧ Binds K fd ["value", "low", "high"] []
/-- binomial(top, low) -/
def spBin (K : PySem.W.Frag) (CE : Addr) : Sp := fun vs H Q E => ∃ (y z : V) (b1 b2 : Bool), vs = [y, z] ∧ Kd K H y b1 ∧ Kd K H z b2 ∧
  ((b1 = false ∨ ∃ i, y = .int i ∧ (i < 0 ∨ 1000 < i)) → Ref CE "value" H E y) ∧
  (∀ i, b1 = true → y = .int i → 0 ≤ i → i ≤ 1000 → ((b2 = false ∨ ∃ j, z = .int j ∧ (j < 0 ∨ 1000 < j)) → Ref CE "value" H E z) ∧ ∀ j, b2 = true → z = .int j → 0 ≤ j → j ≤ 1000 → Q (.int (PySem.W.mcComb i j)) H)
theorem scBin : FnScope ["top", "low"] ["top", "low"] (defScope sBin) := ⟨rfl, rfl, rfl, by decide +kernel, rfl, by decide +kernel, by decide +kernel⟩
theorem ok_bin {f : Addr} {fd : FuncData} (F : Fun K "binomial" "binomial" sBin f fd) (S : HChk P w K mg base CE) (mC : mg "comb" = some (.builtin "math.comb")) (mM : ∃ t, mg "MAX_CHOSEN" = some (.int 1000 t)) :
    FnOk P w K mg base (L2.CX P w) 5 f fd ["top", "low"] (spBin K CE) := by
  obtain ⟨fS, dS, GS, mS, kS, bS⟩ := S
  obtain ⟨tk, hM⟩ := mM
  refine F.okX scBin (fun vs H Q E h => ?_) (fun cdv A outer s H vs Q E hr h => ?_)
  · obtain ⟨y, z, b1, b2, rfl, _⟩ := h
    rfl
  · obtain ⟨y, z, b1, b2, rfl, k1, k2, r1, r2⟩ := h
    refine ⟨_, pss_cons (ps_expr (pe_call GS hr rfl mS kS bS .nil (passes_call (takes_of rfl rfl rfl rfl) (fun _ _ _ _ h => h)) (pa_cons (pv 0) (pa_cons pe_int (pa_cons (pe_glob rfl hM (show RelV (.int 1000) (.int 1000 tk) from ⟨_, rfl⟩)) pa_nil)))))
      (pss_cons (ps_expr (pe_call GS hr rfl mS kS bS .nil (passes_call (takes_of rfl rfl rfl rfl) (fun _ _ _ _ h => h)) (pa_cons (pv 1) (pa_cons pe_int (pa_cons (pe_glob rfl hM (show RelV (.int 1000) (.int 1000 tk) from ⟨_, rfl⟩)) pa_nil)))))
      (pss_one (ps_ret (pe_callBfun cr_comb rfl mC (pa_cons (pv 0) (pa_cons (pv 1) pa_nil)))))), ?_⟩
    refine ⟨_, rfl, y, b1, 0, 1000, rfl, k1, fun z => r1 (.inl z), fun i ei eb => ⟨fun o => r1 (.inr ⟨i, ei, o⟩), fun i0 i1 => ?_⟩⟩
    obtain ⟨q1, q2⟩ := r2 i eb ei i0 i1
    refine ⟨_, rfl, z, b2, 0, 1000, rfl, k2, fun z => q1 (.inl z), fun j ej eb2 => ⟨fun o => q1 (.inr ⟨j, ej, o⟩), fun j0 j1 => ?_⟩⟩
    subst ei ej
    exact ⟨_, rfl, _, rfl, i, j, rfl, i0, j0, by omega, q2 j eb2 rfl j0 j1⟩
/-- what may be factored -/
def spFct (K : PySem.W.Frag) (CE CT : Addr) : Sp := fun vs H Q E => ∃ (y : V) (b : Bool), vs = [y] ∧ Kd K H y b ∧ (b = false → Ref CE "value" H E y) ∧
  ∀ i : Int, y = .int i → b = true → (i < 1 → Ref CE "value" H E y) ∧ (1000000000 < i → Ref CT "limit" H E (.int 1000000000)) ∧ (1 ≤ i → i ≤ 1000000000 → Q .non H)
theorem scFct : FnScope ["number"] ["number"] (defScope sFct) := ⟨rfl, rfl, rfl, by decide +kernel, rfl, by decide +kernel, by decide +kernel⟩
theorem ok_fct {f : Addr} {fd : FuncData} (F : Fun K "_check_factored" "_check_factored" sFct f fd) (T : ECls K mg "InvalidCount" "value" B newId bm CE fE) (T2 : ECls K mg "TooMany" "limit" B2 newId2 bm2 CT fT) (S : HIsI P w K mg base)
    (mM : ∃ t, mg "MAX_FACTORED" = some (.int 1000000000 t)) : FnOk P w K mg base (L2.CX P w) 4 f fd ["number"] (spFct K CE CT) := by
  obtain ⟨fS, dS, GS, mS, kS, bS⟩ := S
  obtain ⟨tk, hM⟩ := mM
  refine F.okX scFct (fun vs H Q E h => ?_) (fun cdv A outer s H vs Q E hr h => ?_)
  · obtain ⟨y, b, rfl, _⟩ := h
    rfl
  · obtain ⟨y, b, rfl, kd, r1, r2⟩ := h
    refine ⟨_, pss_cons (ps_if (PW.pt (pw_or (pt_not (pt_val (pe_call GS (hr.mono (by decide)) rfl mS kS bS .nil pass0 (pa_cons (pv 0) pa_nil)))) (pw_or1 (pt_cmpR op_lt (pv 0) pe_int (nomark _))))) (pss_one (ps_raiseE rfl T hr (takes_of rfl rfl rfl rfl) (pv 0))) pss_nil)
      (pss_one (ps_if (pt_cmpR op_gt (pv 0) (pe_glob rfl hM (show RelV (.int 1000000000) (.int 1000000000 tk) from ⟨_, rfl⟩)) (nomark _)) (pss_one (ps_raiseE rfl T2 hr (takes_of rfl rfl rfl rfl) (pe_glob rfl hM (show RelV (.int 1000000000) (.int 1000000000 tk) from ⟨_, rfl⟩)))) pss_nil)), ?_⟩
    cases b with
    | false => exact ⟨_, rfl, y, false, rfl, kd, _, rfl, itT rfl (itT rfl ⟨_, rfl, fun d hd => r1 rfl _ d (same_new hd) hd upd_same⟩)⟩
    | true =>
      obtain ⟨i, rfl, _, _⟩ := kd.short
      obtain ⟨q1, q2, q3⟩ := r2 i rfl rfl
      refine ⟨_, rfl, _, true, rfl, kd, _, rfl, itF rfl ?_⟩
      refine ⟨_, rfl, _, _, rfl, rfl, _, rfl, ?_⟩
      by_cases c : i < 1
      · exact itT (decide_eq_true c) ⟨_, rfl, fun d hd => q1 c _ d (same_new hd) hd upd_same⟩
      · refine itF (decide_eq_false c) ?_
        refine ⟨_, rfl, _, _, rfl, rfl, _, rfl, ?_⟩
        by_cases c2 : 1000000000 < i
        · exact itT (decide_eq_true c2) (fun d hd => q2 c2 _ d (same_new hd) hd upd_same)
        · exact itF (decide_eq_false c2) (q3 (by omega) (by omega))
end
end Lk

set_option Elab.async false
set_option linter.all false
set_option maxRecDepth 100000
set_option maxHeartbeats 4000000
set_option exponentiation.threshold 10000
namespace Lk
open PySem L2 Vx
/-! how often a prime divides -/
theorem pow_dvd_step {p r n : Int} {t : Nat} (h : r * p ^ t = n) (d : r % p = 0) (p0 : p ≠ 0) : r / p * p ^ (t + 1) = n := by
  have e : r / p * p = r := Int.ediv_mul_cancel (Int.dvd_of_emod_eq_zero d)
  rw [Int.pow_succ, Int.mul_comm (p ^ t) p, ← Int.mul_assoc, e, h]
theorem pow_dvd_end {p r n : Int} {t : Nat} (h : r * p ^ t = n) (d : r % p ≠ 0) (p0 : p ≠ 0) : p ^ t ∣ n ∧ ¬ p ^ (t + 1) ∣ n := by
  refine ⟨⟨r, by rw [← h, Int.mul_comm]⟩, fun ⟨c, hc⟩ => d ?_⟩
  have hp : p ^ t ≠ 0 := Int.pow_ne_zero p0
  have e : r * p ^ t = c * p * p ^ t := by
    rw [h, hc, Int.pow_succ, Int.mul_comm (p ^ t) p, Int.mul_comm (p * p ^ t) c, Int.mul_assoc]
  rw [Int.mul_eq_mul_right_iff hp |>.mp e]
  exact Int.mul_emod_left c p
theorem abs_div_lt {r p : Int} (h : 2 ≤ p) (r0 : r ≠ 0) (d : r % p = 0) : (r / p).natAbs < r.natAbs := by
  have e : r / p * p = r := Int.ediv_mul_cancel (Int.dvd_of_emod_eq_zero d)
  have e2 : (r / p).natAbs * p.natAbs = r.natAbs := by rw [← Int.natAbs_mul, e]
  have p2 : 2 ≤ p.natAbs := by omega
  have q0 : 0 < (r / p).natAbs := by
    rcases Nat.eq_zero_or_pos (r / p).natAbs with z | z
    · rw [z, Nat.zero_mul] at e2; omega
    · exact z
  have : (r / p).natAbs * 2 ≤ (r / p).natAbs * p.natAbs := Nat.mul_le_mul_left _ p2
  omega
section
variable {P : Program} {w : World} {K : PySem.W.Frag} {mg : Str → Option Value} {base : Heap}
abbrev sTd : Stmt := top 41
/-- the greatest power that divides: its exponent -/
def spTd : Sp := fun vs H Q _ => ∃ p n : Int, vs = [.int p, .int n] ∧ 2 ≤ p ∧ p.natAbs < 2 ^ 200 ∧ n ≠ 0 ∧ ∀ t : Nat, p ^ t ∣ n → ¬ p ^ (t + 1) ∣ n → Q (.int t) H
theorem scTd : FnScope ["prime", "number", "times", "rest"] ["prime", "number"] (defScope sTd) := ⟨rfl, rfl, rfl, by decide +kernel, rfl, by decide +kernel, by decide +kernel⟩
theorem ok_td {f : Addr} {fd : FuncData} (F : Fun K "_times_divided" "_times_divided" sTd f fd) : FnOk P w K mg base CX0 1 f fd ["prime", "number"] spTd := by
  refine F.ok scTd (fun vs H Q E h => ?_) (fun cdv A outer s H vs Q E hr h => ?_)
  · obtain ⟨p, n, rfl, _⟩ := h
    rfl
  · obtain ⟨p, n, rfl, p2, pb, n0, k⟩ := h
    refine ⟨_, pss_cons (ps_par (i := 2) (j := 3) (by rfl) scTd.nd rfl rfl (by decide) rfl rfl (pa_cons pe_int (pa_cons (pv 1) pa_nil)) (by rfl))
      (pss_cons (ps_while PassesOwn.never (pt_cmpR op_eq (pe_op op_mod (pv 3) (pv 0)) pe_int (nomark _))
        (pss_cons (ps_set (i := 3) scTd.nd rfl (.inl rfl) (pe_op op_fdivW (pv 3) (pv 0))) (pss_one (ps_aug (i := 2) scTd.nd rfl (.inl rfl) pe_int ip_add (.inl rfl)))))
      (pss_one (ps_ret (pv 2)))), ?_⟩
    refine ⟨_, rfl, _, _, rfl, ?_⟩
    refine while_by (fun σ H' => H' = H ∧ ∃ (t : Nat) (r : Int), σ = [some (.int p), some (.int n), some (.int t), some (.int r)] ∧ r ≠ 0 ∧ r * p ^ t = n)
      (fun σ _ => match σ with | [_, _, _, some (.int r)] => r.natAbs | _ => 0) ?_ ?_ ?_
    · exact ⟨rfl, 0, n, rfl, n0, by simp⟩
    · rintro σ H' ⟨rfl, t, r, rfl, r0, e⟩
      refine ⟨_, rfl, _, rfl, r, p, rfl, rfl, (by show 0 < p; omega), rfl, _, rfl, ?_⟩
      by_cases c : r % p = 0
      · refine itT (decide_eq_true (show V.int (r % p) = V.int 0 by rw [c])) ?_
        refine ⟨_, rfl, _, rfl, r, p, rfl, rfl, wide_div (by omega) pb (by decide) (by decide), ?_⟩
        refine ⟨_, rfl, _, _, rfl, rfl, ⟨rfl, t + 1, r / p, rfl, ?_, pow_dvd_step e c (by omega)⟩, ?_⟩
        · intro z
          have := Int.ediv_mul_cancel (Int.dvd_of_emod_eq_zero c)
          rw [z, Int.zero_mul] at this
          exact r0 this.symm
        · exact abs_div_lt p2 r0 c
      · refine itF (decide_eq_false (fun z => c (V.int.inj z))) ?_
        obtain ⟨a1, a2⟩ := pow_dvd_end e c (by omega)
        exact ⟨_, rfl, k t a1 a2⟩
    · rintro σ H' Q1 Q2 hq ⟨v, e1, v2, e2, i, j, a1, a2, a3, a4, q⟩
      obtain ⟨b', e3, q2⟩ := q
      exact ⟨v, e1, v2, e2, i, j, a1, a2, a3, a4, b', e3, hq _ _ q2⟩
end
end Lk

set_option Elab.async false
set_option linter.all false
set_option maxRecDepth 100000
set_option maxHeartbeats 4000000
set_option exponentiation.threshold 10000
namespace Lk
open PySem L2 Vx
/-! the least factor from a start on -/
def lfS (n lo : Int) (k : Nat) : Int := match (List.range k).find? (fun i => decide (n % (lo + (i : Nat) * 2) = 0)) with | some i => lo + (i : Nat) * 2 | none => n
def rt (n : Int) : Int := ((Float64.isqrt n.toNat : Nat) : Int) + 1
def lf (n s : Int) : Int := if s = 2 ∧ n % 2 = 0 then 2 else lfS n (Builtin.bitOr s 1) (Builtin.Range.rangeSize (Builtin.bitOr s 1) (rt n) 2).toNat
theorem find_at {p : Nat → Bool} {k i : Nat} (hi : i < k) (hp : p i = true) (no : ∀ j, j < i → p j = false) : (List.range k).find? p = some i := by
  rw [List.find?_range_eq_some]
  exact ⟨hp, List.mem_range.mpr hi, fun j hj => by rw [no j hj]; rfl⟩
theorem find_no {p : Nat → Bool} {k : Nat} (no : ∀ j, j < k → p j = false) : (List.range k).find? p = none := by
  rw [List.find?_range_eq_none]
  exact fun j hj => by rw [no j hj]; rfl
theorem or_lt {s : Int} (h0 : 0 ≤ s) (h1 : s < 2 ^ 40) : 0 ≤ Builtin.bitOr s 1 ∧ Builtin.bitOr s 1 < 2 ^ 40 := by
  rw [bitOr_nn h0 (by decide)]
  have h2 : s.toNat < 2 ^ 40 := by omega
  have h3 := Nat.or_lt_two_pow h2 (show (1 : Int).toNat < 2 ^ 40 by decide)
  constructor
  · exact Int.natCast_nonneg _
  · have e : ((2 : Int) ^ 40) = ((2 ^ 40 : Nat) : Int) := by decide
    rw [e]
    exact Int.ofNat_lt.mpr h3
theorem or_ge {s : Int} (h0 : 0 ≤ s) : 1 ≤ Builtin.bitOr s 1 := by
  rw [bitOr_nn h0 (by decide)]
  have : 1 ≤ s.toNat ||| (1 : Int).toNat := Nat.right_le_or
  omega
theorem small2 {a b : Int} (ha : -(2 ^ 62) ≤ a) (ha2 : a < 2 ^ 62) (hb : -(2 ^ 62) ≤ b) (hb2 : b < 2 ^ 62) : Builtin.Range.small a b 2 = true := by
  unfold Builtin.Range.small Builtin.Range.rangeSize
  simp only [Builtin.Range.rangeFitsLong, Bool.and_eq_true, Bool.or_eq_true, decide_eq_true_eq, beq_iff_eq, show (2 : Int) > 0 by decide, if_true]
  split <;> omega
theorem rt_lt {n : Int} (h0 : 0 ≤ n) (h1 : n < 2 ^ 40) : 0 ≤ rt n ∧ rt n < 2 ^ 41 := by
  unfold rt
  have : Float64.isqrt n.toNat ≤ n.toNat := by
    have q := (PySem.Float64.isqrt_spec n.toNat).1
    rcases Nat.eq_zero_or_pos (Float64.isqrt n.toNat) with z | z
    · omega
    · exact Nat.le_trans (Nat.le_mul_of_pos_left _ z) q
  omega
section
variable {P : Program} {w : World} {K : PySem.W.Frag} {mg : Str → Option Value} {base : Heap}
abbrev sLf : Stmt := top 40
def spLf : Sp := fun vs H Q _ => ∃ n s : Int, vs = [.int n, .int s] ∧ 2 ≤ n ∧ n < 2 ^ 40 ∧ 2 ≤ s ∧ s < 2 ^ 40 ∧ Q (.int (lf n s)) H
theorem scLf : FnScope ["number", "start", "factor"] ["number", "start"] (defScope sLf) := ⟨rfl, rfl, rfl, by decide +kernel, rfl, by decide +kernel, by decide +kernel⟩
theorem ok_lf {f : Addr} {fd : FuncData} (F : Fun K "_least_factor" "_least_factor" sLf f fd) (mI : mg "isqrt" = some (.builtin "math.isqrt")) (mR : mg "range" = none) : FnOk P w K mg base CX0 1 f fd ["number", "start"] spLf := by
  refine F.ok scLf (fun vs H Q E h => ?_) (fun cdv A outer s H vs Q E hr h => ?_)
  · obtain ⟨n, st, rfl, _⟩ := h
    rfl
  · obtain ⟨n, st, rfl, n2, n3, s2, s3, k⟩ := h
    refine ⟨_, pss_cons (ps_if (PW.pt (pw_and (pt_cmpR op_eq (pv 1) pe_int (nomark _)) (pw_and1 (pt_cmpR op_eq (pe_op op_mod (pv 0) pe_int) pe_int (nomark _))))) (pss_one (ps_ret pe_int)) pss_nil)
      (pss_cons (ps_for PassesOwn.never rfl (pi_range3 rfl mR (pa_cons (pe_op op_or (pv 1) pe_int) (pa_cons (pe_op op_add (pe_callBfun cr_isqrt rfl mI (pa_cons (pv 0) pa_nil)) pe_int) (pa_cons pe_int pa_nil)))) (pg_name (i := 2) scLf.nd rfl (.inl rfl))
        (pss_one (ps_if (pt_cmpR op_eq (pe_op op_mod (pv 0) (pv 2)) pe_int (nomark _)) (pss_one (ps_ret (pv 2))) pss_nil)))
      (pss_one (ps_ret (pv 0)))), ?_⟩
    have ol := or_lt (s := st) (by omega) s3
    have og := or_ge (s := st) (by omega)
    have rl := rt_lt (n := n) (by omega) n3
    have tail : ¬ (st = 2 ∧ n % 2 = 0) → lf n st = lfS n (Builtin.bitOr st 1) (Builtin.Range.rangeSize (Builtin.bitOr st 1) (rt n) 2).toNat := fun h => by unfold lf; rw [if_neg h]
    refine ⟨_, rfl, rfl, _, rfl, ?_⟩
    by_cases a : st = 2
    · refine itT (decide_eq_true (by rw [a])) ?_
      refine ⟨_, rfl, n, 2, rfl, rfl, (by show (0 : Int) < 2; decide), rfl, _, rfl, ?_⟩
      by_cases b : n % 2 = 0
      · refine itT (decide_eq_true (show V.int (n % 2) = V.int 0 by rw [b])) ?_
        have e : lf n st = 2 := by unfold lf; rw [if_pos ⟨a, b⟩]
        rw [e] at k
        exact k
      · refine itF (decide_eq_false (fun z => b (V.int.inj z))) ?_
        refine ⟨_, rfl, _, _, rfl, rfl, _, rfl, n, rfl, by omega, by omega, _, _, rfl, rfl, Builtin.bitOr st 1, rt n, 2, (Builtin.Range.rangeSize (Builtin.bitOr st 1) (rt n) 2).toNat, rfl, ⟨by decide, by decide, small2 (by omega) (by omega) (by omega) (by omega), PyProof.Rows.rangeSize_toNat _ _ _⟩,
          for_rangeC (fun i σ H' => H' = H ∧ ∃ v : Option V, σ = [some (.int n), some (.int st), v] ∧ ∀ j : Nat, j < i → n % (Builtin.bitOr st 1 + (j : Nat) * 2) ≠ 0) ⟨rfl, none, rfl, fun j hj => absurd hj (Nat.not_lt_zero j)⟩ ?_ ?_⟩
        · rintro i σ H' hi ⟨rfl, v, rfl, no⟩
          have pos : 0 < Builtin.bitOr st 1 + (i : Nat) * 2 := by omega
          refine ⟨_, rfl, _, rfl, n, Builtin.bitOr st 1 + (i : Nat) * 2, rfl, rfl, pos, rfl, _, rfl, ?_⟩
          by_cases c : n % (Builtin.bitOr st 1 + (i : Nat) * 2) = 0
          · refine itT (decide_eq_true (show V.int (n % (Builtin.bitOr st 1 + (i : Nat) * 2)) = V.int 0 by rw [c])) ⟨_, rfl, ?_⟩
            have e : lf n st = Builtin.bitOr st 1 + (i : Nat) * 2 := by
              rw [tail (fun h => b h.2)]
              unfold lfS
              rw [find_at hi (decide_eq_true c) (fun j hj => decide_eq_false (no j hj))]
            rw [e] at k
            exact k
          · refine itF (decide_eq_false (fun z => c (V.int.inj z))) ⟨rfl, _, rfl, fun j hj => ?_⟩
            rcases Nat.lt_succ_iff_lt_or_eq.mp hj with q | q
            · exact no j q
            · rw [q]; exact c
        · rintro σ H' ⟨rfl, v, rfl, no⟩
          have e : lf n st = n := by
            rw [tail (fun h => b h.2)]
            unfold lfS
            rw [find_no (fun j hj => decide_eq_false (no j hj))]
          rw [e] at k
          exact ⟨_, rfl, k⟩
    · refine itF (decide_eq_false (fun z => a (V.int.inj z))) (itF rfl ?_)
      refine ⟨_, rfl, _, _, rfl, rfl, _, rfl, n, rfl, by omega, by omega, _, _, rfl, rfl, Builtin.bitOr st 1, rt n, 2, (Builtin.Range.rangeSize (Builtin.bitOr st 1) (rt n) 2).toNat, rfl, ⟨by decide, by decide, small2 (by omega) (by omega) (by omega) (by omega), PyProof.Rows.rangeSize_toNat _ _ _⟩,
        for_rangeC (fun i σ H' => H' = H ∧ ∃ v : Option V, σ = [some (.int n), some (.int st), v] ∧ ∀ j : Nat, j < i → n % (Builtin.bitOr st 1 + (j : Nat) * 2) ≠ 0) ⟨rfl, none, rfl, fun j hj => absurd hj (Nat.not_lt_zero j)⟩ ?_ ?_⟩
      · rintro i σ H' hi ⟨rfl, v, rfl, no⟩
        have pos : 0 < Builtin.bitOr st 1 + (i : Nat) * 2 := by omega
        refine ⟨_, rfl, _, rfl, n, Builtin.bitOr st 1 + (i : Nat) * 2, rfl, rfl, pos, rfl, _, rfl, ?_⟩
        by_cases c : n % (Builtin.bitOr st 1 + (i : Nat) * 2) = 0
        · refine itT (decide_eq_true (show V.int (n % (Builtin.bitOr st 1 + (i : Nat) * 2)) = V.int 0 by rw [c])) ⟨_, rfl, ?_⟩
          have e : lf n st = Builtin.bitOr st 1 + (i : Nat) * 2 := by
            rw [tail (fun h => a h.1)]
            unfold lfS
            rw [find_at hi (decide_eq_true c) (fun j hj => decide_eq_false (no j hj))]
          rw [e] at k
          exact k
        · refine itF (decide_eq_false (fun z => c (V.int.inj z))) ⟨rfl, _, rfl, fun j hj => ?_⟩
          rcases Nat.lt_succ_iff_lt_or_eq.mp hj with q | q
          · exact no j q
          · rw [q]; exact c
      · rintro σ H' ⟨rfl, v, rfl, no⟩
        have e : lf n st = n := by
          rw [tail (fun h => a h.1)]
          unfold lfS
          rw [find_no (fun j hj => decide_eq_false (no j hj))]
        rw [e] at k
        exact ⟨_, rfl, k⟩
end
end Lk

set_option Elab.async false
set_option linter.all false
set_option maxRecDepth 100000
set_option maxHeartbeats 4000000
set_option exponentiation.threshold 10000
namespace Lk
open PySem L2 Vx
/-! primes judged and checked; valuations -/
section
variable {P : Program} {w : World} {K : PySem.W.Frag} {mg : Str → Option Value} {base : Heap} {C CE CR CO CPr : Addr}
abbrev sPr : Stmt := top 28
abbrev sCp : Stmt := top 29
abbrev sVal : Stmt := top 35
abbrev HLf (P : Program) (w : World) (K : PySem.W.Frag) (mg : Str → Option Value) (base : Heap) : Prop := Has P w K mg base "_least_factor" 1 ["number", "start"] spLf
def isP (i : Int) : Bool := decide (2 ≤ i) && (decide (i ≤ 1000000000) && decide (lf i 2 = i))
def spPr (K : PySem.W.Frag) : Sp := fun vs H Q _ => ∃ (y : V) (b : Bool), vs = [y] ∧ Kd K H y b ∧ (b = false → Q (.bl false) H) ∧ ∀ i : Int, y = .int i → b = true → Q (.bl (isP i)) H
theorem scPr : FnScope ["value"] ["value"] (defScope sPr) := ⟨rfl, rfl, rfl, by decide +kernel, rfl, by decide +kernel, by decide +kernel⟩
theorem ok_pr {f : Addr} {fd : FuncData} (F : Fun K "is_prime" "is_prime" sPr f fd) (S : HIsI P w K mg base) (L : HLf P w K mg base) (mM : ∃ t, mg "MAX_FACTORED" = some (.int 1000000000 t)) :
    FnOk P w K mg base CX0 3 f fd ["value"] (spPr K) := by
  obtain ⟨fS, dS, GS, mS, kS, bS⟩ := S
  obtain ⟨fL, dL, GL, mL, kL, bL⟩ := L
  obtain ⟨tk, hM⟩ := mM
  refine F.ok scPr (fun vs H Q E h => ?_) (fun cdv A outer s H vs Q E hr h => ?_)
  · obtain ⟨y, b, rfl, _⟩ := h
    rfl
  · obtain ⟨y, b, rfl, kd, r1, r2⟩ := h
    refine ⟨_, pss_cons (ps_if (PW.pt (pw_or (pt_not (pt_val (pe_call GS (hr.mono (by decide)) rfl mS kS bS .nil pass0 (pa_cons (pv 0) pa_nil)))) (pw_or (pt_cmpR op_lt (pv 0) pe_int (nomark _)) (pw_or1 (pt_cmpR op_gt (pv 0) (pe_glob rfl hM (show RelV (.int 1000000000) (.int 1000000000 tk) from ⟨_, rfl⟩)) (nomark _))))))
        (pss_one (ps_ret pe_bl)) pss_nil)
      (pss_one (ps_ret (pe_cmpR op_eq (pe_call GL (hr.mono (by decide)) rfl mL kL bL .nil pass0 (pa_cons (pv 0) (pa_cons pe_int pa_nil))) (pv 0) (nomark _)))), ?_⟩
    cases b with
    | false => exact ⟨_, rfl, y, false, rfl, kd, _, rfl, itT rfl (itT rfl (r1 rfl))⟩
    | true =>
      obtain ⟨i, rfl, _, _⟩ := kd.short
      have k := r2 i rfl rfl
      unfold isP at k
      refine ⟨_, rfl, _, true, rfl, kd, _, rfl, itF rfl ?_⟩
      refine ⟨_, rfl, _, _, rfl, rfl, _, rfl, ?_⟩
      by_cases c : i < 2
      · rw [decide_eq_false (show ¬ 2 ≤ i by omega), Bool.false_and] at k
        exact itT (decide_eq_true c) (itT rfl k)
      · refine itF (decide_eq_false c) ?_
        rw [decide_eq_true (show 2 ≤ i by omega), Bool.true_and] at k
        refine ⟨_, rfl, _, _, rfl, rfl, _, rfl, ?_⟩
        by_cases c2 : 1000000000 < i
        · rw [decide_eq_false (show ¬ i ≤ 1000000000 by omega), Bool.false_and] at k
          exact itT (decide_eq_true c2) k
        · refine itF (decide_eq_false c2) ?_
          rw [decide_eq_true (show i ≤ 1000000000 by omega), Bool.true_and] at k
          refine ⟨_, rfl, i, 2, rfl, by omega, by omega, by decide, by decide, _, rfl, rfl, ?_⟩
          have e : decide (V.int (lf i 2) = V.int i) = decide (lf i 2 = i) := by
            by_cases z : lf i 2 = i
            · rw [decide_eq_true z, decide_eq_true (by rw [z])]
            · rw [decide_eq_false z, decide_eq_false (fun q => z (V.int.inj q))]
          rw [e]
          exact k
abbrev HPr (P : Program) (w : World) (K : PySem.W.Frag) (mg : Str → Option Value) (base : Heap) : Prop := Has P w K mg base "is_prime" 3 ["value"] (spPr K)
def spCp (K : PySem.W.Frag) (CPr : Addr) : Sp := fun vs H Q E => ∃ (y : V) (b : Bool), vs = [y] ∧ Kd K H y b ∧ (b = false → E (.ref CPr) none H) ∧
  ∀ i : Int, y = .int i → b = true → ((isP i = false ∨ 997 < i) → E (.ref CPr) none H) ∧ (isP i = true → i ≤ 997 → Q .non H)
theorem scCp : FnScope ["prime"] ["prime"] (defScope sCp) := ⟨rfl, rfl, rfl, by decide +kernel, rfl, by decide +kernel, by decide +kernel⟩
theorem ok_cp {f : Addr} {fd : FuncData} (F : Fun K "check_prime" "check_prime" sCp f fd) (T : Pln K mg "InvalidPrime" CPr) (S : HPr P w K mg base) (mM : ∃ t, mg "MAX_PRIME" = some (.int 997 t)) :
    FnOk P w K mg base (L2.CX P w) 4 f fd ["prime"] (spCp K CPr) := by
  obtain ⟨fS, dS, GS, mS, kS, bS⟩ := S
  obtain ⟨tk, hM⟩ := mM
  refine F.okX scCp (fun vs H Q E h => ?_) (fun cdv A outer s H vs Q E hr h => ?_)
  · obtain ⟨y, b, rfl, _⟩ := h
    rfl
  · obtain ⟨y, b, rfl, kd, r1, r2⟩ := h
    refine ⟨_, pss_one (ps_if (PW.pt (pw_or (pt_not (pt_val (pe_call GS hr rfl mS kS bS .nil pass0 (pa_cons (pv 0) pa_nil)))) (pw_or1 (pt_cmpR op_gt (pv 0) (pe_glob rfl hM (show RelV (.int 997) (.int 997 tk) from ⟨_, rfl⟩)) (nomark _)))))
        (pss_one (ps_raiseP rfl T (takes_of rfl rfl rfl rfl))) pss_nil), ?_⟩
    cases b with
    | false => exact ⟨_, rfl, y, false, rfl, kd, fun _ => ⟨_, rfl, itT rfl (itT rfl (r1 rfl))⟩, fun _ _ z => nomatch z⟩
    | true =>
      obtain ⟨i, rfl, _, _⟩ := kd.short
      obtain ⟨q1, q2⟩ := r2 i rfl rfl
      refine ⟨_, rfl, _, true, rfl, kd, (fun z => nomatch z), fun j ej _ => ?_⟩
      cases ej
      refine ⟨_, rfl, ?_⟩
      by_cases c : isP i = true
      · refine itF (by rw [c]; rfl) ?_
        refine ⟨_, rfl, _, _, rfl, rfl, _, rfl, ?_⟩
        by_cases c2 : 997 < i
        · exact itT (decide_eq_true c2) (q1 (.inr c2))
        · exact itF (decide_eq_false c2) (q2 c (by omega))
      · have c' : isP i = false := by simpa using c
        exact itT (by rw [c']; rfl) (itT rfl (q1 (.inl c')))
end
end Lk

set_option Elab.async false
set_option linter.all false
set_option maxRecDepth 100000
set_option maxHeartbeats 4000000
set_option exponentiation.threshold 10000
namespace Lk
open PySem L2 Vx
section
variable {P : Program} {w : World} {K : PySem.W.Frag} {mg : Str → Option Value} {base : Heap} {C CE CR CO CPr : Addr}
def spVal (K : PySem.W.Frag) (C CR CO CPr : Addr) : Sp := fun vs H Q E => ∃ y z : V, vs = [y, z] ∧
  (((∃ b1, Kd K H y b1 ∧ (b1 = false ∨ ∃ i, y = .int i ∧ (isP i = false ∨ 997 < i))) ∧ E (.ref CPr) none H) ∨
   ∃ i : Int, y = .int i ∧ isP i = true ∧ i ≤ 997 ∧
     ((NoR K C H z false ∧ E (.ref CR) none H) ∨ ((z = .int 0 ∨ ∃ q b, z = .ref q ∧ RatAt C H q 0 b) ∧ ∀ H', Same H H' → E (.ref CO) none H') ∨
      ∃ t b : Int, Arg C H z t b ∧ t ≠ 0 ∧ b ≠ 0 ∧ ∀ (H' : Hp) (u v : Nat), Same H H' → i ^ u ∣ t → ¬ i ^ (u + 1) ∣ t → i ^ v ∣ b → ¬ i ^ (v + 1) ∣ b → Q (.int ((u : Int) - v)) H'))
theorem scVal : FnScope ["prime", "number", "ratio"] ["prime", "number"] (defScope sVal) := ⟨rfl, rfl, rfl, by decide +kernel, rfl, by decide +kernel, by decide +kernel⟩
def HCp (P : Program) (w : World) (K : PySem.W.Frag) (mg : Str → Option Value) (base : Heap) (CPr : Addr) : Prop :=
  ∃ f fd, FnOk P w K mg base (L2.CX P w) 4 f fd ["prime"] (spCp K CPr) ∧ mg "check_prime" = some (.ref f) ∧ PySem.W.keepIn K (.ref f) = true ∧ Binds K fd ["prime"] []
theorem isP_kd {K : PySem.W.Frag} {H : Hp} {i : Int} (h : i ≤ 997) (p : isP i = true) : Kd K H (.int i) true ∧ 2 ≤ i := by
  have p2 : 2 ≤ i := by
    unfold isP at p
    exact of_decide_eq_true (Bool.and_eq_true_iff.mp p).1
  refine ⟨?_, p2⟩
  have := Kd.int (K := K) (H := H) i
  rw [both (by unfold LONG; omega) (by unfold LONG; omega)] at this
  exact this
theorem ok_val {f : Addr} {fd : FuncData} (F : Fun K "valuation" "valuation" sVal f fd) (G : Gn K mg C) (Cp : HCp P w K mg base CPr) (O : HOfK P w K mg base C CR) (T : Pln K mg "InvalidOperation" CO)
    (Tp : HasP P w K mg base C "top" 1 (spTop C)) (Bp : HasP P w K mg base C "bottom" 1 (spBot C)) (D : Has P w K mg base "_times_divided" 1 ["prime", "number"] spTd) :
    FnOk P w K mg base (L2.CX P w) 6 f fd ["prime", "number"] (spVal K C CR CO CPr) := by
  obtain ⟨fC, dC, GC, mC, kC, bC⟩ := Cp
  obtain ⟨fO, dO, GO, mO, kO, bO⟩ := O
  obtain ⟨p1, g1, d1, pT, GT, bT⟩ := Tp
  obtain ⟨p2, g2, d2, pB, GB, bB⟩ := Bp
  obtain ⟨fD, dD, GD, mD, kD, bD⟩ := D
  refine F.okX scVal (fun vs H Q E h => ?_) (fun cdv A outer s H vs Q E hr h => ?_)
  · obtain ⟨y, z, rfl, _⟩ := h
    rfl
  · obtain ⟨y, z, rfl, k⟩ := h
    refine ⟨_, pss_cons (ps_expr (pe_call GC (hr.mono (by decide)) rfl mC kC bC .nil (passes_call (takes_of rfl rfl rfl rfl) (fun _ _ _ _ h => h)) (pa_cons (pv 0) pa_nil)))
      (pss_cons (ps_set (i := 2) scVal.nd rfl (.inl rfl) (pe_call GO hr rfl mO kO bO .nil (passes_call (takes_of rfl rfl rfl rfl) (fun _ _ _ _ h => h)) (pa_cons (pv 1) pa_nil)))
      (pss_cons (ps_if (pt_cmpR op_eq (pe_prop (pv 2) G.cl pT GT (hr.mono (by decide)) bT .nil pass0 rfl) pe_int (nomark _)) (pss_one (ps_raiseP rfl T (takes_of rfl rfl rfl rfl))) pss_nil)
      (pss_one (ps_ret (pe_op op_sub (pe_call GD (hr.mono (by decide)) rfl mD kD bD .nil pass0 (pa_cons (pv 0) (pa_cons (pe_prop (pv 2) G.cl pT GT (hr.mono (by decide)) bT .nil pass0 rfl) pa_nil)))
        (pe_call GD (hr.mono (by decide)) rfl mD kD bD .nil pass0 (pa_cons (pv 0) (pa_cons (pe_prop (pv 2) G.cl pB GB (hr.mono (by decide)) bB .nil pass0 rfl) pa_nil)))))))), ?_⟩
    rcases k with ⟨⟨b1, kd, why⟩, k⟩ | ⟨i, rfl, ip, i9, k⟩
    · refine ⟨_, rfl, y, b1, rfl, kd, fun _ => k, fun i ei eb => ⟨fun _ => k, fun a1 a2 => ?_⟩⟩
      rcases why with w1 | ⟨j, ej, w2⟩
      · rw [eb] at w1; cases w1
      · rw [ei] at ej; cases ej
        rcases w2 with w2 | w2
        · rw [a1] at w2; cases w2
        · omega
    · obtain ⟨kd, i2⟩ := isP_kd (K := K) (H := H) i9 ip
      have ib : i.natAbs < 2 ^ 200 := Nat.lt_of_le_of_lt (show i.natAbs ≤ 997 by omega) (by decide)
      refine ⟨_, rfl, _, true, rfl, kd, (fun z => nomatch z), fun j ej _ => ⟨fun w2 => ?_, fun _ _ => ?_⟩⟩
      · cases ej
        rcases w2 with w2 | w2
        · rw [ip] at w2; cases w2
        · omega
      · have fin : ∀ (H' : Hp) (q : Addr) (t b : Int), Same H H' → RatAt C H' q t b → t ≠ 0 → b ≠ 0 → (∀ (H' : Hp) (u v : Nat), Same H H' → i ^ u ∣ t → ¬ i ^ (u + 1) ∣ t → i ^ v ∣ b → ¬ i ^ (v + 1) ∣ b → Q (.int ((u : Int) - v)) H') → True := fun _ _ _ _ _ _ _ _ _ => trivial
        rcases k with ⟨hz, k⟩ | ⟨rfl | ⟨q, b, rfl, dx, hq⟩, k⟩ | ⟨t, b, ar, t0, b0, k⟩
        · exact ⟨_, rfl, z, rfl, .inr (.inr ⟨hz, k⟩)⟩
        · refine ⟨_, rfl, _, rfl, .inr (.inl ⟨0, rfl, by decide, by decide, fun H1 q s1 ⟨dx, hq⟩ => ?_⟩)⟩
          exact ⟨_, rfl, q, dx, _, rfl, hq, q, dx, _, _, rfl, hq, rf_t _ _, rfl, _, rfl, itT rfl (k _ s1)⟩
        · refine ⟨_, rfl, _, rfl, .inl ⟨q, 0, b, rfl, ⟨dx, hq⟩, ?_⟩⟩
          exact ⟨_, rfl, q, dx, _, rfl, hq, q, dx, _, _, rfl, hq, rf_t _ _, rfl, _, rfl, itT rfl (k _ (same_refl H))⟩
        · rcases ar with ⟨q, rfl, dx, hq⟩ | ⟨rfl, rfl, l1, l2⟩
          · refine ⟨_, rfl, _, rfl, .inl ⟨q, t, b, rfl, ⟨dx, hq⟩, ?_⟩⟩
            refine ⟨_, rfl, q, dx, _, rfl, hq, q, dx, _, _, rfl, hq, rf_t _ _, rfl, _, rfl, itF (decide_eq_false (fun z => t0 (V.int.inj z))) ?_⟩
            refine ⟨_, rfl, _, rfl, q, dx, _, rfl, hq, q, dx, _, _, rfl, hq, rf_t _ _, i, t, rfl, i2, ib, t0, fun u u1 u2 => ?_⟩
            exact ⟨_, rfl, _, rfl, q, dx, _, rfl, hq, q, dx, _, _, rfl, hq, rf_b _ _, i, b, rfl, i2, ib, b0, fun v v1 v2 => ⟨_, _, rfl, rfl, k _ u v (same_refl H) u1 u2 v1 v2⟩⟩
          · refine ⟨_, rfl, _, rfl, .inr (.inl ⟨t, rfl, l1, l2, fun H1 q s1 ⟨dx, hq⟩ => ?_⟩)⟩
            refine ⟨_, rfl, q, dx, _, rfl, hq, q, dx, _, _, rfl, hq, rf_t _ _, rfl, _, rfl, itF (decide_eq_false (fun z => t0 (V.int.inj z))) ?_⟩
            refine ⟨_, rfl, _, rfl, q, dx, _, rfl, hq, q, dx, _, _, rfl, hq, rf_t _ _, i, t, rfl, i2, ib, t0, fun u u1 u2 => ?_⟩
            exact ⟨_, rfl, _, rfl, q, dx, _, rfl, hq, q, dx, _, _, rfl, hq, rf_b _ _, i, 1, rfl, i2, ib, by decide, fun v v1 v2 => ⟨_, _, rfl, rfl, k _ u v s1 u1 u2 v1 v2⟩⟩
end
end Lk

set_option Elab.async false
set_option linter.all false
set_option maxRecDepth 100000
set_option maxHeartbeats 4000000
set_option exponentiation.threshold 10000
namespace Lk
open PySem L2 Vx
/-! prime powers -/
theorem pow_dvd_le {g : Int} {t u : Nat} (h : t ≤ u) : g ^ t ∣ g ^ u := by
  obtain ⟨m, rfl⟩ := Nat.le.dest h
  exact ⟨g ^ m, Int.pow_add g t m⟩
theorem pow_uniq {g n : Int} {t u : Nat} (h1 : g ^ t ∣ n) (h2 : ¬ g ^ (t + 1) ∣ n) (h3 : g ^ u ∣ n) (h4 : ¬ g ^ (u + 1) ∣ n) : t = u := by
  rcases Nat.lt_trichotomy t u with c | c | c
  · exact absurd (Int.dvd_trans (pow_dvd_le c) h3) h2
  · exact c
  · exact absurd (Int.dvd_trans (pow_dvd_le c) h1) h4
def mlt (g : Int) : Nat → Int → Nat
  | 0, _ => 0
  | k + 1, r => if r % g = 0 then mlt g k (r / g) + 1 else 0
theorem mlt_spec {g : Int} (g2 : 2 ≤ g) : ∀ (k : Nat) (r : Int), r ≠ 0 → r.natAbs < 2 ^ k → g ^ mlt g k r ∣ r ∧ ¬ g ^ (mlt g k r + 1) ∣ r
  | 0, r, h0, h => absurd (Int.natAbs_eq_zero.mp (by omega)) h0
  | k + 1, r, h0, h => by
    unfold mlt
    by_cases c : r % g = 0
    · rw [if_pos c]
      have e : r / g * g = r := Int.ediv_mul_cancel (Int.dvd_of_emod_eq_zero c)
      have q0 : r / g ≠ 0 := fun z => by rw [z, Int.zero_mul] at e; exact h0 e.symm
      have lt : (r / g).natAbs < 2 ^ k := by
        have e2 : (r / g).natAbs * g.natAbs = r.natAbs := by rw [← Int.natAbs_mul, e]
        have : (r / g).natAbs * 2 ≤ (r / g).natAbs * g.natAbs := Nat.mul_le_mul_left _ (by omega)
        rw [Nat.pow_succ] at h
        omega
      obtain ⟨a, b⟩ := mlt_spec g2 k (r / g) q0 lt
      constructor
      · rw [Int.pow_succ]
        have z := Int.mul_dvd_mul_right g a
        rw [e] at z
        exact z
      · intro z
        rw [Int.pow_succ] at z
        have z' : g ^ (mlt g k (r / g) + 1) * g ∣ r / g * g := by rw [e]; exact z
        exact b (Int.dvd_of_mul_dvd_mul_right (by omega) z')
    · rw [if_neg c]
      refine ⟨by rw [Int.pow_zero]; exact Int.one_dvd r, fun z => c ?_⟩
      rw [Nat.zero_add, Int.pow_one] at z
      exact Int.emod_eq_zero_of_dvd z
def ex (g r : Int) : Nat := mlt g 40 r
theorem ex_is {g r : Int} {t : Nat} (g2 : 2 ≤ g) (r0 : r ≠ 0) (hr : r.natAbs < 2 ^ 40) (h1 : g ^ t ∣ r) (h2 : ¬ g ^ (t + 1) ∣ r) : t = ex g r :=
  pow_uniq h1 h2 (mlt_spec g2 40 r r0 hr).1 (mlt_spec g2 40 r r0 hr).2
theorem lfS_is (n lo : Int) (k : Nat) : lfS n lo k = n ∨ (∃ i : Nat, i < k ∧ lfS n lo k = lo + (i : Nat) * 2 ∧ n % (lo + (i : Nat) * 2) = 0) := by
  unfold lfS
  cases e : (List.range k).find? (fun i => decide (n % (lo + (i : Nat) * 2) = 0)) with
  | none => exact .inl rfl
  | some i =>
    refine .inr ⟨i, ?_, rfl, ?_⟩
    · exact List.mem_range.mp (List.mem_of_find?_eq_some e)
    · exact of_decide_eq_true (show decide (n % (lo + (i : Nat) * 2) = 0) = true from List.find?_some (p := fun i => decide (n % (lo + ((i : Nat) : Int) * 2) = 0)) e)
theorem or_self {s : Int} (h0 : 0 ≤ s) : s ≤ Builtin.bitOr s 1 := by
  rw [bitOr_nn h0 (by decide)]
  have : s.toNat ≤ s.toNat ||| (1 : Int).toNat := Nat.left_le_or
  omega
theorem lf_good {n s : Int} (n2 : 2 ≤ n) (s2 : 2 ≤ s) : 2 ≤ lf n s ∧ lf n s ∣ n := by
  unfold lf
  split
  · rename_i h
    exact ⟨by decide, Int.dvd_of_emod_eq_zero h.2⟩
  · have o := or_self (s := s) (by omega)
    rcases lfS_is n (Builtin.bitOr s 1) (Builtin.Range.rangeSize (Builtin.bitOr s 1) (rt n) 2).toNat with e | ⟨i, hi, e, m⟩
    · rw [e]
      exact ⟨n2, Int.dvd_refl n⟩
    · rw [e]
      exact ⟨by omega, Int.dvd_of_emod_eq_zero m⟩
/-- what is found, from what is found so far, the rest and the factor -/
def pps : Nat → List (L2.Key × V) → Int → Int → List (L2.Key × V)
  | 0, acc, _, _ => acc
  | k + 1, acc, r, f => if 1 < r then pps k (putK acc (.inl (lf r f)) (.int (ex (lf r f) r))) (r / lf r f ^ ex (lf r f) r) (lf r f) else acc
def ppd (n : Int) : List (L2.Key × V) := pps 40 [] n 2
theorem pps_end {k : Nat} {acc : List (L2.Key × V)} {r f : Int} (h : ¬ 1 < r) : pps k acc r f = acc := by
  cases k with
  | zero => rfl
  | succ k => unfold pps; rw [if_neg h]
theorem putK_len (acc : List (L2.Key × V)) (k : L2.Key) (v : V) : (putK acc k v).length ≤ acc.length + 1 := by
  unfold putK
  split
  · rw [List.length_map]; omega
  · rw [List.length_append]; exact Nat.le_refl _
section
variable {P : Program} {w : World} {K : PySem.W.Frag} {mg : Str → Option Value} {base : Heap} {C CE CT : Addr}
abbrev sPp : Stmt := top 33
abbrev HTd (P : Program) (w : World) (K : PySem.W.Frag) (mg : Str → Option Value) (base : Heap) : Prop := Has P w K mg base "_times_divided" 1 ["prime", "number"] spTd
def HFct (P : Program) (w : World) (K : PySem.W.Frag) (mg : Str → Option Value) (base : Heap) (CE CT : Addr) : Prop :=
  ∃ f fd, FnOk P w K mg base (L2.CX P w) 4 f fd ["number"] (spFct K CE CT) ∧ mg "_check_factored" = some (.ref f) ∧ PySem.W.keepIn K (.ref f) = true ∧ Binds K fd ["number"] []
/-- prime_powers(number): refused, or the dict -/
def spPp (K : PySem.W.Frag) (CE CT : Addr) : Sp := fun vs H Q E => ∃ (y : V) (b : Bool), vs = [y] ∧ Kd K H y b ∧ (b = false → Ref CE "value" H E y) ∧
  ∀ i : Int, y = .int i → b = true → (i < 1 → Ref CE "value" H E y) ∧ (1000000000 < i → Ref CT "limit" H E (.int 1000000000)) ∧
    (1 ≤ i → i ≤ 1000000000 → ∀ p, H p = none → Q (.ref p) (upd H p (.dK (ppd i))))
theorem scPp : FnScope ["number", "found", "rest", "factor"] ["number"] (defScope sPp) := ⟨rfl, rfl, rfl, by decide +kernel, rfl, by decide +kernel, by decide +kernel⟩
theorem ok_pp {f : Addr} {fd : FuncData} (F : Fun K "prime_powers" "prime_powers" sPp f fd) (S : HFct P w K mg base CE CT) (L : HLf P w K mg base) (D : HTd P w K mg base) :
    FnOk P w K mg base (L2.CX P w) 5 f fd ["number"] (spPp K CE CT) := by
  obtain ⟨fS, dS, GS, mS, kS, bS⟩ := S
  obtain ⟨fL, dL, GL, mL, kL, bL⟩ := L
  obtain ⟨fD, dD, GD, mD, kD, bD⟩ := D
  refine F.okX scPp (fun vs H Q E h => ?_) (fun cdv A outer s H vs Q E hr h => ?_)
  · obtain ⟨y, b, rfl, _⟩ := h
    rfl
  · obtain ⟨y, b, rfl, kd, r1, r2⟩ := h
    refine ⟨_, pss_cons (ps_expr (pe_call GS hr rfl mS kS bS .nil (passes_call (takes_of rfl rfl rfl rfl) (fun _ _ _ _ h => h)) (pa_cons (pv 0) pa_nil)))
      (pss_cons (ps_set (i := 1) scPp.nd rfl (.inl rfl) pe_dnewK)
      (pss_cons (ps_par (i := 2) (j := 3) (by rfl) scPp.nd rfl rfl (by decide) rfl rfl (pa_cons (pv 0) (pa_cons pe_int pa_nil)) (by rfl))
      (pss_cons (ps_while (passes_of rfl) (pt_cmpR op_gt (pv 2) pe_int (nomark _))
        (pss_cons (ps_set (i := 3) scPp.nd rfl (.inl rfl) (pe_call GL (hr.mono (by decide)) rfl mL kL bL .nil pass0 (pa_cons (pv 2) (pa_cons (pv 3) pa_nil))))
        (pss_cons (ps_dput (hu_of hr) (pv 1) (pv 3) (pe_call GD (hr.mono (by decide)) rfl mD kD bD .nil pass0 (pa_cons (pv 3) (pa_cons (pv 2) pa_nil))) rfl)
        (pss_one (ps_while (passes_of rfl) (pt_cmpR op_eq (pe_op op_mod (pv 2) (pv 3)) pe_int (nomark _)) (pss_one (ps_set (i := 2) scPp.nd rfl (.inl rfl) (pe_op op_fdivW (pv 2) (pv 3)))))))))
      (pss_one (ps_ret (pv 1)))))), ?_⟩
    refine ⟨_, rfl, y, b, rfl, kd, r1, fun i ei eb => ?_⟩
    subst ei
    obtain ⟨q1, q2, q3⟩ := r2 i rfl eb
    refine ⟨q1, q2, fun i1 i9 p hp => ?_⟩
    refine ⟨_, rfl, _, _, rfl, ?_⟩
    refine while_by (fun σ H' => ∃ (acc : List (L2.Key × V)) (r f : Int) (k : Nat), σ = [some (.int i), some (.ref p), some (.int r), some (.int f)] ∧ H' = upd H p (.dK acc) ∧ 1 ≤ r ∧ r.natAbs < 2 ^ k ∧ acc.length + k ≤ 40 ∧ 2 ≤ f ∧ f < 2 ^ 40 ∧ pps k acc r f = ppd i)
      (fun σ _ => match σ with | [_, _, some (.int r), _] => r.natAbs | _ => 0) ?_ ?_ ?_
    · exact ⟨[], i, 2, 40, rfl, rfl, i1, Nat.lt_of_le_of_lt (show i.natAbs ≤ 1000000000 by omega) (by decide), by decide, by decide, by decide, rfl⟩
    · rintro σ H' ⟨acc, r, f, k, rfl, rfl, r0, rk, ak, f2, f3, e⟩
      refine ⟨_, rfl, _, _, rfl, rfl, _, rfl, ?_⟩
      by_cases c : 1 < r
      · refine itT (decide_eq_true c) ?_
        have k40 : 2 ^ k ≤ 2 ^ 40 := Nat.pow_le_pow_right (by decide) (by omega)
        have rb : r.natAbs < 2 ^ 40 := Nat.lt_of_lt_of_le rk k40
        have rb' : r < 2 ^ 40 := by omega
        refine ⟨_, rfl, _, rfl, r, f, rfl, by omega, rb', f2, f3, ?_⟩
        obtain ⟨g2, gd⟩ := lf_good (n := r) (s := f) (by omega) f2
        have gle : lf r f ≤ r := Int.le_of_dvd (by omega) gd
        cases k with
        | zero => exact absurd rk (by omega)
        | succ k =>
          unfold pps at e
          rw [if_pos c] at e
          generalize lf r f = g at *
          refine ⟨_, rfl, _, rfl, g, r, rfl, g2, Nat.lt_of_lt_of_le (show g.natAbs < 2 ^ 40 by omega) (by decide), by omega, fun t t1 t2 => ?_⟩
          have et := ex_is g2 (by omega) rb t1 t2
          subst et
          refine ⟨_, rfl, _, rfl, p, _, rfl, DPut.k (k := Sum.inl g) upd_same (Nat.lt_of_le_of_lt (show acc.length ≤ 40 by omega) (by decide)), ?_⟩
          rw [upd_upd]
          refine while_by (fun σ H' => ∃ (j : Nat) (x : Int), σ = [some (.int i), some (.ref p), some (.int x), some (.int g)] ∧ H' = upd H p (.dK (putK acc (Sum.inl g) (.int (ex g r)))) ∧ x ≠ 0 ∧ x * g ^ j = r ∧ (j = 0 → x = r))
            (fun σ _ => match σ with | [_, _, some (.int x), _] => x.natAbs | _ => 0) ?_ ?_ ?_
          · exact ⟨0, r, rfl, rfl, by omega, by simp, fun _ => rfl⟩
          · rintro σ H' ⟨j, x, rfl, rfl, x0, xe, _⟩
            refine ⟨_, rfl, _, rfl, x, g, rfl, rfl, (by show 0 < g; omega), rfl, _, rfl, ?_⟩
            by_cases d : x % g = 0
            · refine itT (decide_eq_true (show V.int (x % g) = V.int 0 by rw [d])) ?_
              refine ⟨_, rfl, _, rfl, x, g, rfl, rfl, wide_div (b := 200) (by omega) (Nat.lt_of_lt_of_le (show g.natAbs < 2 ^ 40 by omega) (by decide)) (by decide) (by decide), ⟨j + 1, x / g, rfl, rfl, ?_, pow_dvd_step xe d (by omega), fun z => nomatch z⟩, ?_⟩
              · intro z
                have := Int.ediv_mul_cancel (Int.dvd_of_emod_eq_zero d)
                rw [z, Int.zero_mul] at this
                exact x0 this.symm
              · exact abs_div_lt g2 x0 d
            · refine itF (decide_eq_false (fun z => d (V.int.inj z))) ?_
              obtain ⟨a1, a2⟩ := pow_dvd_end xe d (by omega)
              have ej := ex_is g2 (by omega) rb a1 a2
              subst ej
              have gp : g ^ ex g r ≠ 0 := Int.pow_ne_zero (by omega)
              have ex1 : x = r / g ^ ex g r := (Int.ediv_eq_of_eq_mul_left gp xe.symm).symm
              have pos1 : ex g r ≠ 0 := fun z => by
                apply t2
                rw [z, Int.pow_one]
                exact gd
              have gpos : 0 < g ^ ex g r := Int.pow_pos (by omega)
              have x1 : 1 ≤ x := by
                rcases Int.lt_or_le 0 x with h | h
                · omega
                · have : x * g ^ ex g r ≤ 0 := Int.mul_nonpos_of_nonpos_of_nonneg h (by omega)
                  omega
              have gge : 2 ≤ g ^ ex g r := by
                obtain ⟨m, hm⟩ : ∃ m, ex g r = m + 1 := ⟨ex g r - 1, by omega⟩
                rw [hm, Int.pow_succ]
                have : 1 ≤ g ^ m := by
                  have := Int.pow_pos (m := m) (show 0 < g by omega)
                  omega
                have : 1 * g ≤ g ^ m * g := Int.mul_le_mul_of_nonneg_right this (by omega)
                omega
              have xr : x * 2 ≤ r := by
                rw [← xe]
                exact Int.mul_le_mul_of_nonneg_left gge (by omega)
              refine ⟨⟨_, x, g, k, rfl, rfl, x1, ?_, ?_, g2, by omega, ?_⟩, ?_⟩
              · rw [Nat.pow_succ] at rk
                omega
              · have := putK_len acc (Sum.inl g) (.int (ex g r))
                omega
              · rw [ex1]
                exact e
              · show x.natAbs < r.natAbs
                omega
          · rintro σ H' Q1 Q2 hq ⟨v, e1, v2, e2, i, j, a1, a2, a3, a4, q⟩
            obtain ⟨b', e3, q2⟩ := q
            exact ⟨v, e1, v2, e2, i, j, a1, a2, a3, a4, b', e3, hq _ _ q2⟩
      · refine itF (decide_eq_false c) ?_
        rw [pps_end c] at e
        subst e
        exact ⟨_, rfl, q3 i1 i9 p hp⟩
    · rintro σ H' Q1 Q2 hq ⟨v, e1, a, b, e2, e3, b', e4, q⟩
      exact ⟨v, e1, a, b, e2, e3, b', e4, hq _ _ q⟩
end
end Lk

set_option Elab.async false
set_option linter.all false
set_option maxRecDepth 100000
set_option maxHeartbeats 4000000
/-! d.items() walked, of a dict that has just been made; list(e.values()), where e lets an error out -/
namespace Lk
open PySem PySem.Spec PyProof.Rows L2
section
variable {X : Cx} {te td : TE} {e : Expr} {p pos cpos apos : Pos}
def iItemsN (td : TE) : TI := fun σ H R => td σ H fun x H1 => ∃ d kvs, x = .ref d ∧ H1 d = some (.dK kvs) ∧ ∀ od, R (Iti d od kvs) (upd H1 d (.frz od (.dK kvs)))
theorem pi_itemsN {elts : List Expr} {kk : Nat} {tpos : Pos} (he : PE X e td) (hbase : attributeBase e "items" X.env (eval e X.env) = eval e X.env := by rfl) (hline : (apos.endLine == cpos.line) = true := by rfl) :
    PI X (.Tuple elts kk tpos) (.Call (.Attribute e "items" apos) [] [] cpos) (iItemsN td) := by
  refine ⟨fun pins s σ H R I h => ?_⟩
  refine wpAny_Call_method (T := "dict") (id := "dict.items") hbase rfl hline F.plainAttrs_dict F.slot_dict_items F.type_dict_items (thn (he.run pins s σ H _ I h) fun u s1 ⟨x, H0, I0, rx, d, kvs, ex, hd0, q0⟩ => ?_)
  subst ex
  obtain rfl : u = Value.ref d := rx
  obtain ⟨o, I1⟩ := I0.lock hd0 trivial
  have q := q0 o
  have hd : (upd H0 d (.frz o (.dK kvs))) d = some (.frz o (.dK kvs)) := upd_same
  generalize upd H0 d (.frz o (.dK kvs)) = H1 at *
  obtain ⟨hs, hgd, hx, es, ep, vs, hdt, hsz, kv, hm⟩ := I1.frzK hd
  have hl : kvs.length = vs.length := Paired.length kv
  refine ⟨hm.dictOf.typeIs, hm.dictOf.mapOf.noDict, ?_⟩
  have I2 : Inv X pins σ H1 { s1 with heap := s1.heap.push { cls := .type "dict_items", data := .fields #[.ref d] } } := I1.kept (t' := s1.toks) fun b ob q => Heap.get?_push_of_some _ q
  have fin : wpAny (model X.prog X.w) X.A (pyIter (.ref s1.heap.objs.size)) (PIE X pins σ (.Tuple elts kk tpos) R) X.xe { s1 with heap := s1.heap.push { cls := .type "dict_items", data := .fields #[.ref d] } } := by
    refine wpAny_pyIter_items (d := d) (knd := mixKind X.prog X.w) ⟨_, Heap.get?_push_size _ rfl, rfl, rfl⟩ (hm.push _) (pi_one (tk := s1.toks) I2 _ (turn_items _ hdt) ⟨.none, .none, ?_⟩ q)
    rw [hl]
    exact Heap.get?_push_size _ rfl
  show wpAny _ _ (callWith cpos (.builtin "dict.items") [.ref d] [] []) _ X.xe s1
  exact method_meetsIn F.slot_dict_items F.entry_dict_items rfl (PySem.evalArgs_none ⟨rfl, hm.dictOf.typeIs, F.args_dict_items_1 _, _, meets_dict_items (mixKind X.prog X.w) d hs, ⟨vs, hm.dictOf⟩, fin⟩)
/-- list(e.values()): e lets an error out -/
theorem pe_listValsX (he : PE X e te) (hg : Gl X "list") (hm : X.mg "list" = none) (hv : bootBuiltins "list" = some (.type "list") := by decide +kernel) (hbase : attributeBase e "values" X.env (eval e X.env) = eval e X.env := by rfl) (hline : (apos.endLine == cpos.line) = true := by rfl)
    (hs : starEach [.Call (.Attribute e "values" apos) [] [] cpos] X.env = (false, eval (.Call (.Attribute e "values" apos) [] [] cpos) X.env) :: starEach [] X.env := by rfl) :
    PE X (.Call (.Name "list" p) [.Call (.Attribute e "values" apos) [] [] cpos] [] pos) (fun σ H _ => te σ H fun _ _ => False) := by
  refine ⟨fun pins s σ H Q I hq => ?_⟩
  refine wpAny_Call_Name_kw (ld_blt I hg hm hv ?_)
  refine PyProof.Rows.callWith_type1 ?_ hs rfl
  rw [hs]
  show wpAny _ _ (spliced ((false, eval (.Call (.Attribute e "values" apos) [] [] cpos) X.env) :: backTo pos (starEach [] X.env))) _ _ s
  refine Calls.spliced_cons ?_
  exact wpAny_Call_method (T := "dict") (id := "dict.values") hbase rfl hline F.plainAttrs_dict F.slot_dict_values F.type_dict_values (thn (he.run pins s σ H _ I hq) fun u s1 ⟨x, H1, I1, rx, z⟩ => z.elim)
end
end Lk
namespace Lk
open PySem PySem.Spec PyProof.Rows L2
section
variable {X : Cx}
/-- xs[i] as what is read ahead of xs[i] += e -/
def rGetL (K : PySem.W.Frag) : V → V → Hp → VK → Prop := fun x y H Q => ∃ (p : Addr) (xs : List V) (i : Nat) (v : V), x = .ref p ∧ y = .int i ∧ SqL K H p xs ∧ xs[i]? = some v ∧ Q v H
theorem get_list : PGet X (rGetL X.K) := by
  intro pins s σ H x y v u Q I rx ry h
  obtain ⟨p, xs, i, z, rfl, rfl, hq, he, q⟩ := h
  cases rx
  obtain ⟨t, rfl⟩ := ry
  obtain ⟨its, r, pl, hz⟩ := I.list hq
  obtain ⟨w, ew, rw'⟩ := r.get he
  have hl := r.length
  have hn := line63
  obtain ⟨hi, _⟩ := List.getElem?_eq_some_iff.mp he
  exact wpAny_getItem_list pl.isList (by omega) (by omega) (by simpa using ew) ⟨z, H, I, rw', q⟩
end
end Lk

set_option Elab.async false
set_option linter.all false
set_option maxRecDepth 100000
set_option maxHeartbeats 4000000
set_option exponentiation.threshold 10000
namespace Lk
open PySem L2 Vx
/-! partitions counted; signs, step divisors and common divisors refused -/
def wIn (part : Nat) (ws : List Int) (t : Nat) : List Int := ws.set t (ws.getD t 0 + ws.getD (t - part) 0)
def wPart (k part : Nat) (ws : List Int) : List Int := (List.range k).foldl (fun ws j => wIn part ws (part + j)) ws
def wAll (n k : Nat) : List Int := (List.range k).foldl (fun ws i => wPart (n - i) (i + 1) ws) (1 :: List.replicate n 0)
theorem wIn_len (part t : Nat) (ws : List Int) : (wIn part ws t).length = ws.length := by unfold wIn; rw [List.length_set]
theorem wPart_succ (k part : Nat) (ws : List Int) : wPart (k + 1) part ws = wIn part (wPart k part ws) (part + k) := by
  unfold wPart; rw [List.range_succ, List.foldl_append]; rfl
theorem wPart_len (part : Nat) (ws : List Int) : ∀ k, (wPart k part ws).length = ws.length
  | 0 => rfl
  | k + 1 => by rw [wPart_succ, wIn_len, wPart_len part ws k]
theorem wAll_succ (n k : Nat) : wAll n (k + 1) = wPart (n - k) (k + 1) (wAll n k) := by
  unfold wAll; rw [List.range_succ, List.foldl_append]; rfl
theorem wAll_len (n : Nat) : ∀ k, (wAll n k).length = n + 1
  | 0 => by unfold wAll; simp
  | k + 1 => by rw [wAll_succ, wPart_len, wAll_len n k]
theorem rep1 (n : Nat) (x : V) : (List.replicate n [x]).flatten = List.replicate n x := by
  induction n with
  | zero => rfl
  | succ n ih => rw [List.replicate_succ, List.flatten_cons, ih, List.replicate_succ]; rfl
theorem getV {ws : List Int} {i : Nat} (h : i < ws.length) : (ws.map V.int)[i]? = some (.int (ws.getD i 0)) := by
  rw [List.getElem?_map, List.getElem?_eq_getElem h, List.getD_eq_getElem?_getD, List.getElem?_eq_getElem h]; rfl
theorem ixN_nat {n i : Nat} (h : i < n) : ixN n (i : Int) = some i := by
  unfold ixN
  rw [if_pos (by omega), if_pos (by omega)]; simp
section
variable {P : Program} {w : World} {K : PySem.W.Frag} {mg : Str → Option Value} {base : Heap} {C CE CT CO : Addr}
abbrev sPo : Stmt := top 38
/-- partitions_of(number) -/
def spPo (K : PySem.W.Frag) (CE : Addr) : Sp := fun vs H Q E => ∃ (y : V) (b : Bool), vs = [y] ∧ Kd K H y b ∧ (b = false → Ref CE "value" H E y) ∧
  ∀ i : Int, y = .int i → b = true → (i < 0 ∨ 200 < i → Ref CE "value" H E y) ∧ ∀ n : Nat, i = (n : Int) → n ≤ 200 → ∀ H', Same H H' → Q (.int ((wAll n n).getD n 0)) H'
theorem scPo : FnScope ["number", "ways", "part", "total"] ["number"] (defScope sPo) := ⟨rfl, rfl, rfl, by decide +kernel, rfl, by decide +kernel, by decide +kernel⟩
theorem ok_po {f : Addr} {fd : FuncData} (F : Fun K "partitions_of" "partitions_of" sPo f fd) (S : HChk P w K mg base CE) (mR : mg "range" = none) (mM : ∃ t, mg "_MAX_PARTITIONED" = some (.int 200 t)) :
    FnOk P w K mg base (L2.CX P w) 5 f fd ["number"] (spPo K CE) := by
  obtain ⟨fS, dS, GS, mS, kS, bS⟩ := S
  obtain ⟨tk, hM⟩ := mM
  refine F.okX scPo (fun vs H Q E h => ?_) (fun cdv A outer s H vs Q E hr h => ?_)
  · obtain ⟨y, b, rfl, _⟩ := h
    rfl
  · obtain ⟨y, b, rfl, kd, r1, r2⟩ := h
    refine ⟨_, pss_cons (ps_expr (pe_call GS hr rfl mS kS bS .nil (passes_call (takes_of rfl rfl rfl rfl) (fun _ _ _ _ h => h)) (pa_cons (pv 0) (pa_cons pe_int (pa_cons (pe_glob rfl hM (show RelV (.int 200) (.int 200 tk) from ⟨_, rfl⟩)) pa_nil)))))
      (pss_cons (ps_set (i := 1) scPo.nd rfl (.inl rfl) (pe_op op_cat (pe_lst (pa_cons pe_int pa_nil)) (pe_op op_rep (pe_lst (pa_cons pe_int pa_nil)) (pv 0))))
      (pss_cons (ps_for (passes_of rfl) rfl (pi_range2 rfl mR (pa_cons pe_int (pa_cons (pe_op op_add (pv 0) pe_int) pa_nil))) (pg_name (i := 2) scPo.nd rfl (.inl rfl))
        (pss_one (ps_for (passes_of rfl) rfl (pi_range2 rfl mR (pa_cons (pv 2) (pa_cons (pe_op op_add (pv 0) pe_int) pa_nil))) (pg_name (i := 3) scPo.nd rfl (.inl rfl))
          (pss_one (ps_asg (pe_op op_add (pe_ix ix_list (pv 1) (pv 3) (fun _ _ => rfl)) (pe_ix ix_list (pv 1) (pe_op op_sub (pv 3) (pv 2)) (fun _ _ => rfl))) (pg_sub (pv 1) (pv 3) set_list))))))
      (pss_one (ps_ret (pe_ix ix_list (pv 1) (pv 0) (fun _ _ => rfl)))))), ?_⟩
    refine ⟨_, rfl, y, b, 0, 200, rfl, kd, r1, fun i ei eb => ⟨fun o => (r2 i ei eb).1 o, fun i0 i1 => ?_⟩⟩
    subst ei
    obtain ⟨n, rfl⟩ : ∃ n : Nat, i = (n : Int) := ⟨i.toNat, by omega⟩
    have n200 : n ≤ 200 := by omega
    have k := (r2 (n : Int) rfl eb).2 n rfl n200
    refine ⟨(by show 1 ≤ sizeLine; decide), fun l1 n1 => ⟨(by show 1 ≤ sizeLine; decide), fun l2 n2 => ?_⟩⟩
    have n21 : l1 ≠ l2 := fun z => by rw [← z, upd_same] at n2; cases n2
    refine ⟨_, rfl, l2, n, _, rfl, rfl, upd_same, by omega, by omega, Nat.le_trans (show 1 * (n : Int).toNat ≤ 200 by omega) (by decide), fun p np => ?_⟩
    have npl : l1 ≠ p := fun z => by rw [← z, upd_ne n21, upd_same] at np; cases np
    rw [rep1, Int.toNat_natCast]
    refine ⟨l1, p, _, _, rfl, rfl, (by rw [upd_ne npl, upd_ne n21, upd_same]), upd_same, Nat.le_trans (show 1 + (List.replicate n (V.int 0)).length ≤ 201 by rw [List.length_replicate]; omega) (by decide), fun q nq => ?_⟩
    have sm : ∀ o, Same H (upd (upd (upd (upd H l1 (.lst [V.int 1])) l2 (.lst [V.int 0])) p (.lst (List.replicate n (V.int 0)))) q o) := fun o => Same.tr (same_new n1) (Same.tr (same_new n2) (Same.tr (same_new np) (same_new nq)))
    generalize upd (upd (upd H l1 (.lst [V.int 1])) l2 (.lst [V.int 0])) p (.lst (List.replicate n (V.int 0))) = H4 at *
    have e0 : [V.int 1] ++ List.replicate n (V.int 0) = (wAll n 0).map V.int := by
      unfold wAll
      simp
    rw [e0]
    refine ⟨_, rfl, _, _, rfl, rfl, 1, (n : Int) + 1, rfl, ⟨by decide, by decide, by omega, by omega⟩, for_range (fun i σ H' => ∃ u v : Option V, σ = [some (.int n), some (.ref q), u, v] ∧ H' = upd H4 q (.lst ((wAll n i).map V.int))) ⟨_, _, rfl, rfl⟩ ?_ ?_⟩
    · rintro i σ H' hi ⟨u, v, rfl, rfl⟩
      have hi' : i < n := by omega
      refine ⟨_, rfl, _, rfl, _, _, rfl, rfl, 1 + (i : Int), (n : Int) + 1, rfl, ⟨by omega, by omega, by omega, by omega⟩, for_range (fun j σ H' => ∃ v : Option V, σ = [some (.int n), some (.ref q), some (.int (1 + (i : Int))), v] ∧ H' = upd H4 q (.lst ((wPart j (i + 1) (wAll n i)).map V.int))) ⟨_, rfl, rfl⟩ ?_ ?_⟩
      · rintro j σ H' hj ⟨v, rfl, rfl⟩
        have hj' : j < n - i := by omega
        have len : (wPart j (i + 1) (wAll n i)).length = n + 1 := by rw [wPart_len, wAll_len]
        have e1 : (1 + (i : Int) + (j : Int)) = ((i + 1 + j : Nat) : Int) := by omega
        have e2 : (1 + (i : Int) + (j : Int)) - (1 + (i : Int)) = ((j : Nat) : Int) := by omega
        refine ⟨_, rfl, _, rfl, q, _, _, _, rfl, congrArg V.int e1, SqL.of upd_same, atI_nat (getV (by rw [len]; omega)), ?_⟩
        refine ⟨_, rfl, _, rfl, _, rfl, _, _, rfl, rfl, q, _, _, _, rfl, congrArg V.int e2, SqL.of upd_same, atI_nat (getV (by rw [len]; omega)), ?_⟩
        refine ⟨_, _, rfl, rfl, ?_⟩
        refine ⟨_, rfl, _, rfl, q, _, _, i + 1 + j, rfl, rfl, upd_same, (by rw [e1]; exact ixN_nat (by rw [List.length_map, len]; omega)), ⟨_, rfl, ?_⟩⟩
        rw [upd_upd, wPart_succ, ← List.map_set]
        unfold wIn
        rw [show i + 1 + j - (i + 1) = j by omega]
      · rintro σ H' ⟨v, rfl, rfl⟩
        refine ⟨_, _, rfl, ?_⟩
        rw [wAll_succ, show ((n : Int) + 1 - (1 + (i : Int))).toNat = n - i by omega]
    · rintro σ H' ⟨u, v, rfl, rfl⟩
      have e3 : ((n : Int) + 1 - 1).toNat = n := by omega
      rw [e3]
      exact ⟨_, rfl, _, rfl, q, _, n, _, rfl, rfl, SqL.of upd_same, atI_nat (getV (by rw [wAll_len]; omega)), k _ (sm _)⟩
end
end Lk

set_option Elab.async false
set_option linter.all false
set_option maxRecDepth 100000
set_option maxHeartbeats 4000000
set_option exponentiation.threshold 10000
namespace Lk
open PySem L2 Vx
/-! signs, step divisors and common divisors refused -/
theorem tyX_at {K : PySem.W.Frag} {H H' : Hp} {y : V} {t : Value} (h : TyX K H y t) (k : ∀ a o, y = .ref a → H a = some o → H' a = some o) : TyX K H' y t := by
  cases h with
  | base b =>
    refine .base ?_
    cases b with
    | non => exact .non
    | bl x => exact .bl x
    | int i => exact .int i
    | str x => exact .str x
    | flt x => exact .flt x
    | lst e => exact .lst (k _ _ rfl e)
    | frz e => exact .frz (k _ _ rfl e)
    | tup e => exact .tup (k _ _ rfl e)
    | dK e => exact .dK (k _ _ rfl e)
    | dT e => exact .dT (k _ _ rfl e)
    | ins e cl ha hn htk hm => exact .ins (k _ _ rfl e) cl ha hn htk hm
  | byt b => exact .byt b
  | set e => exact .set (k _ _ rfl e)
  | kList e c => exact .kList e c
  | kTuple e c => exact .kTuple e c
  | kDict e c => exact .kDict e c
  | fTuple e => exact .fTuple (k _ _ rfl e)
  | fDict e => exact .fDict (k _ _ rfl e)
theorem kd_at {K : PySem.W.Frag} {H H' : Hp} {y : V} {b : Bool} (h : Kd K H y b) (k : ∀ a o, y = .ref a → H a = some o → H' a = some o) : Kd K H' y b := by
  cases h with
  | int i => exact .int i
  | bl b => exact .bl b
  | oth ty no nb ni => exact .oth (tyX_at ty k) no nb ni
theorem noR_at {K : PySem.W.Frag} {C : Addr} {H H' : Hp} {y : V} {b : Bool} (h : NoR K C H y b) (k : ∀ a o, y = .ref a → H a = some o → H' a = some o) : NoR K C H' y b := by
  obtain ⟨t, ty, no, kd⟩ := h
  exact ⟨t, tyX_at ty k, no, kd_at kd k⟩
section
variable {P : Program} {w : World} {K : PySem.W.Frag} {mg : Str → Option Value} {base : Heap} {C CE CT CO : Addr}
abbrev sMo : Stmt := top 34
abbrev sSd : Stmt := top 37
abbrev sCd : Stmt := top 31
def HPp (P : Program) (w : World) (K : PySem.W.Frag) (mg : Str → Option Value) (base : Heap) (CE CT : Addr) : Prop :=
  ∃ f fd, FnOk P w K mg base (L2.CX P w) 5 f fd ["number"] (spPp K CE CT) ∧ mg "prime_powers" = some (.ref f) ∧ PySem.W.keepIn K (.ref f) = true ∧ Binds K fd ["number"] []
/-- what cannot be factored -/
def NoF (K : PySem.W.Frag) (CE CT : Addr) (H : Hp) (E : XK) (y : V) : Prop := ∃ b, Kd K H y b ∧ ((b = false ∧ Ref CE "value" H E y) ∨ ∃ i : Int, y = .int i ∧ b = true ∧ ((i < 1 ∧ Ref CE "value" H E y) ∨ (1000000000 < i ∧ Ref CT "limit" H E (.int 1000000000))))
def spNoF (K : PySem.W.Frag) (CE CT : Addr) : Sp := fun vs H _ E => ∃ y : V, vs = [y] ∧ NoF K CE CT H E y
theorem noF_pp {K : PySem.W.Frag} {CE CT : Addr} {H : Hp} {E : XK} {Q : VK} {y : V} (h : NoF K CE CT H E y) : spPp K CE CT [y] H Q E := by
  obtain ⟨b, kd, o⟩ := h
  rcases o with ⟨rfl, r⟩ | ⟨i, rfl, rfl, ⟨c, r⟩ | ⟨c, r⟩⟩
  · exact ⟨y, false, rfl, kd, fun _ => r, fun _ _ z => nomatch z⟩
  · refine ⟨_, true, rfl, kd, (fun z => nomatch z), fun j ej _ => ?_⟩
    cases ej
    exact ⟨fun _ => r, fun z => absurd z (by omega), fun z => absurd z (by omega)⟩
  · refine ⟨_, true, rfl, kd, (fun z => nomatch z), fun j ej _ => ?_⟩
    cases ej
    exact ⟨fun z => absurd z (by omega), fun _ => r, fun _ z => absurd z (by omega)⟩
theorem scMo : FnScope ["number", "exponents"] ["number"] (defScope sMo) := ⟨rfl, rfl, rfl, by decide +kernel, rfl, by decide +kernel, by decide +kernel⟩
theorem ok_moB {f : Addr} {fd : FuncData} (F : Fun K "moebius" "moebius" sMo f fd) (S : HPp P w K mg base CE CT) (mL : mg "list" = none) : FnOk P w K mg base (L2.CX P w) 6 f fd ["number"] (spNoF K CE CT) := by
  obtain ⟨fS, dS, GS, mS, kS, bS⟩ := S
  refine F.okX scMo (fun vs H Q E h => ?_) (fun cdv A outer s H vs Q E hr h => ?_)
  · obtain ⟨y, rfl, _⟩ := h
    rfl
  · obtain ⟨y, rfl, h⟩ := h
    refine ⟨_, pss_cons (ps_set (i := 1) scMo.nd rfl (.inl rfl) (pe_listValsX (pe_call GS hr rfl mS kS bS .nil (passes_call (takes_of rfl rfl rfl rfl) (fun _ _ _ _ h => h)) (pa_cons (pv 0) pa_nil)) rfl mL)) pss_never, ?_⟩
    exact ⟨_, rfl, (noF_pp h : spPp K CE CT [y] H (fun _ _ => False) E)⟩
theorem scSd : FnScope ["number", "primes"] ["number"] (defScope sSd) := ⟨rfl, rfl, rfl, by decide +kernel, rfl, by decide +kernel, by decide +kernel⟩
def spSdB (K : PySem.W.Frag) (CE : Addr) : Sp := fun vs H _ E => ∃ (y : V) (b : Bool), vs = [y] ∧ Kd K H y b ∧ (b = false ∨ ∃ i : Int, y = .int i ∧ b = true ∧ (i < 2 ∨ 1000 < i)) ∧ Ref CE "value" H E y
theorem ok_sdB {f : Addr} {fd : FuncData} (F : Fun K "step_divisor" "step_divisor" sSd f fd) (S : HChk P w K mg base CE) (mM : ∃ t, mg "MAX_CHOSEN" = some (.int 1000 t)) : FnOk P w K mg base (L2.CX P w) 5 f fd ["number"] (spSdB K CE) := by
  obtain ⟨fS, dS, GS, mS, kS, bS⟩ := S
  obtain ⟨tk, hM⟩ := mM
  refine F.okX scSd (fun vs H Q E h => ?_) (fun cdv A outer s H vs Q E hr h => ?_)
  · obtain ⟨y, b, rfl, _⟩ := h
    rfl
  · obtain ⟨y, b, rfl, kd, o, r⟩ := h
    refine ⟨_, pss_cons (ps_expr (pe_call GS hr rfl mS kS bS .nil (passes_call (takes_of rfl rfl rfl rfl) (fun _ _ _ _ h => h)) (pa_cons (pv 0) (pa_cons pe_int (pa_cons (pe_glob rfl hM (show RelV (.int 1000) (.int 1000 tk) from ⟨_, rfl⟩)) pa_nil))))) pss_never, ?_⟩
    refine ⟨_, rfl, y, b, 2, 1000, rfl, kd, fun _ => r, fun i ei eb => ⟨fun _ => r, fun i0 i1 => ?_⟩⟩
    rcases o with rfl | ⟨j, ej, _, o⟩
    · cases eb
    · rw [ei] at ej
      cases ej
      omega
theorem scCd : FnScope ["numbers", "number", "divisor"] ["numbers"] (defScope sCd) := ⟨rfl, rfl, rfl, by decide +kernel, rfl, by decide +kernel, by decide +kernel⟩
/-- no tuple, or one with a member that is no short integer -/
def spCdB (K : PySem.W.Frag) (CO : Addr) : Sp := fun vs H _ E => ∃ y : V, vs = [y] ∧
  ((∃ t, TyX K H y t ∧ PySem.W.kitOne K t (.type "tuple") = some false ∧ E (.ref CO) none H) ∨
   (∃ (a : Addr) (xs : List V) (bs : List Bool), y = .ref a ∧ H a = some (.tup xs) ∧ xs.length < 1000 ∧ bs.length = xs.length ∧ (∀ (i : Nat) (x : V) (b : Bool), xs[i]? = some x → bs[i]? = some b → Kd K H x b) ∧ bs.all id = false ∧ ∀ H', Same H H' → E (.ref CO) none H'))
theorem ok_cdB {f : Addr} {fd : FuncData} (F : Fun K "common_divisor" "common_divisor" sCd f fd) (T : Pln K mg "InvalidOperation" CO) (S : HIsI P w K mg base) (mI : mg "isinstance" = none) (mT : mg "tuple" = none) (mA : mg "all" = none) :
    FnOk P w K mg base (L2.CX P w) 3 f fd ["numbers"] (spCdB K CO) := by
  obtain ⟨fS, dS, GS, mS, kS, bS⟩ := S
  refine F.okX scCd (fun vs H Q E h => ?_) (fun cdv A outer s H vs Q E hr h => ?_)
  · obtain ⟨y, rfl, _⟩ := h
    rfl
  · obtain ⟨y, rfl, h⟩ := h
    refine ⟨_, pss_cons (ps_if (PW.pt (pw_or (pt_not (pt_val (pe_callB call_isi (by rfl) mI (by decide +kernel) (pa_cons (pv 0) (pa_cons (pe_bltn (by rfl) mT (by decide +kernel) (show RelV (.ty "tuple") (.type "tuple") from rfl)) pa_nil)))))
        (pw_or1 (pt_not (pt_val (pe_callB (cr_all rfl) (by rfl) mA (by decide +kernel) (pa_cons (pe_lc (own := [("number", 1)]) (g := gName 1) (tt := tYes) rfl scCd.nd (pi_tup (pv 0)) (blkOk_by (N := ["numbers", "number", "divisor"]) (sc := defScope sCd) (by decide +kernel))
          (fun _ _ _ _ _ => pg_name (i := 1) scCd.nd rfl (Or.inl rfl)) (fun _ _ _ _ _ => pts_nil) (fun _ _ _ _ _ => pe_call GS (hr.mono (by decide)) rfl mS kS bS .nil pass0 (pa_cons (pv 1) pa_nil))) pa_nil)))))))
        (pss_one (ps_raiseP rfl T (takes_of rfl rfl rfl rfl))) pss_nil) pss_never, ?_⟩
    rcases h with ⟨t, ty, no, r⟩ | ⟨a, xs, bs, rfl, ha, xl, bl, kd, al, r⟩
    · exact ⟨_, rfl, _, _, _, _, false, rfl, .ty "tuple", ty, no, _, rfl, itT rfl (itT rfl r)⟩
    · refine ⟨_, rfl, _, _, _, _, true, rfl, .ty "tuple", .base (.tup ha), kit_ty (by decide +kernel), _, rfl, itF rfl ?_⟩
      refine ⟨_, rfl, a, rfl, ⟨xs, SqT.of ha⟩, fun D hD => ?_⟩
      have nD : a ≠ D := ne_of_none ha hD
      refine lc_tup (xs := xs) (fun i H' => H' = upd H D (.lst ((bs.take i).map V.bl))) (by simp) ?_ ?_ ?_
      · rintro i H' _ rfl
        exact SqT.of (by rw [upd_ne nD]; exact ha)
      · rintro i x H' hx rfl
        have il : i < xs.length := (List.getElem?_eq_some_iff.mp hx).1
        obtain ⟨b, hb⟩ : ∃ b, bs[i]? = some b := ⟨bs[i]'(by omega), List.getElem?_eq_getElem (by omega)⟩
        refine ⟨rfl, ?_⟩
        refine ⟨_, rfl, x, b, rfl, kd_at (kd i x b hx hb) (fun c o _ e => by rw [upd_ne (ne_of_none e hD)]; exact e), (bs.take i).map V.bl, upd_same, ?_, ?_⟩
        · rw [List.length_map, List.length_take]
          exact Nat.lt_of_le_of_lt (show min i bs.length ≤ 1000 by omega) (by decide)
        · rw [upd_upd, List.take_add_one, hb, List.map_append]
          rfl
      · rintro H' rfl
        rw [← bl, List.take_length]
        refine ⟨D, bs, rfl, SqL.of upd_same, ?_⟩
        rw [al]
        exact ⟨_, rfl, itT rfl (r _ (same_new hD))⟩
end
end Lk

set_option Elab.async false
set_option linter.all false
set_option maxRecDepth 100000
set_option maxHeartbeats 4000000
set_option exponentiation.threshold 10000
namespace Lk
open PySem L2 Vx
/-! divisors -/
/-- turns of any body -/
theorem turns {J : It} {n : Nat} {G : Hp → Prop} {Y : Nat → Hp → V → Hp → Prop} (w : Walk J n G Y) {B : V → Hp → (Hp → Prop) → Prop} {Qd : Hp → Prop} {H0 : Hp} (Pv : Nat → Hp → Prop) (h0 : Pv 0 H0) (hG : ∀ i H, i ≤ n → Pv i H → G H)
    (hs : ∀ i x H H', i < n → Pv i H → Y i H x H' → B x H' (Pv (i + 1))) (hd : ∀ H, Pv n H → Qd H) :
    ∃ W : Nat → Nat → Hp → Prop, (∃ m, W 0 m H0) ∧ ∀ i m H, W i m H →
      (J.stop i H ∧ Qd H) ∨ (J.go i H ∧ ∃ Nx : Hp → Prop, (∀ H', Nx H' → ∃ m', m' < m ∧ W (i + 1) m' H') ∧ ∀ x H', J.yld i H x H' → B x H' Nx) := by
  refine ⟨fun i m H => m = n - i ∧ i ≤ n ∧ Pv i H, ⟨n, by simp, Nat.zero_le _, h0⟩, ?_⟩
  rintro i m H ⟨rfl, hi, p⟩
  have q := hG i H hi p
  by_cases hlt : i < n
  · exact .inr ⟨w.goes i H hlt q, Pv (i + 1), fun H' p' => ⟨n - (i + 1), by omega, rfl, hlt, p'⟩, fun x H' y => hs i x H H' hlt p (w.yields i H x H' hlt q y)⟩
  · have e : i = n := by omega
    subst e
    exact .inl ⟨w.stops H q, hd H p⟩
def fstep (acc : List Int) (z : Int × Nat) : List Int := acc.flatMap fun d => (List.range (z.2 + 1)).map fun j => d * z.1 ^ j
def dvs (prs : List (Int × Nat)) : List Int := prs.foldl fstep [1]
def kvOf (z : Int × Nat) : L2.Key × V := (Sum.inl z.1, .int (z.2 : Int))
theorem dvs_take {prs : List (Int × Nat)} {i : Nat} {z : Int × Nat} (h : prs[i]? = some z) : dvs (prs.take (i + 1)) = fstep (dvs (prs.take i)) z := by
  unfold dvs
  rw [List.take_add_one, h, List.foldl_append]
  rfl
/-- what divisors asks of the pairs -/
structure PrOk (prs : List (Int × Nat)) : Prop where
  pos : ∀ z ∈ prs, 1 ≤ z.1 ∧ z.1 ≤ 1000000000 ∧ z.2 < 1000 ∧ z.1 ^ z.2 ≤ 1000000000
  len : ∀ i, (dvs (prs.take i)).length < 1000000
theorem pow_le_of {g : Int} {j e : Nat} (g1 : 1 ≤ g) (h : j ≤ e) : 1 ≤ g ^ j ∧ g ^ j ≤ g ^ e := by
  have p : ∀ k : Nat, 1 ≤ g ^ k := fun k => by have := Int.pow_pos (m := k) (show 0 < g by omega); omega
  obtain ⟨m, rfl⟩ := Nat.le.dest h
  refine ⟨p j, ?_⟩
  rw [Int.pow_add]
  have : g ^ j * 1 ≤ g ^ j * g ^ m := Int.mul_le_mul_of_nonneg_left (p m) (by have := p j; omega)
  omega
theorem fl_take {acc : List Int} {z : Int × Nat} {i : Nat} {d : Int} (h : acc[i]? = some d) : (acc.take (i + 1)).flatMap (fun d => (List.range (z.2 + 1)).map fun j => d * z.1 ^ j) = (acc.take i).flatMap (fun d => (List.range (z.2 + 1)).map fun j => d * z.1 ^ j) ++ (List.range (z.2 + 1)).map fun j => d * z.1 ^ j := by
  rw [List.take_add_one, h, List.flatMap_append]
  simp
theorem fl_len {z : Int × Nat} : ∀ acc : List Int, (acc.flatMap (fun d => (List.range (z.2 + 1)).map fun j => d * z.1 ^ j)).length = acc.length * (z.2 + 1)
  | [] => by simp
  | d :: r => by rw [List.flatMap_cons, List.length_append, fl_len r, List.length_map, List.length_range, List.length_cons, Nat.add_mul, Nat.one_mul, Nat.add_comm]
theorem atI_last {xs : List V} {n : Nat} {v : V} (hl : xs.length = n + 1) (h : xs[n]? = some v) : atI xs (-1) = some v := by
  have e : ixN xs.length (-1) = some n := by
    unfold ixN
    rw [hl, if_neg (by decide), if_pos (by omega)]
    exact congrArg some (by omega)
  unfold atI; rw [e]; exact h
theorem ref_same {CE : Addr} {f : Str} {H H1 : Hp} {E : XK} {v : V} (s : Same H H1) (h : Ref CE f H E v) : Ref CE f H1 E v := fun H' d s2 nd e => h H' d (Same.tr s s2) (L2.Same.free s nd) e
theorem noF_same {K : PySem.W.Frag} {CE CT : Addr} {H H1 : Hp} {E : XK} {y : V} (s : Same H H1) (h : NoF K CE CT H E y) : NoF K CE CT H1 E y := by
  obtain ⟨b, kd, o⟩ := h
  refine ⟨b, kd_at kd (fun a u _ e => s a u e), ?_⟩
  rcases o with ⟨e, r⟩ | ⟨i, e1, e2, ⟨c, r⟩ | ⟨c, r⟩⟩
  · exact .inl ⟨e, ref_same s r⟩
  · exact .inr ⟨i, e1, e2, .inl ⟨c, ref_same s r⟩⟩
  · exact .inr ⟨i, e1, e2, .inr ⟨c, ref_same s r⟩⟩
theorem noF_parts {K : PySem.W.Frag} {CE CT : Addr} {H : Hp} {E : XK} {y : V} (h : NoF K CE CT H E y) : ∃ b, Kd K H y b ∧ (b = false → Ref CE "value" H E y) ∧
    ∀ i : Int, y = .int i → b = true → (i < 1 → Ref CE "value" H E y) ∧ (1000000000 < i → Ref CT "limit" H E (.int 1000000000)) ∧ (1 ≤ i → i ≤ 1000000000 → False) := by
  obtain ⟨b, kd, o⟩ := h
  rcases o with ⟨rfl, r⟩ | ⟨i, rfl, rfl, ⟨c, r⟩ | ⟨c, r⟩⟩
  · exact ⟨false, kd, fun _ => r, fun _ _ z => nomatch z⟩
  · refine ⟨true, kd, (fun z => nomatch z), fun j ej _ => ?_⟩
    cases ej
    exact ⟨fun _ => r, fun z => absurd z (by omega), fun z => absurd z (by omega)⟩
  · refine ⟨true, kd, (fun z => nomatch z), fun j ej _ => ?_⟩
    cases ej
    exact ⟨fun z => absurd z (by omega), fun _ => r, fun _ z => absurd z (by omega)⟩
theorem snoc_map (A : List Int) (f : Nat → Int) (j : Nat) : (A ++ (List.range j).map f).map V.int ++ [V.int (f j)] = (A ++ (List.range (j + 1)).map f).map V.int := by
  rw [List.range_succ]; simp
theorem rangeV (n : Nat) (f : Nat → Int) (i : Nat) (h : i < n) : ((List.range n).map fun m => V.int (f m))[i]? = some (.int (f i)) := by
  rw [List.getElem?_map, List.getElem?_range h]; rfl
section
variable {P : Program} {w : World} {K : PySem.W.Frag} {mg : Str → Option Value} {base : Heap} {C CE CT CO : Addr}
abbrev sDv : Stmt := top 32
abbrev nDv : List Str := ["number", "found", "prime", "exponent", "powers", "_", "divisor", "power"]
theorem scDv : FnScope nDv ["number"] (defScope sDv) := ⟨rfl, rfl, rfl, by decide +kernel, rfl, by decide +kernel, by decide +kernel⟩
def spDv (K : PySem.W.Frag) (CE CT : Addr) : Sp := fun vs H Q E => ∃ y : V, vs = [y] ∧ (NoF K CE CT H E y ∨
  ∃ (i : Int) (prs : List (Int × Nat)), y = .int i ∧ 1 ≤ i ∧ i ≤ 1000000000 ∧ ppd i = prs.map kvOf ∧ PrOk prs ∧
    ∀ (H' : Hp) (t : Addr) (ns : List Int), Same H H' → ns.Perm (dvs prs) → ns.Pairwise (· ≤ ·) → H' t = some (.tup (ns.map V.int)) → Q (.ref t) H')
theorem ok_dv {f : Addr} {fd : FuncData} (F : Fun K "divisors" "divisors" sDv f fd) (S : HPp P w K mg base CE CT) (mR : mg "range" = none) (mT : mg "tuple" = none) (mS : mg "sorted" = none) :
    FnOk P w K mg base (L2.CX P w) 6 f fd ["number"] (spDv K CE CT) := by
  obtain ⟨fP, dP, GP, mP, kP, bP⟩ := S
  refine F.okX scDv (fun vs H Q E h => ?_) (fun cdv A outer s H vs Q E hr h => ?_)
  · obtain ⟨y, rfl, _⟩ := h
    rfl
  · obtain ⟨y, rfl, h⟩ := h
    refine ⟨_, pss_cons (ps_set (i := 1) scDv.nd rfl (.inl rfl) (pe_lst (pa_cons pe_int pa_nil)))
      (pss_cons (ps_for (passes_of rfl) rfl (pi_itemsN (pe_call GP hr rfl mP kP bP .nil (passes_call (takes_of rfl rfl rfl rfl) (fun _ _ _ _ h => h)) (pa_cons (pv 0) pa_nil))) (pg_tup rfl (pgs_cons (pg_name (i := 2) scDv.nd rfl (.inl rfl)) (pgs_cons (pg_name (i := 3) scDv.nd rfl (.inl rfl)) pgs_nil)))
        (pss_cons (ps_set (i := 4) scDv.nd rfl (.inr rfl) (pe_lst (pa_cons pe_int pa_nil)))
        (pss_cons (ps_for (passes_of rfl) rfl (pi_range1 rfl mR (pa_cons (pv 3) pa_nil)) (pg_name (i := 5) scDv.nd rfl (.inl rfl))
          (pss_one (ps_expr (pe_bm PySem.F.plainAttrs_list PySem.F.slot_list_append PySem.F.type_list_append mt_append (pv 4) (pa_cons (pe_op op_mul (pe_ix ix_list (pv 4) (pe_un un_neg pe_int) (fun _ _ => rfl)) (pv 2)) pa_nil)))))
        (pss_one (ps_setLc2 (i := 1) (own := [("divisor", 6), ("power", 7)]) (vs1 := [7]) (g := gName 6) (tt := tYes) (g1 := gName 7) (tt1 := tYes) (wi1 := iList K (tVar 4)) rfl scDv.nd rfl rfl (sw_true rfl rfl rfl (by decide +kernel)) (pi_list (pv 1)) (blkOk_by (N := nDv) (sc := defScope sDv) (by decide +kernel)) (by decide)
          (fun _ _ _ _ _ => pg_name (i := 6) scDv.nd rfl (.inl rfl)) (fun _ _ _ _ _ => pts_nil) (fun _ _ _ _ _ => pi_list (pv 4)) (fun _ _ _ _ _ => pg_name (i := 7) scDv.nd rfl (.inl rfl)) (fun _ _ _ _ _ => pts_nil) (fun _ _ _ _ _ => pe_op op_mul (pv 6) (pv 7)))))))
      (pss_one (ps_ret (pe_callTy call_tuple_of (by rfl) mT (by decide +kernel) (pa_cons (pe_callB cr_sortedI (by rfl) mS (by decide +kernel) (pa_cons (pv 1) pa_nil)) pa_nil))))), ?_⟩
    refine ⟨(by show 1 ≤ sizeLine; decide), fun l1 n1 => ?_⟩
    refine ⟨_, rfl, ?_⟩
    rcases h with h | ⟨i0, prs, rfl, i1, i9, ep, ok, k⟩
    · obtain ⟨b, kd, r1, r2⟩ := noF_parts (noF_same (same_new n1 (o := .lst [V.int 1])) h)
      exact ⟨y, b, rfl, kd, r1, fun i ei eb => ⟨(r2 i ei eb).1, (r2 i ei eb).2.1, fun a c => ((r2 i ei eb).2.2 a c).elim⟩⟩
    have kd : Kd K (upd H l1 (.lst [V.int 1])) (.int i0) true := by
      have := Kd.int (K := K) (H := upd H l1 (.lst [V.int 1])) i0
      rw [both (by unfold LONG; omega) (by unfold LONG; omega)] at this
      exact this
    refine ⟨_, true, rfl, kd, (fun z => nomatch z), fun j ej _ => ?_⟩
    cases ej
    refine ⟨fun z => absurd z (by omega), fun z => absurd z (by omega), fun _ _ p np => ?_⟩
    rw [ep]
    refine ⟨p, _, rfl, upd_same, fun od => ?_⟩
    rw [upd_upd]
    have nlp : l1 ≠ p := fun z => by rw [← z, upd_same] at np; cases np
    have s02 : Same H (upd (upd H l1 (.lst [V.int 1])) p (.frz od (.dK (prs.map kvOf)))) := Same.tr (same_new n1) (same_new np)
    have h2l : (upd (upd H l1 (.lst [V.int 1])) p (.frz od (.dK (prs.map kvOf)))) l1 = some (.lst [V.int 1]) := by rw [upd_ne nlp, upd_same]
    have h2p : (upd (upd H l1 (.lst [V.int 1])) p (.frz od (.dK (prs.map kvOf)))) p = some (.frz od (.dK (prs.map kvOf))) := upd_same
    generalize upd (upd H l1 (.lst [V.int 1])) p (.frz od (.dK (prs.map kvOf))) = H2 at *
    refine for_it walk_items (fun i σ H' => ∃ (a : Addr) (u2 u3 u4 u5 : Option V), σ = [some (.int i0), some (.ref a), u2, u3, u4, u5, none, none] ∧ Same H2 H' ∧ H' a = some (.lst ((dvs (prs.take i)).map V.int))) ?_ ?_ ?_ ?_
    · exact ⟨l1, none, none, none, none, rfl, same_refl H2, h2l⟩
    · rintro i σ H' _ ⟨a, u2, u3, u4, u5, rfl, sm, ha⟩
      exact sm _ _ h2p
    · rintro i x σ H' H'' hi ⟨a, u2, u3, u4, u5, rfl, sm, ha⟩ ⟨T, kx, vx, rfl, nT, rfl, ek, ev⟩
      rw [List.length_map] at hi
      obtain ⟨z, hz⟩ : ∃ z, prs[i]? = some z := ⟨prs[i], List.getElem?_eq_getElem hi⟩
      have hzm : z ∈ prs := List.mem_of_getElem? hz
      obtain ⟨z1, z9, ze, zp⟩ := ok.pos z hzm
      dsimp only at ek ev
      rw [List.getElem?_map, hz] at ek ev
      cases ek
      cases ev
      have naT : a ≠ T := ne_of_none ha nT
      refine ⟨T, _, rfl, .inl (.inl upd_same), rfl, _, _, rfl, _, _, rfl, rfl, ?_⟩
      refine ⟨(by show 1 ≤ sizeLine; decide), fun q nq => ?_⟩
      have sq : Same H' (upd H' T (.tup [kV (kvOf z).1, (kvOf z).2])) := same_new nT
      generalize upd H' T (.tup [kV (kvOf z).1, (kvOf z).2]) = Hq at *
      have haq : Hq a = some (.lst ((dvs (prs.take i)).map V.int)) := sq _ _ ha
      have naq : a ≠ q := ne_of_none haq nq
      refine ⟨_, rfl, (z.2 : Int), rfl, by omega, by omega, for_range (fun j σ H3 => ∃ u5 : Option V, σ = [some (.int i0), some (.ref a), some (.int z.1), some (.int (z.2 : Int)), some (.ref q), u5, none, none] ∧ H3 = upd Hq q (.lst ((List.range (j + 1)).map fun m => V.int (z.1 ^ m)))) ⟨_, rfl, ?_⟩ ?_ ?_⟩
      · show upd Hq q (.lst [V.int 1]) = upd Hq q (.lst [V.int (z.1 ^ 0)])
        rw [Int.pow_zero]
      · rintro j σ H3 hj ⟨u5, rfl, rfl⟩
        have hj' : j < z.2 := by omega
        obtain ⟨pw1, pw2⟩ := pow_le_of (j := j) (e := z.2) z1 (by omega)
        refine ⟨_, rfl, .inl ⟨rfl, _, SqL.of upd_same⟩, ?_⟩
        refine ⟨_, rfl, _, rfl, q, _, -1, _, rfl, rfl, SqL.of upd_same, atI_last (n := j) (by rw [List.length_map, List.length_range]) (rangeV (j + 1) (fun m => z.1 ^ m) j (by omega)), ?_⟩
        refine ⟨_, rfl, _, _, rfl, rfl, .inl ⟨by omega, by omega⟩, ?_⟩
        refine ⟨q, _, _, rfl, rfl, upd_same, ?_, _, rfl, ?_⟩
        · rw [List.length_map, List.length_range]
          exact Nat.lt_of_le_of_lt (show j + 1 ≤ 1000 by omega) (by decide)
        · rw [upd_upd, List.range_succ (n := j + 1), List.map_append]
          show upd Hq q (.lst (_ ++ [V.int (z.1 ^ j * z.1)])) = upd Hq q (.lst (_ ++ [V.int (z.1 ^ (j + 1))]))
          rw [Int.pow_succ]
      · rintro σ H3 ⟨u5, rfl, rfl⟩
        rw [Int.toNat_natCast]
        have h3a : (upd Hq q (.lst ((List.range (z.2 + 1)).map fun m => V.int (z.1 ^ m)))) a = some (.lst ((dvs (prs.take i)).map V.int)) := by rw [upd_ne naq]; exact haq
        have h3q : (upd Hq q (.lst ((List.range (z.2 + 1)).map fun m => V.int (z.1 ^ m)))) q = some (.lst ((List.range (z.2 + 1)).map fun m => V.int (z.1 ^ m))) := upd_same
        have s3 : Same H2 (upd Hq q (.lst ((List.range (z.2 + 1)).map fun m => V.int (z.1 ^ m)))) := Same.tr sm (Same.tr sq (same_new nq))
        generalize upd Hq q (.lst ((List.range (z.2 + 1)).map fun m => V.int (z.1 ^ m))) = H3 at *
        refine ⟨_, rfl, a, rfl, ⟨_, SqL.of h3a⟩, fun D nD => ?_⟩
        have naD : a ≠ D := ne_of_none h3a nD
        have nqD : q ≠ D := ne_of_none h3q nD
        refine turns (walk_list (xs := (dvs (prs.take i)).map V.int)) (fun i' H4 => H4 = upd H3 D (.lst ((((dvs (prs.take i)).take i').flatMap (fun d => (List.range (z.2 + 1)).map fun j => d * z.1 ^ j)).map V.int))) (by simp) ?_ ?_ ?_
        · rintro i' H4 _ rfl
          exact SqL.of (by rw [upd_ne naD]; exact h3a)
        · rintro i' x H4 H5 hi' rfl ⟨rfl, hx⟩
          rw [List.length_map] at hi'
          obtain ⟨d, hd⟩ : ∃ d, (dvs (prs.take i))[i']? = some d := ⟨(dvs (prs.take i))[i'], List.getElem?_eq_getElem hi'⟩
          rw [List.getElem?_map, hd] at hx
          cases hx
          refine ⟨rfl, ?_⟩
          refine ⟨_, rfl, q, rfl, ⟨_, SqL.of (by rw [upd_ne nqD]; exact h3q)⟩, ?_⟩
          refine turns (walk_list (xs := (List.range (z.2 + 1)).map fun m => V.int (z.1 ^ m))) (fun j H4 => H4 = upd H3 D (.lst ((((dvs (prs.take i)).take i').flatMap (fun d => (List.range (z.2 + 1)).map fun j => d * z.1 ^ j) ++ (List.range j).map fun j => d * z.1 ^ j).map V.int))) (by simp) ?_ ?_ ?_
          · rintro j H4 _ rfl
            exact SqL.of (by rw [upd_ne nqD]; exact h3q)
          · rintro j x H4 H5 hj rfl ⟨rfl, hx⟩
            rw [List.length_map, List.length_range] at hj
            rw [rangeV (z.2 + 1) (fun m => z.1 ^ m) j hj] at hx
            cases hx
            obtain ⟨pw1, pw2⟩ := pow_le_of (j := j) (e := z.2) z1 (by omega)
            refine ⟨rfl, ⟨_, rfl, _, rfl, _, _, rfl, rfl, .inr ⟨by omega, by omega⟩, _, upd_same, ?_, ?_⟩⟩
            · have l1 := ok.len (i + 1)
              rw [dvs_take hz] at l1
              unfold fstep at l1
              rw [fl_len] at l1
              rw [List.length_map, List.length_append, fl_len, List.length_take, List.length_map, List.length_range, Nat.min_eq_left (by omega)]
              have : (i' + 1) * (z.2 + 1) ≤ (dvs (prs.take i)).length * (z.2 + 1) := Nat.mul_le_mul_right _ (by omega)
              rw [Nat.add_mul, Nat.one_mul] at this
              exact Nat.lt_of_lt_of_le (show i' * (z.2 + 1) + j < 1000000 by omega) (by decide)
            · show upd (upd H3 D (.lst (((((dvs (prs.take i)).take i').flatMap (fun d => (List.range (z.2 + 1)).map fun j => d * z.1 ^ j)) ++ (List.range j).map fun j => d * z.1 ^ j).map V.int))) D (.lst (_ ++ [V.int (d * z.1 ^ j)])) = upd H3 D (.lst (((((dvs (prs.take i)).take i').flatMap (fun d => (List.range (z.2 + 1)).map fun j => d * z.1 ^ j)) ++ (List.range (j + 1)).map fun j => d * z.1 ^ j).map V.int))
              rw [upd_upd, ← snoc_map _ (fun j => d * z.1 ^ j) j]
          · rintro H4 rfl
            rw [List.length_map, List.length_range, fl_take hd]
        · rintro H4 rfl
          rw [List.length_map, List.take_length]
          refine ⟨D, _, _, _, _, rfl, Same.tr s3 (same_new nD), ?_⟩
          rw [upd_same, dvs_take hz]
          rfl
    · rintro σ H' ⟨a, u2, u3, u4, u5, rfl, sm, ha⟩
      rw [List.length_map, List.take_length] at ha
      exact ⟨_, rfl, a, dvs prs, rfl, SqL.of ha, fun ns p2 pe so np2 => ⟨p2, _, rfl, .inl ⟨SqL.of upd_same, fun t nt => k _ t ns (Same.tr s02 (Same.tr sm (Same.tr (same_new np2) (same_new nt)))) pe so upd_same⟩⟩⟩
end
end Lk

set_option Elab.async false
set_option linter.all false
set_option maxRecDepth 100000
set_option maxHeartbeats 4000000
/-! list(e.values()) -/
namespace Lk
open PySem PySem.Spec PyProof.Rows L2
theorem vals_at {A : Type} : ∀ {kvs : List (A × V)} {vs : List (A × Value)} {us : List Value}, Paired (fun (p : A × V) (q : A × Value) => p.1 = q.1 ∧ RelV p.2 q.2) kvs vs → us.length = kvs.length →
    (∀ (j : Nat) (u : Value), us[j]? = some u → ∃ k, vs[j]? = some (k, u)) → Vals (kvs.map (·.2)) us := by
  intro kvs vs us h
  induction h generalizing us with
  | nil =>
    intro l _
    cases us with
    | nil => exact .nil
    | cons _ _ => simp at l
  | cons r _ ih =>
    intro l f
    cases us with
    | nil => simp at l
    | cons u us =>
      refine .cons ?_ (ih (by simpa using l) fun j w e => f (j + 1) w (by simpa using e))
      obtain ⟨k, e⟩ := f 0 u rfl
      cases e
      exact r.2
section
variable {X : Cx} {te : TE} {e : Expr} {p pos cpos apos : Pos}
def tListVals (te : TE) : TE := fun σ H Q => te σ H fun x H1 => ∃ d kvs, x = .ref d ∧ H1 d = some (.dK kvs) ∧ ∀ q, H1 q = none → Q (.ref q) (upd H1 q (.lst (kvs.map (·.2))))
theorem pe_listVals (hc : X.calm = true) (he : PE X e te) (hg : Gl X "list") (hm : X.mg "list" = none) (hv : bootBuiltins "list" = some (.type "list") := by decide +kernel) (hbase : attributeBase e "values" X.env (eval e X.env) = eval e X.env := by rfl) (hline : (apos.endLine == cpos.line) = true := by rfl)
    (hs : starEach [.Call (.Attribute e "values" apos) [] [] cpos] X.env = (false, eval (.Call (.Attribute e "values" apos) [] [] cpos) X.env) :: starEach [] X.env := by rfl) :
    PE X (.Call (.Name "list" p) [.Call (.Attribute e "values" apos) [] [] cpos] [] pos) (tListVals te) := by
  refine ⟨fun pins s σ H Q I hq => ?_⟩
  refine wpAny_Call_Name_kw (ld_blt I hg hm hv ?_)
  refine PyProof.Rows.callWith_type1 ?_ hs rfl
  rw [hs]
  show wpAny _ _ (spliced ((false, eval (.Call (.Attribute e "values" apos) [] [] cpos) X.env) :: backTo pos (starEach [] X.env))) _ _ s
  refine Calls.spliced_cons ?_
  refine wpAny_Call_method (T := "dict") (id := "dict.values") hbase rfl hline F.plainAttrs_dict F.slot_dict_values F.type_dict_values (thn (he.run pins s σ H _ I hq) fun u s1 ⟨x, H1, I1, rx, d, kvs, ex, hd, q⟩ => ?_)
  subst ex
  obtain rfl : u = Value.ref d := rx
  obtain ⟨hz, hs0, vs, kv, hdo⟩ := I1.hok d _ hd
  obtain ⟨ep, hat⟩ := hdo.dictAt
  have lk : kvs.length = vs.length := Paired.length kv
  refine ⟨hdo.typeIs, hdo.mapOf.noDict, ?_⟩
  show wpAny _ _ (callWith cpos (.builtin "dict.values") [.ref d] [] []) _ X.xe s1
  refine method_meetsIn F.slot_dict_values F.entry_dict_values rfl (PySem.evalArgs_none ⟨rfl, hdo.typeIs, F.args_dict_values_1 _, _, meets_dict_values (mixKind X.prog X.w) d hs0, ⟨vs, hdo⟩, ?_⟩)
  refine Calls.spliced_nil ?_
  have I2 : Inv X pins σ H1 { s1 with heap := s1.heap.push { cls := .type "dict_values", data := .fields #[.ref d] } } := I1.kept (t' := s1.toks) fun b ob q => Heap.get?_push_of_some _ q
  refine PySem.W.kdl_call (PySem.W.kdl_values (knd := mixKind X.prog X.w) (d := d) (kvs := vs) (ep := ep)) (I1.ok.hd hc) ⟨⟨_, Heap.get?_push_size _ rfl, rfl, rfl⟩, hat.push _⟩ (by omega) fun h' tk acc' c' keep hS hacc => ?_
  refine ⟨.ref _, _, I2.laid (t' := tk) keep (Nat.le_refl _) (show ObjOk X.prog X.w _ _ _ (.lst (kvs.map (·.2))) from ⟨by rw [List.length_map]; exact hz, acc'.toList, c', ?_, by rw [Array.toArray_toList]; exact hS⟩), rfl, q _ (I2.hok.fresh (Nat.le_refl _))⟩
  exact vals_at kv (by rw [Array.length_toList, hacc.1, lk]) fun j u e => hacc.2 j u (by rw [← Array.getElem?_toList]; exact e)
end
end Lk

set_option Elab.async false
set_option linter.all false
set_option maxRecDepth 100000
set_option maxHeartbeats 4000000
set_option exponentiation.threshold 10000
namespace Lk
open PySem L2 Vx
/-! signs, step divisors, common divisors, names: what is told of good values -/
def mob (prs : List (Int × Nat)) : Int := if prs.any (fun z => decide (1 < z.2)) then 0 else if prs.length % 2 = 0 then 1 else -1
def sdv (prs : List (Int × Nat)) : Int := match prs with | [z] => z.1 | _ => 1
def gcdL (ns : List Int) : Int := ns.foldl (fun d n => ((Nat.gcd d.natAbs n.natAbs : Nat) : Int)) 0
def nmd (x : Str) : Bool := if 8 < x.length then false else Txt.isascii x && (Txt.isalpha x && Txt.islower x)
section
variable {P : Program} {w : World} {K : PySem.W.Frag} {mg : Str → Option Value} {base : Heap} {C CE CT CO : Addr}
theorem pp_good {H : Hp} {Q : VK} {E : XK} {i : Int} (i1 : 1 ≤ i) (i9 : i ≤ 1000000000) (k : ∀ p, H p = none → Q (.ref p) (upd H p (.dK (ppd i)))) : spPp K CE CT [.int i] H Q E := by
  have kd : Kd K H (.int i) true := by
    have := Kd.int (K := K) (H := H) i
    rw [both (by unfold LONG; omega) (by unfold LONG; omega)] at this
    exact this
  refine ⟨_, true, rfl, kd, (fun z => nomatch z), fun j ej _ => ?_⟩
  cases ej
  exact ⟨fun z => absurd z (by omega), fun z => absurd z (by omega), fun _ _ => k⟩
theorem scMo2 : FnScope ["number", "exponents", "exponent"] ["number"] (defScope sMo) := ⟨rfl, rfl, rfl, by decide +kernel, rfl, by decide +kernel, by decide +kernel⟩
def spMo (K : PySem.W.Frag) : Sp := fun vs H Q _ => ∃ (i : Int) (prs : List (Int × Nat)), vs = [.int i] ∧ 1 ≤ i ∧ i ≤ 1000000000 ∧ ppd i = prs.map kvOf ∧ prs.length < 1000 ∧ ∀ H', Same H H' → Q (.int (mob prs)) H'
theorem vals_kv (prs : List (Int × Nat)) : (prs.map kvOf).map (·.2) = prs.map fun z => V.int (z.2 : Int) := by rw [List.map_map]; rfl
theorem ok_mo {f : Addr} {fd : FuncData} (F : Fun K "moebius" "moebius" sMo f fd) (S : HPp P w K mg base CE CT) (mL : mg "list" = none) (mA : mg "any" = none) (mN : mg "len" = none) : FnOk P w K mg base (L2.CX P w) 6 f fd ["number"] (spMo K) := by
  obtain ⟨fS, dS, GS, mS, kS, bS⟩ := S
  refine F.okX scMo2 (fun vs H Q E h => ?_) (fun cdv A outer s H vs Q E hr h => ?_)
  · obtain ⟨i, prs, rfl, _⟩ := h
    rfl
  · obtain ⟨i, prs, rfl, i1, i9, ep, lp, k⟩ := h
    refine ⟨_, pss_cons (ps_set (i := 1) scMo2.nd rfl (.inl rfl) (pe_listVals rfl (pe_call GS hr rfl mS kS bS .nil (passes_call (takes_of rfl rfl rfl rfl) (fun _ _ _ _ h => h)) (pa_cons (pv 0) pa_nil)) rfl mL))
      (pss_cons (ps_if (pt_val (pe_callB (cr_any rfl) (by rfl) mA (by decide +kernel) (pa_cons (pe_lc (own := [("exponent", 2)]) (g := gName 2) (tt := tYes) rfl scMo2.nd (pi_list (pv 1)) (blkOk_by (N := ["number", "exponents", "exponent"]) (sc := defScope sMo) (by decide +kernel))
          (fun _ _ _ _ _ => pg_name (i := 2) scMo2.nd rfl (Or.inl rfl)) (fun _ _ _ _ _ => pts_nil) (fun _ _ _ _ _ => pe_cmpR op_gt (pv 2) pe_int (nomark _))) pa_nil))) (pss_one (ps_ret pe_int)) pss_nil)
      (pss_one (ps_ret (pe_ifExp (pt_cmpR op_eq (pe_op op_mod (pe_callB call_len_seq (by rfl) mN (by decide +kernel) (pa_cons (pv 1) pa_nil)) pe_int) pe_int (nomark _)) pe_int (pe_un un_neg pe_int))))), ?_⟩
    refine ⟨_, rfl, ?_⟩
    dsimp only [tNil, List.append_nil]
    refine pp_good i1 i9 fun p np => ?_
    rw [ep]
    refine ⟨p, _, rfl, upd_same, fun q nq => ?_⟩
    rw [vals_kv]
    have hq : (upd (upd H p (.dK (prs.map kvOf))) q (.lst (prs.map fun z => V.int (z.2 : Int)))) q = some (.lst (prs.map fun z => V.int (z.2 : Int))) := upd_same
    have s1 : Same H (upd (upd H p (.dK (prs.map kvOf))) q (.lst (prs.map fun z => V.int (z.2 : Int)))) := Same.tr (same_new np) (same_new nq)
    generalize upd (upd H p (.dK (prs.map kvOf))) q (.lst (prs.map fun z => V.int (z.2 : Int))) = H1 at *
    refine ⟨_, rfl, q, rfl, ⟨_, SqL.of hq⟩, fun D hD => ?_⟩
    have nD : q ≠ D := ne_of_none hq hD
    refine lc_list (xs := prs.map fun z => V.int (z.2 : Int)) (fun i H' => H' = upd H1 D (.lst ((prs.take i).map fun z => V.bl (decide (1 < (z.2 : Int)))))) (by simp) ?_ ?_ ?_
    · rintro i H' _ rfl
      exact SqL.of (by rw [upd_ne nD]; exact hq)
    · rintro j x H' hx rfl
      rw [List.getElem?_map] at hx
      obtain ⟨z, hz, rfl⟩ := Option.map_eq_some_iff.mp hx
      refine ⟨rfl, ?_⟩
      refine ⟨_, rfl, _, _, rfl, rfl, (prs.take j).map fun z => V.bl (decide (1 < (z.2 : Int))), upd_same, ?_, ?_⟩
      · rw [List.length_map, List.length_take]
        exact Nat.lt_of_le_of_lt (show min j prs.length ≤ 1000 by omega) (by decide)
      · rw [upd_upd, List.take_add_one, hz, List.map_append]
        rfl
    · rintro H' rfl
      rw [List.length_map, List.take_length]
      refine ⟨D, prs.map fun z => decide (1 < (z.2 : Int)), rfl, SqL.of (by rw [List.map_map]; exact upd_same), ?_⟩
      have e1 : (prs.map fun z => decide (1 < (z.2 : Int))).any id = prs.any fun z => decide (1 < z.2) := by
        rw [List.any_map]
        refine congrArg _ (funext fun z => ?_)
        show decide (1 < (z.2 : Int)) = decide (1 < z.2)
        exact decide_eq_decide.mpr (by omega)
      rw [e1]
      have k := k _ (Same.tr s1 (same_new hD (o := .lst (prs.map fun z => V.bl (decide (1 < (z.2 : Int)))))))
      unfold mob at k
      refine ⟨_, rfl, ?_⟩
      cases hb : prs.any fun z => decide (1 < z.2) with
      | true =>
        rw [hb] at k
        exact itT rfl k
      | false =>
        rw [hb] at k
        refine itF rfl ?_
        refine ⟨_, rfl, q, _, rfl, .inl (SqL.of (by rw [upd_ne nD]; exact hq)), ?_⟩
        rw [List.length_map]
        refine ⟨(prs.length : Int), 2, rfl, rfl, (by show (0 : Int) < 2; decide), rfl, _, rfl, ?_⟩
        rw [if_neg (by decide)] at k
        by_cases c : prs.length % 2 = 0
        · rw [if_pos c] at k
          exact itT (decide_eq_true (show V.int ((prs.length : Int) % 2) = V.int 0 by rw [show ((prs.length : Int) % 2) = 0 by omega])) k
        · rw [if_neg c] at k
          refine itF (decide_eq_false (fun z => c (by have := V.int.inj z; omega))) ?_
          exact ⟨1, rfl, k⟩
theorem scSd2 : FnScope ["number", "primes"] ["number"] (defScope sSd) := ⟨rfl, rfl, rfl, by decide +kernel, rfl, by decide +kernel, by decide +kernel⟩
theorem keys_kv (prs : List (Int × Nat)) : ((prs.map kvOf).map fun kv => kV kv.1) = prs.map fun z => V.int z.1 := by rw [List.map_map]; rfl
def spSd (K : PySem.W.Frag) : Sp := fun vs H Q _ => ∃ (i : Int) (prs : List (Int × Nat)), vs = [.int i] ∧ 2 ≤ i ∧ i ≤ 1000 ∧ ppd i = prs.map kvOf ∧ ∀ H', Same H H' → Q (.int (sdv prs)) H'
theorem ok_sd {f : Addr} {fd : FuncData} (F : Fun K "step_divisor" "step_divisor" sSd f fd) (S : HChk P w K mg base CE) (R : HPp P w K mg base CE CT) (mM : ∃ t, mg "MAX_CHOSEN" = some (.int 1000 t)) (mL : mg "list" = none) (mN : mg "len" = none) : FnOk P w K mg base (L2.CX P w) 6 f fd ["number"] (spSd K) := by
  obtain ⟨fS, dS, GS, mS, kS, bS⟩ := S
  obtain ⟨fR, dR, GR, mR, kR, bR⟩ := R
  obtain ⟨tk, hM⟩ := mM
  refine F.okX scSd2 (fun vs H Q E h => ?_) (fun cdv A outer s H vs Q E hr h => ?_)
  · obtain ⟨i, prs, rfl, _⟩ := h
    rfl
  · obtain ⟨i, prs, rfl, i2, i9, ep, k⟩ := h
    refine ⟨_, pss_cons (ps_expr (pe_call GS (hr.mono (by decide)) rfl mS kS bS .nil (passes_call (takes_of rfl rfl rfl rfl) (fun _ _ _ _ h => h)) (pa_cons (pv 0) (pa_cons pe_int (pa_cons (pe_glob rfl hM (show RelV (.int 1000) (.int 1000 tk) from ⟨_, rfl⟩)) pa_nil)))))
      (pss_cons (ps_set (i := 1) scSd2.nd rfl (.inl rfl) (pe_callTy (call_list_dK rfl) (by rfl) mL (by decide +kernel) (pa_cons (pe_call GR hr rfl mR kR bR .nil (passes_call (takes_of rfl rfl rfl rfl) (fun _ _ _ _ h => h)) (pa_cons (pv 0) pa_nil)) pa_nil)))
      (pss_one (ps_ret (pe_ifExp (pt_cmpR op_eq (pe_callB call_len_seq (by rfl) mN (by decide +kernel) (pa_cons (pv 1) pa_nil)) pe_int (nomark _)) (pe_ix ix_list (pv 1) pe_int (fun _ _ => rfl)) pe_int)))), ?_⟩
    have kd : Kd K H (.int i) true := by
      have := Kd.int (K := K) (H := H) i
      rw [both (by unfold LONG; omega) (by unfold LONG; omega)] at this
      exact this
    refine ⟨_, rfl, _, true, 2, 1000, rfl, kd, (fun z => nomatch z), fun j ej _ => ?_⟩
    cases ej
    refine ⟨fun z => absurd z (by omega), fun _ _ => ?_⟩
    refine ⟨_, rfl, ?_⟩
    dsimp only [tNil, List.append_nil]
    refine pp_good (i := i) (by omega) (by omega) fun p np => ?_
    rw [ep]
    refine ⟨p, _, rfl, upd_same, fun q nq => ?_⟩
    rw [keys_kv]
    refine ⟨_, rfl, q, _, rfl, .inl (SqL.of upd_same), rfl, _, rfl, ?_⟩
    have k := k _ (Same.tr (same_new np) (same_new nq (o := .lst (prs.map fun z => V.int z.1))))
    match prs, k with
    | [], k => exact itF rfl k
    | [z], k => exact itT rfl ⟨_, rfl, q, _, 0, _, rfl, rfl, SqL.of upd_same, rfl, k⟩
    | a :: b :: r, k =>
      refine itF (decide_eq_false (fun z => ?_)) k
      have := V.int.inj z
      simp only [List.map_cons, List.length_cons, List.length_map] at this
      omega
def spCd (K : PySem.W.Frag) : Sp := fun vs H Q _ => ∃ (a : Addr) (ns : List Int), vs = [.ref a] ∧ H a = some (.tup (ns.map V.int)) ∧ ns.length < 1000 ∧ (∀ n ∈ ns, -LONG < n ∧ n < LONG) ∧ ∀ H', Same H H' → Q (.int (gcdL ns)) H'
theorem gcd_take {ns : List Int} {i : Nat} {n : Int} (h : ns[i]? = some n) : gcdL (ns.take (i + 1)) = ((Nat.gcd (gcdL (ns.take i)).natAbs n.natAbs : Nat) : Int) := by
  unfold gcdL
  rw [List.take_add_one, h, List.foldl_append]
  rfl
theorem ok_cd {f : Addr} {fd : FuncData} (F : Fun K "common_divisor" "common_divisor" sCd f fd) (S : HIsI P w K mg base) (mI : mg "isinstance" = none) (mT : mg "tuple" = none) (mA : mg "all" = none) (mG : mg "gcd" = some (.builtin "math.gcd")) :
    FnOk P w K mg base CX0 3 f fd ["numbers"] (spCd K) := by
  obtain ⟨fS, dS, GS, mS, kS, bS⟩ := S
  refine F.ok scCd (fun vs H Q E h => ?_) (fun cdv A outer s H vs Q E hr h => ?_)
  · obtain ⟨a, ns, rfl, _⟩ := h
    rfl
  · obtain ⟨a, ns, rfl, ha, nl, sh, k⟩ := h
    refine ⟨_, pss_cons (ps_if (PW.pt (pw_or (pt_not (pt_val (pe_callB call_isi (by rfl) mI (by decide +kernel) (pa_cons (pv 0) (pa_cons (pe_bltn (by rfl) mT (by decide +kernel) (show RelV (.ty "tuple") (.type "tuple") from rfl)) pa_nil)))))
        (pw_or1 (pt_not (pt_val (pe_callB (cr_all rfl) (by rfl) mA (by decide +kernel) (pa_cons (pe_lc (own := [("number", 1)]) (g := gName 1) (tt := tYes) rfl scCd.nd (pi_tup (pv 0)) (blkOk_by (N := ["numbers", "number", "divisor"]) (sc := defScope sCd) (by decide +kernel))
          (fun _ _ _ _ _ => pg_name (i := 1) scCd.nd rfl (Or.inl rfl)) (fun _ _ _ _ _ => pts_nil) (fun _ _ _ _ _ => pe_call GS (hr.mono (by decide)) rfl mS kS bS .nil pass0 (pa_cons (pv 1) pa_nil))) pa_nil)))))))
        pss_never pss_nil)
      (pss_cons (ps_set (i := 2) scCd.nd rfl (.inl rfl) pe_int)
      (pss_cons (ps_for PassesOwn.never rfl (pi_tup (pv 0)) (pg_name (i := 1) scCd.nd rfl (.inl rfl)) (pss_one (ps_set (i := 2) scCd.nd rfl (.inl rfl) (pe_callBfun cr_gcd rfl mG (pa_cons (pv 2) (pa_cons (pv 1) pa_nil))))))
      (pss_one (ps_ret (pv 2))))), ?_⟩
    refine ⟨_, rfl, _, _, _, _, true, rfl, .ty "tuple", .base (.tup ha), kit_ty (by decide +kernel), _, rfl, itF rfl ?_⟩
    refine ⟨_, rfl, a, rfl, ⟨_, SqT.of ha⟩, fun D hD => ?_⟩
    have nD : a ≠ D := ne_of_none ha hD
    refine lc_tup (xs := ns.map V.int) (fun i H' => H' = upd H D (.lst ((List.replicate i true).map V.bl))) rfl ?_ ?_ ?_
    · rintro i H' _ rfl
      exact SqT.of (by rw [upd_ne nD]; exact ha)
    · rintro i x H' hx rfl
      rw [List.getElem?_map] at hx
      obtain ⟨n, hn, rfl⟩ := Option.map_eq_some_iff.mp hx
      obtain ⟨s1, s2⟩ := sh n (List.mem_of_getElem? hn)
      have il : i < ns.length := (List.getElem?_eq_some_iff.mp hn).1
      refine ⟨rfl, ?_⟩
      have kd := Kd.int (K := K) (H := upd H D (.lst ((List.replicate i true).map V.bl))) n
      rw [both s1 s2] at kd
      refine ⟨_, rfl, _, true, rfl, kd, (List.replicate i true).map V.bl, upd_same, ?_, ?_⟩
      · rw [List.length_map, List.length_replicate]
        exact Nat.lt_of_lt_of_le (show i < 1000 by omega) (by decide)
      · rw [upd_upd, List.replicate_succ', List.map_append]
        rfl
    · rintro H' rfl
      rw [List.length_map]
      refine ⟨D, _, rfl, SqL.of upd_same, ?_⟩
      have e : (List.replicate ns.length true).all id = true := by
        rw [List.all_eq_true]
        intro x hx
        exact (List.mem_replicate.mp hx).2
      rw [e]
      refine ⟨_, rfl, itF rfl ?_⟩
      have ha2 : (upd H D (.lst ((List.replicate ns.length true).map V.bl))) a = some (.tup (ns.map V.int)) := by rw [upd_ne nD]; exact ha
      have k := k _ (same_new hD (o := .lst ((List.replicate ns.length true).map V.bl)))
      generalize upd H D (.lst ((List.replicate ns.length true).map V.bl)) = H1 at *
      refine ⟨_, rfl, a, rfl, ⟨_, SqT.of ha2⟩, for_tup (xs := ns.map V.int) (fun i σ H' => H' = H1 ∧ ∃ v : Option V, σ = [some (.ref a), v, some (.int (gcdL (ns.take i)))]) ⟨rfl, _, rfl⟩ ?_ ?_ ?_⟩
      · rintro i σ H' _ ⟨rfl, _⟩
        exact SqT.of ha2
      · rintro i x σ H' hx ⟨rfl, v, rfl⟩
        rw [List.getElem?_map] at hx
        obtain ⟨n, hn, rfl⟩ := Option.map_eq_some_iff.mp hx
        refine ⟨_, rfl, _, rfl, _, _, rfl, rfl, some (.int n), ?_⟩
        rw [gcd_take hn]
        rfl
      · rintro σ H' ⟨rfl, v, rfl⟩
        rw [List.length_map, List.take_length]
        exact ⟨_, rfl, k⟩
abbrev sNm : Stmt := top 27
theorem scNm : FnScope ["value"] ["value"] (defScope sNm) := ⟨rfl, rfl, rfl, by decide +kernel, rfl, by decide +kernel, by decide +kernel⟩
def spNm (K : PySem.W.Frag) : Sp := fun vs H Q _ => ∃ y : V, vs = [y] ∧ ((∃ t, TyX K H y t ∧ PySem.W.kitOne K t (.type "str") = some false ∧ Q (.bl false) H) ∨ ∃ x, y = .str x ∧ x.length ≤ 700 ∧ Q (.bl (nmd x)) H)
theorem ok_nm {f : Addr} {fd : FuncData} (F : Fun K "is_name" "is_name" sNm f fd) (mI : mg "isinstance" = none) (mT : mg "str" = none) (mN : mg "len" = none) (mM : ∃ t, mg "MAX_NAME" = some (.int 8 t)) : FnOk P w K mg base CX0 1 f fd ["value"] (spNm K) := by
  obtain ⟨tk, hM⟩ := mM
  refine F.ok scNm (fun vs H Q E h => ?_) (fun cdv A outer s H vs Q E hr h => ?_)
  · obtain ⟨y, rfl, _⟩ := h
    rfl
  · obtain ⟨y, rfl, h⟩ := h
    refine ⟨_, pss_cons (ps_if (PW.pt (pw_or (pt_not (pt_val (pe_callB call_isi (by rfl) mI (by decide +kernel) (pa_cons (pv 0) (pa_cons (pe_bltn (by rfl) mT (by decide +kernel) (show RelV (.ty "str") (.type "str") from rfl)) pa_nil)))))
        (pw_or1 (pt_cmpR op_gt (pe_callB call_len_str (by rfl) mN (by decide +kernel) (pa_cons (pv 0) pa_nil)) (pe_glob rfl hM (show RelV (.int 8) (.int 8 tk) from ⟨_, rfl⟩)) (nomark _)))))
        (pss_one (ps_ret pe_bl)) pss_nil)
      (pss_one (ps_ret (pe_and (pe_m0 PySem.F.slot_str_isascii PySem.F.type_str_isascii mt_isascii (pv 0))
        (pe_and (pe_m0 PySem.F.slot_str_isalpha PySem.F.type_str_isalpha mt_isalpha (pv 0))
          (pe_one (pe_m0 PySem.F.slot_str_islower PySem.F.type_str_islower mt_islower (pv 0))))))), ?_⟩
    rcases h with ⟨t, ty, no, k⟩ | ⟨x, rfl, hx, k⟩
    · exact ⟨_, rfl, _, _, _, _, false, rfl, .ty "str", ty, no, _, rfl, itT rfl (itT rfl k)⟩
    · refine ⟨_, rfl, _, _, _, _, true, rfl, .ty "str", .base (.str x), kit_ty (by decide +kernel), _, rfl, itF rfl ?_⟩
      refine ⟨_, rfl, x, rfl, Nat.le_trans hx (by decide), _, _, rfl, rfl, _, rfl, ?_⟩
      unfold nmd at k
      by_cases c : 8 < x.length
      · rw [if_pos c] at k
        exact itT (decide_eq_true (show (8 : Int) < x.length by omega)) k
      · rw [if_neg c] at k
        refine itF (decide_eq_false (show ¬ (8 : Int) < x.length by omega)) ?_
        refine ⟨_, rfl, ⟨x, rfl⟩, x, rfl, rfl, trivial, _, rfl, ?_⟩
        cases a : Txt.isascii x with
        | false => rw [a] at k; exact k
        | true =>
          rw [a] at k
          refine ⟨_, rfl, ⟨x, rfl⟩, x, rfl, rfl, trivial, _, rfl, ?_⟩
          cases b : Txt.isalpha x with
          | false => rw [b] at k; exact k
          | true =>
            rw [b] at k
            exact ⟨_, rfl, ⟨x, rfl⟩, x, rfl, rfl, trivial, k⟩
end
end Lk

set_option Elab.async false
set_option linter.all false
set_option maxRecDepth 100000
set_option maxHeartbeats 4000000
/-! set(xs) of a list of integers, and sorted of such a set, of any number of members -/
namespace Lk
open PySem PySem.Spec PyProof.Rows L2
section
variable {P : Program} {w : World} {A : Around} {E : Value → Shared → Prop} {s : Shared} {a : Addr}
theorem sorted_setA {S : Int → Bool} {n : Nat} {Q : Value → Shared → Prop} (R : SetR w s.heap a S n) (hh : A.handled = none) (hl : n ≤ sizeLine)
    (hQ : ∀ s' p (out : Array Value) (c : Nat) (ns : List Int), (∀ b o, s.heap.get? b = some o → s'.heap.get? b = some o) → s'.gens = s.gens → s'.os = s.os → s.heap.objs.size ≤ p →
      s'.heap.get? p = some (seqObj "list" out c) → IntsAre out.toList ns → ns.Pairwise (· < ·) → (∀ k, k ∈ ns ↔ S k = true) → ns.length = n → Q (.ref p) s') :
    wpAny (model P w) A (call (.builtin "sorted") [.ref a]) Q E s := by
  obtain ⟨o, es, ep, t, ho, hex, hd, g, nd, hm, hb, hf, hn, hr, hl'⟩ := R
  refine Calls.call_function_entry kind_sorted plain_sorted entry_sorted (args_sorted1 _) ?_
  unfold Builtin.«sorted»
  refine wpAny_bind (m := checkCount "sorted" 1 1 _) (wpAny_pure ?_)
  refine wpAny_bind (collect_set (A := A.in1) hh ⟨o, ho, hex.1, hd⟩ hf hb hr hl' fun s1 vs k1 hz g1 o1 pm => ?_)
  have hvl : vs.length = n := by rw [pm.length_eq, List.length_map, Array.length_toList]; exact hn
  have hI : IntsAre vs (vs.map Builtin.Re.reRawOf) := ints_of vs fun v hv => by
    obtain ⟨e, he, q⟩ := List.mem_map.mp (pm.mem_iff.mp hv)
    obtain ⟨k, tk, h1, _⟩ := g e he
    exact ⟨k, tk, by rw [← q]; exact h1⟩
  have pk : (vs.map Builtin.Re.reRawOf).Perm (es.toList.map keyOf) := by
    have q := pm.map Builtin.Re.reRawOf
    rw [List.map_map] at q
    exact q
  refine wpAny_bind (wpAny_newList ?_ (by rw [hvl]; exact hl))
  have hoL : (s1.heap.push (seqObj "list" vs.toArray 0)).get? s1.heap.objs.size = some (seqObj "list" vs.toArray 0) := Heap.get?_push_size _ rfl
  refine wpAny_bind (wpAny_holding (wpAny_call_entry slot_list_sort ⟨_, hoL, rfl⟩ entry_list_sort (SrtO.list_sort_ord SrtO.swo_int hoL (by rw [hvl]; exact hl) (fun h2 => SrtO.ints_sortable hI h2) fun out h1 h2 => ⟨_, rfl, ?_⟩) (args_list_sort _)))
  obtain ⟨a1, a2, a3⟩ := SrtO.ints_out hI h1 h2
  obtain ⟨c, hc⟩ := sortedHeap_at (vs := vs) (out := out.toArray) hoL
  have pn : (out.map SrtO.iv).Perm (es.toList.map keyOf) := a2.trans pk
  refine wpAny_pure ⟨_, rfl, hQ _ s1.heap.objs.size out.toArray c (out.map SrtO.iv) (fun b u e => ?_) g1 o1 hz hc a1 (lt_of_le_nodup _ a3 (pn.nodup_iff.mpr nd)) (fun k => by rw [pn.mem_iff, ← hm k]) ?_⟩
  · have q := k1 b u e
    have hlt := Heap.lt_size q
    show (sortedHeap (s1.heap.push (seqObj "list" vs.toArray 0)) s1.heap.objs.size vs out.toArray).get? b = some u
    rw [sortedHeap_old (Nat.ne_of_lt hlt) (by rw [size_push']; exact Nat.lt_succ_of_lt hlt)]
    exact Heap.get?_push_of_some _ q
  · rw [pn.length_eq, List.length_map, Array.length_toList]; exact hn
end
section
variable {X : Cx}
/-- sorted(found), any number of members -/
def rSortedSetA (w : World) : List V → Hp → VK → Prop := fun vs H Q => ∃ (a : Addr) (S : Int → Bool) (n : Nat), vs = [V.ref a] ∧ H a = some (SetO w a S n) ∧ n ≤ sizeLine ∧
  ∀ (ns : List Int) (p : Addr), ns.Pairwise (· < ·) → (∀ k : Int, k ∈ ns ↔ S k = true) → H p = none → Q (.ref p) (upd H p (.lst (ns.map V.int)))
theorem cr_sortedSetA (hc : X.calm = true) : CallR X (.builtin "sorted") (rSortedSetA X.w) := by
  intro pins s σ H vs us Q I r h
  obtain ⟨a, S, n, rfl, ha, hl0, q⟩ := h
  have R := setO_get I ha
  rw [Vals.ref1 r]
  refine sorted_setA R (I.ok.hd hc) hl0 fun s' p out c ns k g o hp hg hi hs hm hl => ?_
  have hlen : (ns.map V.int).length ≤ sizeLine := by rw [List.length_map, hl]; exact hl0
  have hn : H p = none := I.hok.fresh hp
  have J : Inv X pins σ (upd H p (.lst (ns.map V.int))) { s with heap := s'.heap, gens := s'.gens, drawn := s'.drawn, toks := s'.toks } :=
    I.call (ch := []) (Un.laid k hp hn) (I.hok.laid k hp ⟨hlen, out.toList, c, vals_of_ints hi, hg⟩) (by rw [g]; exact I.bare) (fun _ z => nomatch z)
  have e : s' = { s with heap := s'.heap, gens := s'.gens, drawn := s'.drawn, toks := s'.toks } := by
    cases s'
    cases s
    cases o
    rfl
  rw [e]
  exact ⟨.ref p, _, J, rfl, q ns p hs hm hn⟩
end
end Lk

set_option Elab.async false
set_option linter.all false
set_option maxRecDepth 100000
set_option maxHeartbeats 4000000
namespace Lk
open PySem PySem.Spec PyProof.Rows L2
/-- a set that has just been made -/
abbrev nSet (w : World) : Obj := { cls := .type "set", dict := none, data := .set #[] 0 (.fresh 0 0 (!w.params.followText "set-order")) }
section
variable {P : Program} {w : World} {A : Around} {E : Value → Shared → Prop} {s : Shared} {l : Addr} {items : Array Value}
/-- what set.__init__ does to a new set, by a list of integers -/
theorem init_setL (ns : List Int) {R : Result → Shared → Prop} (noH : A.handled = none) (lst : s.heap.IsList l items) (itg : IntsAre items.toList ns) (few : ns.length + 1 < scanBound)
    (fin : ∀ (h' : Heap) (tk c : Nat), SetR w h' s.heap.objs.size (fun j => decide (j ∈ ns)) c → c ≤ ns.length → (∀ b o, s.heap.get? b = some o → h'.get? b = some o) → R (.ok (.ret .none)) { s with heap := h', toks := tk }) :
    codeAny (model P w) A (.builtin "set.update.loop" ⟨[.ref s.heap.objs.size, .ref (s.heap.push (nSet w)).objs.size], []⟩) R { s with heap := (s.heap.push (nSet w)).push { cls := .type "list_iterator", data := .fields #[.ref l, .int 0 0] } } := by
  have sz : items.size = ns.length := (Array.length_toList (xs := items)).symm.trans (IntsAre.length itg)
  obtain ⟨ob, hob, q⟩ := id lst
  have low : l < s.heap.objs.size := Heap.lt_size hob
  have top : (s.heap.push (nSet w)).objs.size = s.heap.objs.size + 1 := Heap.size_push ..
  have apart : l ≠ (s.heap.push (nSet w)).objs.size := by rw [top]; exact Nat.ne_of_lt (Nat.lt_succ_of_lt low)
  have out : s.heap.objs.size ∉ [(s.heap.push (nSet w)).objs.size, l] := fun z => by
    rcases List.mem_cons.mp z with z | z
    · rw [top] at z; exact absurd z (Nat.ne_of_lt (Nat.lt_succ_self _))
    · exact absurd (List.mem_singleton.mp z) (Nat.ne_of_gt low)
  have here : ((s.heap.push (nSet w)).push { cls := .type "list_iterator", data := .fields #[.ref l, .int 0 0] }).get? s.heap.objs.size = some (nSet w) := Heap.get?_push_of_some _ (Heap.get?_push_size _ rfl)
  refine set_update_ints ((Walks.list (A := A.in1) noH _ l apart items).toS) s.heap.objs.size out ns sz few (fun i v hv => ?_) (items.size - 0) 0 _ (by omega) (Nat.zero_le _) ⟨⟨_, Heap.get?_push_size _ rfl, rfl, rfl⟩, (lst.push _).push _⟩ ⟨0, Nat.le_refl 0, setR_new_at here⟩ ?_
  · have low : i < ns.length := by rw [← sz]; exact (Array.getElem?_eq_some_iff.mp hv).1
    obtain ⟨t, e⟩ := IntsAre.int_at itg i v (by rw [Array.getElem?_toList]; exact hv)
    exact ⟨ns[i], t, List.getElem?_eq_getElem low, by rw [e, List.getD_eq_getElem?_getD, List.getElem?_eq_getElem low]; rfl⟩
  · intro s' c m few' set'
    obtain ⟨h', g2, d', tk', os'⟩ := s'
    obtain rfl : g2 = s.gens := m.gens
    obtain rfl : d' = s.drawn := m.drawn
    obtain rfl : os' = s.os := m.os
    refine fin h' tk' c set' (by rw [← sz]; exact few') fun b o e => ?_
    have lb : b < s.heap.objs.size := Heap.lt_size e
    refine m.heap b o (fun z => ?_) (Heap.get?_push_of_some _ (Heap.get?_push_of_some _ e))
    rcases List.mem_cons.mp z with z | z
    · exact absurd z (Nat.ne_of_lt lb)
    · exact absurd (List.mem_singleton.mp z) (by rw [top]; exact Nat.ne_of_lt (Nat.lt_succ_of_lt lb))
set_option maxHeartbeats 8000000 in
theorem call_setL (ns : List Int) {Q : Value → Shared → Prop} (noH : A.handled = none) (lst : s.heap.IsList l items) (itg : IntsAre items.toList ns) (few : ns.length + 1 < scanBound)
    (fin : ∀ (h' : Heap) (tk c : Nat), SetR w h' s.heap.objs.size (fun j => decide (j ∈ ns)) c → c ≤ ns.length → (∀ b o, s.heap.get? b = some o → h'.get? b = some o) → Q (.ref s.heap.objs.size) { s with heap := h', toks := tk }) :
    wpAny (model P w) A (call (.type "set") [.ref l]) Q E s := by
  obtain ⟨c, tl, m1⟩ := F.called_set.mro
  have m2 := F.called_set.made
  have m3 := F.called_set.sub
  refine wpAny_call (codeAny_of_tree ?_)
  show wpAny _ _ (callAny (.type "set") _) _ _ _
  refine wpAny_pure ⟨Code.quiet_builtin _ (by decide +kernel), codeAny_builtin F.entry_type_call ?_⟩
  rw [Around.under_plain (weight_type_call_type "set" [.ref l] []) rfl]
  have m4 := F.called_set.notType; have m5 := F.called_set.canCreate; have m6 := F.typeCall_set_1 (.ref l)
  repeat (any_goals (first | assumption | wp_step))
  refine codeAny_mono (code_set_led1 (.ref l) (E := E) (Q₁ := fun obj s₁ => obj = .ref s.heap.objs.size ∧ s₁ = { s with heap := s.heap.push (nSet w) }) ⟨rfl, rfl⟩) fun r s₁ hr => ?_
  rcases r with e | fl
  · exact hr
  cases fl with
  | ret obj =>
    obtain ⟨rfl, rfl⟩ := hr
    have hS : (s.heap.push (nSet w)).get? s.heap.objs.size = some (nSet w) := Heap.get?_push_size _ rfl
    have hT : Shared.TypeIs { s with heap := s.heap.push (nSet w) } (.ref s.heap.objs.size) "set" := ⟨_, hS, rfl⟩
    have i1 := F.called_set.init.lookup; have i2 := F.called_set.init.bind (.ref s.heap.objs.size)
    repeat (any_goals (first | assumption | wp_step))
    refine codeAny_mono (codeAny_call_builtin (R := wants (fun r s₂ => r = .none ∧ ∃ h' tk c, s₂ = { s with heap := h', toks := tk } ∧ SetR w h' s.heap.objs.size (fun j => decide (j ∈ ns)) c ∧ c ≤ ns.length ∧ (∀ b o, s.heap.get? b = some o → h'.get? b = some o)) E) F.called_set.init.plain F.entry_set_init (check_set_init_1 hT ?_)) fun r₂ s₂ hr₂ => ?_
    · obtain ⟨ol, hol, hcl, nl, hdl⟩ := id lst
      obtain ⟨ocls, odict, odata, oslots⟩ := ol
      dsimp only at hcl hdl
      subst hcl hdl
      have hol' : (s.heap.push (nSet w)).get? l = some { cls := .type "list", dict := odict, data := .seq items nl, slots := oslots } := Heap.get?_push_of_some _ hol
      have n1 := F.sub_list_set; have n2 := F.sub_list_frozenset; have n3 : (Value.type "list" == Value.type "dict") = false := by decide
      unfold Builtin.«set.__init__» noKeywords Builtin.Frozenset.updateFrom
      generalize hPI : pyIter = PI
      wp_walk
      subst hPI
      refine wpAny_pyIter_list (lst.push (nSet w)) ?_
      refine wpAny_bind (wpAny_runValue ?_)
      refine init_setL ns (A := A.in1.in1) noH lst itg few fun h' tk c a b k => ?_
      show wpAny _ _ _ _ _ _
      refine wpAny_pure ?_
      show wpAny _ _ (ret Value.none) _ _ _
      exact wpAny_pure ⟨rfl, h', tk, c, rfl, a, b, k⟩
    · rcases r₂ with e | fl₂
      · exact hr₂
      cases fl₂ with
      | ret r =>
        obtain ⟨rfl, h', tk, c, rfl, a, b, k⟩ := hr₂
        repeat (any_goals (first | assumption | wp_step))
        exact fin _ _ _ a b k
      | _ => exact hr₂.elim
  | _ => exact hr.elim
end
section
variable {X : Cx}
/-- set(xs), xs a list of integers -/
def rSetL (K : PySem.W.Frag) (w : World) : List V → Hp → VK → Prop := fun xs H Q => ∃ (l : Addr) (ns : List Int), xs = [V.ref l] ∧ SqL K H l (ns.map V.int) ∧ ns.length + 1 < scanBound ∧
  ∀ a c, H a = none → c ≤ ns.length → Q (.ref a) (upd H a (SetO w a (fun j => decide (j ∈ ns)) c))
theorem cr_setL (hc : X.calm = true) : CallR X (.type "set") (rSetL X.K X.w) := by
  intro pins s σ H xs us Q I r h
  obtain ⟨l, ns, rfl, hl, few, q⟩ := h
  rw [Vals.ref1 r]
  obtain ⟨its, rv, pl, hz⟩ := I.list hl
  refine call_setL ns (I.ok.hd hc) pl.isList (by simpa using rv.ints) few fun h' tk c R le k => ?_
  exact ⟨.ref s.heap.objs.size, upd H s.heap.objs.size (SetO X.w s.heap.objs.size (fun j => decide (j ∈ ns)) c), I.laid (t' := tk) k (Nat.le_refl _) (setO_new R), rfl, q _ c (I.hok.fresh (Nat.le_refl _)) le⟩
end
end Lk

set_option Elab.async false
set_option linter.all false
set_option maxRecDepth 100000
set_option maxHeartbeats 4000000
namespace Lk
open PySem L2 Vx
/-! factors: the least factor, again and again -/
/-- the least factor above 1 -/
def Mf (r p : Int) : Prop := 2 ≤ p ∧ p ∣ r ∧ ∀ d : Int, 2 ≤ d → d < p → ¬ d ∣ r
theorem Mf.uniq {r p q : Int} (h : Mf r p) (k : Mf r q) : p = q := by
  rcases Int.lt_trichotomy p q with c | c | c
  · exact absurd h.2.1 (k.2.2 p h.1 c)
  · exact c
  · exact absurd k.2.1 (h.2.2 q k.1 c)
/-- nothing from 2 to below s divides -/
def Fr2 (r s : Int) : Prop := ∀ d : Int, 2 ≤ d → d < s → ¬ d ∣ r
inductive Fz : Int → List Int → Prop
  | one : Fz 1 []
  | step {r p : Int} {l : List Int} : Mf r p → 1 < r → Fz (r / p) l → Fz r (p :: l)
theorem Fz.uniq {r : Int} {l : List Int} (h : Fz r l) : ∀ {m : List Int}, Fz r m → l = m := by
  induction h with
  | one =>
    intro m k
    cases k with
    | one => rfl
    | step _ a _ => exact absurd a (by decide)
  | @step r p l a b c ih =>
    intro m k
    cases k with
    | one => exact absurd b (by decide)
    | step a' b' c' =>
      have e := a.uniq a'
      subst e
      rw [ih c']
/-- one turn of the search -/
theorem Fr2.next {r s : Int} (h : Fr2 r s) (n : ¬ s ∣ r) : Fr2 r (s + 1) := fun d d2 ds dv => by
  by_cases e : d = s
  · subst e; exact n dv
  · exact h d d2 (by omega) dv
theorem Fr2.div {r s p : Int} (h : Fr2 r s) (d : p ∣ r) : Fr2 (r / p) s := fun e e2 es ev => h e e2 es (by
  obtain ⟨c, rfl⟩ := d
  by_cases z : p = 0
  · subst z; simp
  · rw [Int.mul_ediv_cancel_left c z] at ev
    exact Int.dvd_trans ev (Int.dvd_mul_left p c))
/-- what has no factor up to its root is a prime, or 1 -/
theorem Fr2.prime {r s : Int} (h : Fr2 r s) (r1 : 1 < r) (s2 : 2 ≤ s) (q : r < s * s) : Mf r r := by
  refine ⟨by omega, Int.dvd_refl r, fun d d2 dr dv => ?_⟩
  obtain ⟨c, e⟩ := dv
  by_cases a : d < s
  · exact h d d2 a ⟨c, e⟩
  · have c1 : 0 < c := by
      rcases Int.lt_or_le 0 c with z | z
      · exact z
      · have : d * c ≤ 0 := Int.mul_nonpos_of_nonneg_of_nonpos (by omega) z
        omega
    have c2 : 2 ≤ c := by
      rcases Int.lt_or_le 1 c with z | z
      · omega
      · have : c = 1 := by omega
        rw [this, Int.mul_one] at e
        omega
    have cs : c < s := by
      rcases Int.lt_or_le c s with z | z
      · exact z
      · have : s * s ≤ d * c := Int.mul_le_mul (by omega) z (by omega) (by omega)
        omega
    exact h c c2 cs ⟨d, by rw [e, Int.mul_comm]⟩
theorem Mf.of_fr {r s : Int} (h : Fr2 r s) (s2 : 2 ≤ s) (d : s ∣ r) : Mf r s := ⟨s2, d, h⟩
/-- the program's search finds the least factor -/
theorem or_one {s : Int} (h0 : 0 ≤ s) : (Builtin.bitOr s 1 = s ∧ s % 2 = 1) ∨ (Builtin.bitOr s 1 = s + 1 ∧ s % 2 = 0) := by
  rw [bitOr_nn h0 (by decide)]
  have e1 : (s.toNat ||| 1) % 2 = 1 := by simp
  have e2 : (s.toNat ||| 1) / 2 = s.toNat / 2 := by rw [Nat.or_div_two]; simp
  have e3 : (1 : Int).toNat = 1 := rfl
  rw [e3]
  generalize s.toNat ||| 1 = x at *
  omega
theorem size2 {a b : Int} {i : Nat} (h : a + i * 2 < b) : i < (Builtin.Range.rangeSize a b 2).toNat := by
  unfold Builtin.Range.rangeSize
  simp only [show (2 : Int) > 0 by decide, if_true]
  split <;> omega
theorem dvd_of_even {r d : Int} (h : d ∣ r) (e : d % 2 = 0) : r % 2 = 0 := by
  obtain ⟨c, rfl⟩ := h
  rw [Int.mul_emod, e]
  simp
theorem lf_mf {r s : Int} (r2 : 2 ≤ r) (s2 : 2 ≤ s) (h : Fr2 r s) : Mf r (lf r s) := by
  unfold lf
  split
  · rename_i c
    exact ⟨by decide, Int.dvd_of_emod_eq_zero c.2, fun d d1 d2 => absurd d2 (by omega)⟩
  · rename_i c
    have odd : r % 2 = 1 := by
      by_cases e : s = 2
      · have : ¬ r % 2 = 0 := fun z => c ⟨e, z⟩
        omega
      · have : ¬ r % 2 = 0 := fun z => h 2 (by decide) (by omega) (Int.dvd_of_emod_eq_zero z)
        omega
    have od : ∀ d : Int, d ∣ r → d % 2 = 1 := fun d dv => by
      have : ¬ d % 2 = 0 := fun z => by have := dvd_of_even dv z; omega
      omega
    have lo : ∀ d : Int, 2 ≤ d → d ∣ r → ∃ i : Nat, d = Builtin.bitOr s 1 + (i : Nat) * 2 := fun d d2 dv => by
      have o := od d dv
      have g : s ≤ d := by
        rcases Int.lt_or_le d s with z | z
        · exact absurd dv (h d d2 z)
        · exact z
      rcases or_one (s := s) (by omega) with ⟨e, p⟩ | ⟨e, p⟩
      · exact ⟨((d - s) / 2).toNat, by rw [e]; omega⟩
      · exact ⟨((d - (s + 1)) / 2).toNat, by rw [e]; omega⟩
    have s1 := or_self (s := s) (by omega)
    unfold lfS
    cases e : (List.range (Builtin.Range.rangeSize (Builtin.bitOr s 1) (rt r) 2).toNat).find? (fun i => decide (r % (Builtin.bitOr s 1 + (i : Nat) * 2) = 0)) with
    | some i =>
      have q := List.find?_range_eq_some.mp e
      obtain ⟨q1, q2, q3⟩ := q
      dsimp only
      refine ⟨by omega, Int.dvd_of_emod_eq_zero (of_decide_eq_true q1), fun d d2 dl dv => ?_⟩
      obtain ⟨j, rfl⟩ := lo d d2 dv
      have q4 := q3 j (by omega)
      rw [Int.emod_eq_zero_of_dvd dv] at q4
      simp at q4
    | none =>
      dsimp only
      have q := List.find?_range_eq_none.mp e
      have qq : ∀ d : Int, 2 ≤ d → d ∣ r → rt r ≤ d := fun d d2 dv => by
        obtain ⟨j, rfl⟩ := lo d d2 dv
        rcases Int.lt_or_le (Builtin.bitOr s 1 + (j : Nat) * 2) (rt r) with z | z
        · have q4 := q j (size2 z)
          rw [Int.emod_eq_zero_of_dvd dv] at q4
          simp at q4
        · exact z
      have rt2 : r < rt r * rt r := by
        have k := (PySem.Float64.isqrt_spec r.toNat).2
        unfold rt
        have : ((r.toNat : Nat) : Int) < (((Float64.isqrt r.toNat + 1) * (Float64.isqrt r.toNat + 1) : Nat) : Int) := Int.ofNat_lt.mpr k
        push_cast at this
        omega
      have rt1 : 1 ≤ rt r := by unfold rt; omega
      rcases Int.lt_or_le 1 (rt r) with z | z
      · exact Fr2.prime (s := rt r) (fun d d2 dl dv => absurd (qq d d2 dv) (by omega)) (by omega) (by omega) rt2
      · have : rt r = 1 := by omega
        rw [this] at rt2
        omega
end Lk

set_option Elab.async false
set_option linter.all false
set_option maxRecDepth 100000
set_option maxHeartbeats 4000000
namespace Lk
open PySem L2 Vx
/-! prime powers as a list of pairs; their factors -/
def xs (prs : List (Int × Nat)) : List Int := prs.flatMap fun z => List.replicate z.2 z.1
def pprod (prs : List (Int × Nat)) : Int := prs.foldr (fun z n => z.1 ^ z.2 * n) 1
structure Pq (prs : List (Int × Nat)) : Prop where
  up : prs.Pairwise (fun a b => a.1 < b.1)
  pr : ∀ z ∈ prs, Mf z.1 z.1 ∧ 1 ≤ z.2
theorem fz_rep {g : Int} {l : List Int} (g2 : 2 ≤ g) : ∀ (e : Nat) (r : Int), 1 ≤ r → g ^ e ∣ r → Fr2 r g → Fz (r / g ^ e) l → Fz r (List.replicate e g ++ l)
  | 0, r, r1, _, _, h => by simpa using h
  | e + 1, r, r1, d, f, h => by
    have gd : g ∣ r := Int.dvd_trans ⟨g ^ e, by rw [Int.pow_succ, Int.mul_comm]⟩ d
    obtain ⟨c, rfl⟩ := gd
    have c1 : 1 ≤ c := by
      rcases Int.lt_or_le 0 c with z | z
      · omega
      · have : g * c ≤ 0 := Int.mul_nonpos_of_nonneg_of_nonpos (by omega) z
        omega
    have ec : g * c / g = c := Int.mul_ediv_cancel_left c (by omega)
    have f' : Fr2 c g := by have := Fr2.div f (p := g) ⟨c, rfl⟩; rw [ec] at this; exact this
    have d' : g ^ e ∣ c := by
      rw [Int.pow_succ, Int.mul_comm (g ^ e) g] at d
      exact Int.dvd_of_mul_dvd_mul_left (by omega) d
    have h' : Fz (c / g ^ e) l := by
      rw [Int.pow_succ, Int.mul_comm (g ^ e) g, Int.mul_ediv_mul_of_pos _ _ (by omega)] at h
      exact h
    have lt : 1 < g * c := by
      have : g * 1 ≤ g * c := Int.mul_le_mul_of_nonneg_left c1 (by omega)
      omega
    refine Fz.step (Mf.of_fr f g2 ⟨c, rfl⟩) lt ?_
    rw [ec]
    exact fz_rep g2 e c c1 d' f' h'
theorem putK_new {acc : List (L2.Key × V)} {k : L2.Key} {v : V} (h : ∀ z ∈ acc, z.1 ≠ k) : putK acc k v = acc ++ [(k, v)] := by
  unfold putK
  rw [if_neg]
  intro z
  obtain ⟨a, ha, e⟩ := List.any_eq_true.mp z
  exact h a ha (of_decide_eq_true (by simpa using e))
theorem pps_fz : ∀ (k : Nat) (acc : List (L2.Key × V)) (r f : Int), 1 ≤ r → r.natAbs < 2 ^ k → k ≤ 40 → 2 ≤ f → Fr2 r f → (∀ z ∈ acc, ∃ c : Int, z.1 = Sum.inl c ∧ Fr2 r (c + 1)) →
    ∃ prs, pps k acc r f = acc ++ prs.map kvOf ∧ Fz r (xs prs) ∧ Pq prs ∧ pprod prs = r ∧ ∀ z ∈ prs, f ≤ z.1 ∧ z.1 ∣ r
  | 0, _, r, _, r1, rk, _, _, _, _ => absurd rk (by omega)
  | k + 1, acc, r, f, r1, rk, k40, f2, fr, ha => by
    by_cases c : 1 < r
    · have mf := lf_mf (r := r) (s := f) (by omega) f2 fr
      have kk : 2 ^ (k + 1) ≤ 2 ^ 40 := Nat.pow_le_pow_right (by decide) k40
      have rb : r.natAbs < 2 ^ 40 := Nat.lt_of_lt_of_le rk kk
      obtain ⟨g2, gd, gm⟩ := mf
      have fg : f ≤ lf r f := by
        rcases Int.lt_or_le (lf r f) f with z | z
        · exact absurd gd (fr _ g2 z)
        · exact z
      unfold pps
      rw [if_pos c]
      generalize lf r f = g at *
      have sp := mlt_spec g2 40 r (by omega) rb
      have eex : mlt g 40 r = ex g r := rfl
      rw [eex] at sp
      generalize ex g r = e at *
      obtain ⟨s1, s2⟩ := sp
      have e1 : 1 ≤ e := by
        rcases Nat.eq_zero_or_pos e with z | z
        · subst z
          exact absurd (by rw [Int.pow_one]; exact gd) s2
        · exact z
      obtain ⟨x, hx⟩ := s1
      have gpos : 0 < g ^ e := Int.pow_pos (by omega)
      have xe : r / g ^ e = x := by rw [hx]; exact Int.mul_ediv_cancel_left x (by omega)
      have x1 : 1 ≤ x := by
        rcases Int.lt_or_le 0 x with z | z
        · omega
        · have : g ^ e * x ≤ 0 := Int.mul_nonpos_of_nonneg_of_nonpos (by omega) z
          omega
      have gx : ¬ g ∣ x := fun z => s2 (by
        rw [hx, Int.pow_succ]
        exact Int.mul_dvd_mul_left _ z)
      have dx : x ∣ r := ⟨g ^ e, by rw [hx, Int.mul_comm]⟩
      have sub : ∀ s, Fr2 r s → Fr2 x s := fun s h d d2 ds dv => h d d2 ds (Int.dvd_trans dv dx)
      have gge : 2 ≤ g ^ e := by
        obtain ⟨m, rfl⟩ : ∃ m, e = m + 1 := ⟨e - 1, by omega⟩
        rw [Int.pow_succ]
        have a1 : 1 ≤ g ^ m := by have := Int.pow_pos (m := m) (show 0 < g by omega); omega
        have : 1 * g ≤ g ^ m * g := Int.mul_le_mul_of_nonneg_right a1 (by omega)
        omega
      have xr : 2 * x ≤ r := by
        rw [hx]
        exact Int.mul_le_mul_of_nonneg_right gge (by omega)
      rw [putK_new (fun z hz => by
        obtain ⟨c, ec, fc⟩ := ha z hz
        intro q
        rw [ec] at q
        have q := Sum.inl.inj q
        subst q
        exact fc c g2 (by omega) gd), xe]
      obtain ⟨prs, p1, p2, p3, p4, p5⟩ := pps_fz k (acc ++ [(Sum.inl g, .int (e : Int))]) x g x1 (by rw [Nat.pow_succ] at rk; omega) (by omega) g2 (sub g gm) (fun z hz => by
        rcases List.mem_append.mp hz with h | h
        · obtain ⟨c, ec, fc⟩ := ha z h
          exact ⟨c, ec, sub _ fc⟩
        · rw [List.mem_singleton.mp h]
          exact ⟨g, rfl, Fr2.next (sub g gm) gx⟩)
      refine ⟨(g, e) :: prs, ?_, ?_, ⟨List.pairwise_cons.mpr ⟨fun z hz => ?_, p3.up⟩, fun z hz => ?_⟩, ?_, fun z hz => ?_⟩
      · rw [p1, List.append_assoc]; rfl
      · show Fz r (List.replicate e g ++ xs prs)
        exact fz_rep g2 e r r1 ⟨x, hx⟩ gm (by rw [xe]; exact p2)
      · obtain ⟨q1, q2⟩ := p5 z hz
        show g < z.1
        by_cases q : z.1 = g
        · rw [q] at q2; exact absurd q2 gx
        · omega
      · rcases List.mem_cons.mp hz with h | h
        · rw [h]
          exact ⟨⟨g2, Int.dvd_refl g, fun d d2 dl dv => gm d d2 dl (Int.dvd_trans dv gd)⟩, e1⟩
        · exact p3.pr z h
      · show g ^ e * pprod prs = r
        rw [p4, ← hx]
      · rcases List.mem_cons.mp hz with h | h
        · rw [h]; exact ⟨fg, gd⟩
        · obtain ⟨q1, q2⟩ := p5 z h
          exact ⟨by omega, Int.dvd_trans q2 dx⟩
    · have : r = 1 := by omega
      subst this
      refine ⟨[], ?_, Fz.one, ⟨List.Pairwise.nil, fun z hz => nomatch hz⟩, rfl, fun z hz => nomatch hz⟩
      rw [pps_end (by decide)]; simp
theorem ppd_is {n : Int} (n1 : 1 ≤ n) (n9 : n ≤ 1000000000) : ∃ prs, ppd n = prs.map kvOf ∧ Fz n (xs prs) ∧ Pq prs ∧ pprod prs = n := by
  obtain ⟨prs, p1, p2, p3, p4, _⟩ := pps_fz 40 [] n 2 n1 (Nat.lt_of_le_of_lt (show n.natAbs ≤ 1000000000 by omega) (by decide)) (by decide) (by decide) (fun d d2 dl => absurd dl (by omega)) (fun z hz => nomatch hz)
  exact ⟨prs, p1, p2, p3, p4⟩
end Lk

set_option Elab.async false
set_option linter.all false
set_option maxRecDepth 100000
set_option maxHeartbeats 4000000
namespace Lk
open PySem L2 Vx
/-! divisors: none twice, how many, which -/
theorem euclid {q a b : Int} (h : Mf q q) (d : q ∣ a * b) : q ∣ a ∨ q ∣ b := by
  obtain ⟨q2, _, qm⟩ := h
  have gd : ((Nat.gcd q.natAbs a.natAbs : Nat) : Int) ∣ q := by
    exact Int.natAbs_dvd_natAbs.mp (by rw [Int.natAbs_natCast]; exact Nat.gcd_dvd_left q.natAbs a.natAbs)
  have ga : ((Nat.gcd q.natAbs a.natAbs : Nat) : Int) ∣ a := Int.natAbs_dvd_natAbs.mp (by rw [Int.natAbs_natCast]; exact Nat.gcd_dvd_right q.natAbs a.natAbs)
  have g0 : 0 < Nat.gcd q.natAbs a.natAbs := Nat.gcd_pos_of_pos_left _ (by omega)
  by_cases g1 : Nat.gcd q.natAbs a.natAbs = 1
  · refine .inr (Int.natAbs_dvd_natAbs.mp ?_)
    have d' : q.natAbs ∣ a.natAbs * b.natAbs := by rw [← Int.natAbs_mul]; exact Int.natAbs_dvd_natAbs.mpr d
    exact Nat.Coprime.dvd_of_dvd_mul_left g1 d'
  · refine .inl ?_
    have le := Int.le_of_dvd (by omega) gd
    have : ((Nat.gcd q.natAbs a.natAbs : Nat) : Int) = q := by
      rcases Int.lt_or_le ((Nat.gcd q.natAbs a.natAbs : Nat) : Int) q with z | z
      · exact absurd gd (qm _ (by omega) z)
      · omega
    rw [this] at ga
    exact ga
theorem euclid_pow {q p : Int} (h : Mf q q) : ∀ {j : Nat}, q ∣ p ^ j → q ∣ p
  | 0, d => by
    rw [Int.pow_zero] at d
    have := Int.le_of_dvd (by decide) d
    have := h.1
    omega
  | j + 1, d => by
    rw [Int.pow_succ] at d
    rcases euclid h d with z | z
    · exact euclid_pow h z
    · exact z
theorem mem_fstep {acc : List Int} {z : Int × Nat} {m : Int} : m ∈ fstep acc z ↔ ∃ d ∈ acc, ∃ j : Nat, j ≤ z.2 ∧ m = d * z.1 ^ j := by
  unfold fstep
  rw [List.mem_flatMap]
  constructor
  · rintro ⟨d, hd, hm⟩
    obtain ⟨j, hj, rfl⟩ := List.mem_map.mp hm
    exact ⟨d, hd, j, by have := List.mem_range.mp hj; omega, rfl⟩
  · rintro ⟨d, hd, j, hj, rfl⟩
    exact ⟨d, hd, List.mem_map.mpr ⟨j, List.mem_range.mpr (by omega), rfl⟩⟩
theorem pow_lt {p : Int} (p2 : 2 ≤ p) {i j : Nat} (h : i < j) : p ^ i < p ^ j := by
  obtain ⟨m, rfl⟩ := Nat.le.dest h
  rw [Int.pow_add, Int.pow_succ]
  have a : 1 ≤ p ^ i := by have := Int.pow_pos (m := i) (show 0 < p by omega); omega
  have b : 1 ≤ p ^ m := by have := Int.pow_pos (m := m) (show 0 < p by omega); omega
  have c : p ^ i * 2 ≤ p ^ i * p := Int.mul_le_mul_of_nonneg_left p2 (by omega)
  have e : p ^ i * p * 1 ≤ p ^ i * p * p ^ m := Int.mul_le_mul_of_nonneg_left b (by omega)
  omega
theorem apart {p d d' : Int} (p2 : 2 ≤ p) (n : ¬ p ∣ d) (n' : ¬ p ∣ d') {i j : Nat} (h : d * p ^ i = d' * p ^ j) : d = d' := by
  have key : ∀ {a b : Int} {i j : Nat}, ¬ p ∣ a → i ≤ j → a * p ^ i = b * p ^ j → a = b := by
    intro a b i j na le e
    obtain ⟨m, rfl⟩ := Nat.le.dest le
    have pi : p ^ i ≠ 0 := Int.pow_ne_zero (by omega)
    have e2 : a * p ^ i = b * p ^ m * p ^ i := by rw [e, Int.pow_add, Int.mul_comm (p ^ i), Int.mul_assoc]
    have e3 := Int.mul_eq_mul_right_iff pi |>.mp e2
    cases m with
    | zero => rw [e3]; simp
    | succ m =>
      refine absurd ?_ na
      rw [e3, Int.pow_succ, ← Int.mul_assoc]
      exact Int.dvd_mul_left _ p
  rcases Nat.le_total i j with le | le
  · exact key n le h
  · exact (key n' le h.symm).symm
theorem nodup_fstep {acc : List Int} {z : Int × Nat} (z2 : 2 ≤ z.1) (nd : acc.Nodup) (ge : ∀ d ∈ acc, 1 ≤ d) (no : ∀ d ∈ acc, ¬ z.1 ∣ d) : (fstep acc z).Nodup := by
  unfold fstep
  rw [List.nodup_iff_pairwise_ne, List.pairwise_flatMap]
  constructor
  · intro d hd
    rw [List.pairwise_map]
    refine List.Pairwise.imp (fun {i j} h => ?_) List.pairwise_lt_range
    have a := pow_lt z2 h
    have b : d * z.1 ^ i < d * z.1 ^ j := Int.mul_lt_mul_of_pos_left a (by have := ge d hd; omega)
    exact Int.ne_of_lt b
  · refine List.Pairwise.imp_of_mem (fun {d d'} hd hd' h => ?_) (List.nodup_iff_pairwise_ne.mp nd)
    intro x hx y hy
    obtain ⟨i, _, rfl⟩ := List.mem_map.mp hx
    obtain ⟨j, _, rfl⟩ := List.mem_map.mp hy
    intro e
    exact h (apart z2 (no d hd) (no d' hd') e)
theorem foldl_nodup : ∀ (prs : List (Int × Nat)) (acc : List Int), Pq prs → acc.Nodup → (∀ d ∈ acc, 1 ≤ d) → (∀ d ∈ acc, ∀ z ∈ prs, ¬ z.1 ∣ d) → (prs.foldl fstep acc).Nodup
  | [], acc, _, nd, _, _ => nd
  | z :: r, acc, pq, nd, ge, no => by
    obtain ⟨u1, u2⟩ := List.pairwise_cons.mp pq.up
    have mz := (pq.pr z List.mem_cons_self).1
    refine foldl_nodup r (fstep acc z) ⟨u2, fun y hy => pq.pr y (List.mem_cons_of_mem _ hy)⟩ (nodup_fstep mz.1 nd ge fun d hd => no d hd z List.mem_cons_self) (fun m hm => ?_) fun m hm y hy dv => ?_
    · obtain ⟨d, hd, j, _, rfl⟩ := mem_fstep.mp hm
      have a := ge d hd
      have b := Int.pow_pos (m := j) (show 0 < z.1 by have := mz.1; omega)
      have c : 1 * 1 ≤ d * z.1 ^ j := Int.mul_le_mul a (by omega) (by decide) (by omega)
      omega
    · obtain ⟨d, hd, j, _, rfl⟩ := mem_fstep.mp hm
      have my := (pq.pr y (List.mem_cons_of_mem _ hy)).1
      rcases euclid my dv with q | q
      · exact no d hd y (List.mem_cons_of_mem _ hy) q
      · have q := Int.le_of_dvd (by have := mz.1; omega) (euclid_pow my q)
        have := u1 y hy
        omega
theorem dvs_nodup {prs : List (Int × Nat)} (pq : Pq prs) : (dvs prs).Nodup := by
  refine foldl_nodup prs [1] pq (by simp) (fun d hd => by rw [List.mem_singleton.mp hd]; decide) fun d hd z hz dv => ?_
  rw [List.mem_singleton.mp hd] at dv
  have := Int.le_of_dvd (by decide) dv
  have := (pq.pr z hz).1.1
  omega
/-! how many -/
def lenP (prs : List (Int × Nat)) : Nat := prs.foldr (fun z n => (z.2 + 1) * n) 1
theorem foldl_len : ∀ (prs : List (Int × Nat)) (acc : List Int), (prs.foldl fstep acc).length = acc.length * lenP prs
  | [], acc => by simp [lenP]
  | z :: r, acc => by
    rw [List.foldl_cons, foldl_len r]
    unfold fstep
    rw [fl_len]
    show acc.length * (z.2 + 1) * lenP r = acc.length * ((z.2 + 1) * lenP r)
    rw [Nat.mul_assoc]
theorem dvs_len (prs : List (Int × Nat)) : (dvs prs).length = lenP prs := by unfold dvs; rw [foldl_len]; simp
theorem lenP_pos : ∀ prs : List (Int × Nat), 1 ≤ lenP prs
  | [] => Nat.le_refl 1
  | z :: r => Nat.le_trans (lenP_pos r) (Nat.le_mul_of_pos_left _ (by omega))
theorem lenP_take : ∀ (prs : List (Int × Nat)) (i : Nat), lenP (prs.take i) ≤ lenP prs
  | [], i => by simp
  | z :: r, 0 => lenP_pos (z :: r)
  | z :: r, i + 1 => Nat.mul_le_mul_left _ (lenP_take r i)
theorem sq_a : ∀ {p : Int} (e : Nat), 4 ≤ p → (((e + 1) * (e + 1) : Nat) : Int) ≤ p ^ e
  | p, 0, h => by rw [Int.pow_zero]; decide
  | p, 1, h => by rw [Int.pow_one]; omega
  | p, e + 2, h => by
    have ih := sq_a (e + 1) h
    rw [Int.pow_succ]
    have : p ^ (e + 1) * 4 ≤ p ^ (e + 1) * p := Int.mul_le_mul_of_nonneg_left h (by have := Int.pow_pos (m := e + 1) (show 0 < p by omega); omega)
    have q : ((e + 2 + 1) * (e + 2 + 1) : Nat) ≤ (e + 1 + 1) * (e + 1 + 1) * 4 := by
      have a : (e + 1 + 1) * (e + 1 + 1) * 4 = (2 * (e + 1 + 1)) * (2 * (e + 1 + 1)) := by rw [Nat.mul_comm, ← Nat.mul_assoc, show 4 = 2 * 2 from rfl]; simp only [Nat.mul_assoc, Nat.mul_left_comm]
      rw [a]
      exact Nat.mul_le_mul (by omega) (by omega)
    omega
theorem sq_b : ∀ e : Nat, 3 * (((e + 1) * (e + 1) : Nat) : Int) ≤ 4 * 3 ^ e
  | 0 => by decide
  | 1 => by decide
  | e + 2 => by
    have ih := sq_b (e + 1)
    rw [Int.pow_succ]
    have q : ((e + 2 + 1) * (e + 2 + 1) : Nat) ≤ (e + 1 + 1) * (e + 1 + 1) * 3 := by
      have a1 : (e + 3) * (e + 3) = e * e + 6 * e + 9 := by simp only [Nat.add_mul, Nat.mul_add]; omega
      have a2 : (e + 2) * (e + 2) * 3 = 3 * (e * e) + 12 * e + 12 := by simp only [Nat.add_mul, Nat.mul_add]; omega
      show (e + 3) * (e + 3) ≤ (e + 2) * (e + 2) * 3
      rw [a1, a2]
      omega
    omega
theorem sq_c : ∀ e : Nat, 4 * (((e + 1) * (e + 1) : Nat) : Int) ≤ 9 * 2 ^ e
  | 0 => by decide
  | 1 => by decide
  | 2 => by decide
  | e + 3 => by
    have ih := sq_c (e + 2)
    rw [Int.pow_succ]
    have q : ((e + 3 + 1) * (e + 3 + 1) : Nat) ≤ (e + 2 + 1) * (e + 2 + 1) * 2 := by
      have a1 : (e + 4) * (e + 4) = e * e + 8 * e + 16 := by simp only [Nat.add_mul, Nat.mul_add]; omega
      have a2 : (e + 3) * (e + 3) * 2 = 2 * (e * e) + 12 * e + 18 := by simp only [Nat.add_mul, Nat.mul_add]; omega
      show (e + 4) * (e + 4) ≤ (e + 3) * (e + 3) * 2
      rw [a1, a2]
      omega
    omega
theorem pprod_pos {prs : List (Int × Nat)} (h : ∀ z ∈ prs, 2 ≤ z.1) : 1 ≤ pprod prs := by
  induction prs with
  | nil => decide
  | cons z r ih =>
    have a := ih fun y hy => h y (List.mem_cons_of_mem _ hy)
    have b := Int.pow_pos (m := z.2) (show 0 < z.1 by have := h z List.mem_cons_self; omega)
    have : 1 * 1 ≤ z.1 ^ z.2 * pprod r := Int.mul_le_mul (by omega) a (by decide) (by omega)
    show 1 ≤ z.1 ^ z.2 * pprod r
    omega
theorem sq_mul (a b : Nat) : (((a * b) * (a * b) : Nat) : Int) = (((a * a : Nat)) : Int) * ((b * b : Nat) : Int) := by
  rw [← Int.natCast_mul]
  exact congrArg _ (by simp only [Nat.mul_assoc, Nat.mul_left_comm])
theorem lenA {prs : List (Int × Nat)} (h : ∀ z ∈ prs, 4 ≤ z.1) : ((lenP prs * lenP prs : Nat) : Int) ≤ pprod prs := by
  induction prs with
  | nil => decide
  | cons z r ih =>
    have a := ih fun y hy => h y (List.mem_cons_of_mem _ hy)
    have b := sq_a z.2 (h z List.mem_cons_self)
    show ((((z.2 + 1) * lenP r) * ((z.2 + 1) * lenP r) : Nat) : Int) ≤ z.1 ^ z.2 * pprod r
    rw [sq_mul]
    exact Int.mul_le_mul b a (by omega) (Int.le_trans (by omega) b)
theorem lenB {prs : List (Int × Nat)} (up : prs.Pairwise (fun a b => a.1 < b.1)) (h : ∀ z ∈ prs, 3 ≤ z.1) : 3 * ((lenP prs * lenP prs : Nat) : Int) ≤ 4 * pprod prs := by
  cases prs with
  | nil => decide
  | cons z r =>
    obtain ⟨u1, u2⟩ := List.pairwise_cons.mp up
    have hz := h z List.mem_cons_self
    have a := lenA (prs := r) fun y hy => by have := u1 y hy; omega
    by_cases c : z.1 = 3
    · have b := sq_b z.2
      show 3 * ((((z.2 + 1) * lenP r) * ((z.2 + 1) * lenP r) : Nat) : Int) ≤ 4 * (z.1 ^ z.2 * pprod r)
      rw [sq_mul, c, ← Int.mul_assoc, ← Int.mul_assoc]
      exact Int.mul_le_mul b a (by omega) (by have := Int.pow_pos (m := z.2) (show (0 : Int) < 3 by decide); omega)
    · have q := lenA (prs := z :: r) fun y hy => by
        rcases List.mem_cons.mp hy with e | e
        · rw [e]; omega
        · have := u1 y e; omega
      have := pprod_pos (prs := z :: r) fun y hy => by have := h y hy; omega
      omega
theorem lenC {prs : List (Int × Nat)} (pq : Pq prs) : ((lenP prs * lenP prs : Nat) : Int) ≤ 3 * pprod prs := by
  have up := pq.up
  have h : ∀ z ∈ prs, 2 ≤ z.1 := fun z hz => (pq.pr z hz).1.1
  clear pq
  cases prs with
  | nil => decide
  | cons z r =>
    obtain ⟨u1, u2⟩ := List.pairwise_cons.mp up
    have hz := h z List.mem_cons_self
    have a := lenB (prs := r) u2 fun y hy => by have := u1 y hy; omega
    by_cases c : z.1 = 2
    · have b := sq_c z.2
      show ((((z.2 + 1) * lenP r) * ((z.2 + 1) * lenP r) : Nat) : Int) ≤ 3 * (z.1 ^ z.2 * pprod r)
      rw [sq_mul, c]
      have q : (4 * (((z.2 + 1) * (z.2 + 1) : Nat) : Int)) * (3 * ((lenP r * lenP r : Nat) : Int)) ≤ (9 * 2 ^ z.2) * (4 * pprod r) := Int.mul_le_mul b a (by omega) (by have := Int.pow_pos (m := z.2) (show (0 : Int) < 2 by decide); omega)
      have e1 : ∀ x y : Int, (4 * x) * (3 * y) = 12 * (x * y) := fun x y => by rw [Int.mul_assoc, Int.mul_left_comm x 3 y, ← Int.mul_assoc 4 3]; rfl
      have e2 : ∀ x y : Int, (9 * x) * (4 * y) = 36 * (x * y) := fun x y => by rw [Int.mul_assoc, Int.mul_left_comm x 4 y, ← Int.mul_assoc 9 4]; rfl
      rw [e1, e2] at q
      generalize (((z.2 + 1) * (z.2 + 1) : Nat) : Int) * ((lenP r * lenP r : Nat) : Int) = A at *
      generalize 2 ^ z.2 * pprod r = B at *
      omega
    · have q := lenB (prs := z :: r) up fun y hy => by
        rcases List.mem_cons.mp hy with e | e
        · rw [e]; omega
        · have := u1 y e; omega
      have := pprod_pos (prs := z :: r) h
      omega
theorem lenP_lt {prs : List (Int × Nat)} (pq : Pq prs) {n : Nat} (h : 3 * pprod prs < ((n * n : Nat) : Int)) : lenP prs < n := by
  have a := lenC pq
  rcases Nat.lt_or_ge (lenP prs) n with z | z
  · exact z
  · have : n * n ≤ lenP prs * lenP prs := Nat.mul_le_mul z z
    omega
theorem two_pow_le {p : Int} (h : 2 ≤ p) : ∀ k : Nat, (2 : Int) ^ k ≤ p ^ k
  | 0 => by simp
  | k + 1 => by
    rw [Int.pow_succ, Int.pow_succ]
    exact Int.mul_le_mul (two_pow_le h k) h (by decide) (by have := Int.pow_pos (m := k) (show 0 < p by omega); omega)
theorem part_le {prs : List (Int × Nat)} (h : ∀ z ∈ prs, 2 ≤ z.1) {z : Int × Nat} (hz : z ∈ prs) : z.1 ^ z.2 ≤ pprod prs := by
  induction prs with
  | nil => cases hz
  | cons y r ih =>
    have p := pprod_pos (prs := r) fun x hx => h x (List.mem_cons_of_mem _ hx)
    have b := Int.pow_pos (m := y.2) (show 0 < y.1 by have := h y List.mem_cons_self; omega)
    show _ ≤ y.1 ^ y.2 * pprod r
    rcases List.mem_cons.mp hz with e | e
    · rw [e]
      have : y.1 ^ y.2 * 1 ≤ y.1 ^ y.2 * pprod r := Int.mul_le_mul_of_nonneg_left p (by omega)
      omega
    · have q := ih (fun x hx => h x (List.mem_cons_of_mem _ hx)) e
      have : 1 * pprod r ≤ y.1 ^ y.2 * pprod r := Int.mul_le_mul_of_nonneg_right (by omega) (by omega)
      omega
theorem prOk_of {prs : List (Int × Nat)} (pq : Pq prs) (h : pprod prs ≤ 1000000000) : PrOk prs := by
  have two : ∀ z ∈ prs, 2 ≤ z.1 := fun z hz => (pq.pr z hz).1.1
  refine ⟨fun z hz => ?_, fun i => ?_⟩
  · have a := part_le two hz
    have b := two z hz
    obtain ⟨e1⟩ := id (pq.pr z hz)
    have e := (pq.pr z hz).2
    have le1 : z.1 ≤ z.1 ^ z.2 := by
      have := (pow_le_of (g := z.1) (j := 1) (e := z.2) (by omega) e).2
      rwa [Int.pow_one] at this
    refine ⟨by omega, by omega, ?_, by omega⟩
    rcases Nat.lt_or_ge z.2 30 with q | q
    · omega
    · have a1 := (pow_le_of (g := z.1) (j := 30) (e := z.2) (by omega) q).2
      have a2 : (2 : Int) ^ 30 ≤ z.1 ^ 30 := two_pow_le b 30
      have a3 : (2 : Int) ^ 30 = 1073741824 := by decide
      omega
  · rw [dvs_len]
    have := lenP_take prs i
    have := lenP_lt pq (n := 1000000) (by omega)
    omega
end Lk

set_option Elab.async false
set_option linter.all false
set_option maxRecDepth 100000
set_option maxHeartbeats 4000000
namespace Lk
open PySem L2 Vx
/-! the law's own lists: all products, how often each prime -/
def stepD (D : List Int) (p : Int) : List Int := D ++ D.map (· * p)
def dset (l : List Int) : List Int := l.foldl stepD [1]
theorem mem_stepD {D : List Int} {p m : Int} : m ∈ stepD D p ↔ m ∈ D ∨ ∃ d ∈ D, m = d * p := by
  unfold stepD
  rw [List.mem_append, List.mem_map]
  constructor
  · rintro (h | ⟨d, hd, rfl⟩)
    · exact .inl h
    · exact .inr ⟨d, hd, rfl⟩
  · rintro (h | ⟨d, hd, rfl⟩)
    · exact .inl h
    · exact .inr ⟨d, hd, rfl⟩
theorem mem_rep {p m : Int} : ∀ (e : Nat) (D : List Int), m ∈ (List.replicate e p).foldl stepD D ↔ ∃ d ∈ D, ∃ j : Nat, j ≤ e ∧ m = d * p ^ j
  | 0, D => by
    constructor
    · intro h
      exact ⟨m, h, 0, Nat.le_refl 0, by simp⟩
    · rintro ⟨d, hd, j, hj, rfl⟩
      have : j = 0 := by omega
      subst this
      simpa using hd
  | e + 1, D => by
    rw [List.replicate_succ, List.foldl_cons, mem_rep e]
    constructor
    · rintro ⟨d, hd, j, hj, rfl⟩
      rcases mem_stepD.mp hd with h | ⟨c, hc, rfl⟩
      · exact ⟨d, h, j, by omega, rfl⟩
      · exact ⟨c, hc, j + 1, by omega, by rw [Int.pow_succ, Int.mul_assoc, Int.mul_comm p]⟩
    · rintro ⟨d, hd, j, hj, rfl⟩
      by_cases q : j = e + 1
      · subst q
        exact ⟨d * p, mem_stepD.mpr (.inr ⟨d, hd, rfl⟩), e, Nat.le_refl e, by rw [Int.pow_succ, Int.mul_assoc, Int.mul_comm p]⟩
      · exact ⟨d, mem_stepD.mpr (.inl hd), j, by omega, rfl⟩
theorem mem_foldl {m : Int} : ∀ (prs : List (Int × Nat)) (D A : List Int), (∀ d, d ∈ D ↔ d ∈ A) → (m ∈ (xs prs).foldl stepD D ↔ m ∈ prs.foldl fstep A)
  | [], D, A, h => h m
  | z :: r, D, A, h => by
    show m ∈ (List.replicate z.2 z.1 ++ xs r).foldl stepD D ↔ m ∈ r.foldl fstep (fstep A z)
    rw [List.foldl_append]
    refine mem_foldl r _ _ fun d => ?_
    rw [mem_rep, mem_fstep]
    constructor
    · rintro ⟨c, hc, q⟩
      exact ⟨c, (h c).mp hc, q⟩
    · rintro ⟨c, hc, q⟩
      exact ⟨c, (h c).mpr hc, q⟩
theorem mem_dset {prs : List (Int × Nat)} {m : Int} : m ∈ dset (xs prs) ↔ m ∈ dvs prs := mem_foldl prs [1] [1] fun _ => Iff.rfl
theorem mem_grow {m : Int} : ∀ (l D : List Int), m ∈ D → m ∈ l.foldl stepD D
  | [], D, h => h
  | p :: l, D, h => mem_grow l (stepD D p) (mem_stepD.mpr (.inl h))
theorem dset_take {l : List Int} {i : Nat} {m : Int} (h : m ∈ dset (l.take i)) : m ∈ dset l := by
  have e : dset l = (l.drop i).foldl stepD (dset (l.take i)) := by
    unfold dset
    rw [← List.foldl_append, List.take_append_drop]
  rw [e]
  exact mem_grow _ _ h
theorem dset_succ {l : List Int} {i : Nat} {p : Int} (h : l[i]? = some p) : dset (l.take (i + 1)) = stepD (dset (l.take i)) p := by
  unfold dset
  rw [List.take_add_one, h, List.foldl_append]
  rfl
theorem nodup_len : ∀ (l m : List Int), l.Nodup → (∀ x ∈ l, x ∈ m) → l.length ≤ m.length
  | [], m, _, _ => Nat.zero_le _
  | x :: l, m, nd, h => by
    obtain ⟨n1, n2⟩ := List.nodup_cons.mp nd
    have hx := h x List.mem_cons_self
    have := nodup_len l (m.erase x) n2 fun y hy => (List.mem_erase_of_ne (fun e => n1 (by rw [← e]; exact hy))).mpr (h y (List.mem_cons_of_mem _ hy))
    rw [List.length_erase_of_mem hx] at this
    have := List.length_pos_of_mem hx
    simp only [List.length_cons]
    omega
theorem sorted_nodup {l : List Int} (h : l.Pairwise (· < ·)) : l.Nodup := List.nodup_iff_pairwise_ne.mpr (h.imp fun {a b} q => Int.ne_of_lt q)
theorem sorted_ext : ∀ (l m : List Int), l.Pairwise (· < ·) → m.Pairwise (· < ·) → (∀ x, x ∈ l ↔ x ∈ m) → l = m
  | [], [], _, _, _ => rfl
  | [], y :: m, _, _, h => absurd ((h y).mpr List.mem_cons_self) (by simp)
  | x :: l, [], _, _, h => absurd ((h x).mp List.mem_cons_self) (by simp)
  | x :: l, y :: m, a, b, h => by
    obtain ⟨a1, a2⟩ := List.pairwise_cons.mp a
    obtain ⟨b1, b2⟩ := List.pairwise_cons.mp b
    have e : x = y := by
      rcases List.mem_cons.mp ((h x).mp List.mem_cons_self) with z | z
      · exact z
      · rcases List.mem_cons.mp ((h y).mpr List.mem_cons_self) with w | w
        · exact w.symm
        · have := b1 x z
          have := a1 y w
          omega
    subst e
    rw [sorted_ext l m a2 b2 fun z => ?_]
    constructor
    · intro hz
      rcases List.mem_cons.mp ((h z).mp (List.mem_cons_of_mem _ hz)) with q | q
      · have := a1 z hz; omega
      · exact q
    · intro hz
      rcases List.mem_cons.mp ((h z).mpr (List.mem_cons_of_mem _ hz)) with q | q
      · have := b1 z hz; omega
      · exact q
theorem le_lt {l : List Int} (h : l.Pairwise (· ≤ ·)) (nd : l.Nodup) : l.Pairwise (· < ·) :=
  List.Pairwise.imp (fun {a b} (q : a ≤ b ∧ a ≠ b) => by omega) (List.Pairwise.and h (List.nodup_iff_pairwise_ne.mp nd))
/-- what divisors tells is the law's last list -/
theorem divs_are {prs : List (Int × Nat)} {ns du : List Int} (pq : Pq prs) (pe : ns.Perm (dvs prs)) (so : ns.Pairwise (· ≤ ·)) (ds : du.Pairwise (· < ·)) (dm : ∀ k, k ∈ du ↔ k ∈ dset (xs prs)) : ns = du :=
  sorted_ext ns du (le_lt so ((List.Perm.nodup_iff pe).mpr (dvs_nodup pq))) ds fun k => by rw [pe.mem_iff, dm, mem_dset]
/-! told -/
def tput (t : List (Int × Nat)) (p : Int) : List (Int × Nat) := if t.any (fun z => decide (z.1 = p)) then t.map fun z => if z.1 = p then (z.1, z.2 + 1) else z else t ++ [(p, 1)]
def tcnt (t : List (Int × Nat)) (p : Int) : Nat := match t.find? (fun z => decide (z.1 = p)) with | some z => z.2 | none => 0
theorem tput_len (t : List (Int × Nat)) (p : Int) : (tput t p).length ≤ t.length + 1 := by
  unfold tput
  split
  · rw [List.length_map]; omega
  · simp
theorem tput_new {t : List (Int × Nat)} {p : Int} (h : ∀ z ∈ t, z.1 ≠ p) : tput t p = t ++ [(p, 1)] := by
  unfold tput
  rw [if_neg]
  intro z
  obtain ⟨a, ha, e⟩ := List.any_eq_true.mp z
  exact h a ha (of_decide_eq_true e)
theorem tput_last {t : List (Int × Nat)} {p : Int} {j : Nat} (h : ∀ z ∈ t, z.1 ≠ p) : tput (t ++ [(p, j)]) p = t ++ [(p, j + 1)] := by
  unfold tput
  rw [if_pos (by simp), List.map_append]
  congr 1
  · refine Eq.trans (List.map_congr_left (g := id) fun z hz => ?_) (List.map_id t)
    rw [if_neg (h z hz)]; rfl
  · simp
theorem tput_rep {t : List (Int × Nat)} {p : Int} (h : ∀ z ∈ t, z.1 ≠ p) : ∀ (e j : Nat), (List.replicate e p).foldl tput (t ++ [(p, j)]) = t ++ [(p, j + e)]
  | 0, j => rfl
  | e + 1, j => by
    rw [List.replicate_succ, List.foldl_cons, tput_last h, tput_rep h e (j + 1), show j + 1 + e = j + (e + 1) by omega]
theorem tput_all : ∀ (prs t : List (Int × Nat)), Pq prs → (∀ y ∈ t, ∀ z ∈ prs, y.1 ≠ z.1) → (xs prs).foldl tput t = t ++ prs
  | [], t, _, _ => by simp [xs]
  | z :: r, t, pq, h => by
    obtain ⟨u1, u2⟩ := List.pairwise_cons.mp pq.up
    obtain ⟨e, he⟩ : ∃ e, z.2 = e + 1 := ⟨z.2 - 1, by have := (pq.pr z List.mem_cons_self).2; omega⟩
    have hz : ∀ y ∈ t, y.1 ≠ z.1 := fun y hy => h y hy z List.mem_cons_self
    show (List.replicate z.2 z.1 ++ xs r).foldl tput t = t ++ z :: r
    rw [List.foldl_append, he, List.replicate_succ, List.foldl_cons, tput_new hz, tput_rep hz, show 1 + e = z.2 by omega]
    rw [tput_all r _ ⟨u2, fun y hy => pq.pr y (List.mem_cons_of_mem _ hy)⟩ fun y hy w hw => ?_]
    · simp
    · rcases List.mem_append.mp hy with q | q
      · exact h y q w (List.mem_cons_of_mem _ hw)
      · rw [List.mem_singleton.mp q]
        have := u1 w hw
        show z.1 ≠ w.1
        omega
theorem told_all {prs : List (Int × Nat)} (pq : Pq prs) : (xs prs).foldl tput [] = prs := by
  rw [tput_all prs [] pq fun y hy => nomatch hy]; rfl
theorem tcnt_of {p : Int} : ∀ {t : List (Int × Nat)}, t.Pairwise (fun a b => a.1 ≠ b.1) → ∀ z ∈ t, z.1 = p → tcnt t p = z.2
  | [], _, z, hz, _ => nomatch hz
  | y :: t, h, z, hz, e => by
    obtain ⟨h1, h2⟩ := List.pairwise_cons.mp h
    unfold tcnt
    rw [List.find?_cons]
    by_cases c : y.1 = p
    · rw [decide_eq_true c]
      rcases List.mem_cons.mp hz with q | q
      · rw [q]
      · exact absurd (by rw [c, e]) (h1 z q)
    · rw [decide_eq_false c]
      rcases List.mem_cons.mp hz with q | q
      · rw [q] at e; exact absurd e c
      · exact tcnt_of h2 z q e
theorem tput_nd {t : List (Int × Nat)} {p : Int} (h : t.Pairwise (fun a b => a.1 ≠ b.1)) : (tput t p).Pairwise (fun a b => a.1 ≠ b.1) := by
  unfold tput
  split
  · rw [List.pairwise_map]
    refine h.imp fun {a b} q => ?_
    have k : ∀ z : Int × Nat, (if z.1 = p then (z.1, z.2 + 1) else z).1 = z.1 := fun z => by split <;> rfl
    rw [k, k]
    exact q
  · rename_i c
    refine List.pairwise_append.mpr ⟨h, by simp, fun a ha b hb e => c ?_⟩
    rw [List.mem_singleton.mp hb] at e
    exact List.any_eq_true.mpr ⟨a, ha, decide_eq_true e⟩
theorem key_dec (z : Int × Nat) (p : Int) : decide ((kvOf z).1 = (Sum.inl p : L2.Key)) = decide (z.1 = p) := decide_eq_decide.mpr ⟨fun e => Sum.inl.inj e, fun e => by show (Sum.inl z.1 : L2.Key) = _; rw [e]⟩
theorem tget_kv (t : List (Int × Nat)) (p : Int) : (valV (t.map kvOf) (Sum.inl p : L2.Key)).getD (.int 0) = .int (tcnt t p : Int) := by
  unfold valV tcnt
  rw [List.find?_map]
  have e : ((fun kv : L2.Key × V => decide (kv.1 = (Sum.inl p : L2.Key))) ∘ kvOf) = fun z => decide (z.1 = p) := funext fun z => key_dec z p
  rw [e]
  cases t.find? fun z => decide (z.1 = p) <;> rfl
theorem tput_kv {t : List (Int × Nat)} (h : t.Pairwise (fun a b => a.1 ≠ b.1)) (p : Int) : putK (t.map kvOf) (Sum.inl p) (.int ((tcnt t p : Int) + 1)) = (tput t p).map kvOf := by
  have e1 : ((t.map kvOf).any fun kv => decide (kv.1 = (Sum.inl p : L2.Key))) = t.any fun z => decide (z.1 = p) := by
    rw [List.any_map]
    exact congrArg _ (funext fun z => key_dec z p)
  unfold putK tput
  rw [e1]
  split
  · rw [List.map_map, List.map_map]
    refine List.map_congr_left fun z hz => ?_
    show (if (kvOf z).1 = (Sum.inl p : L2.Key) then ((kvOf z).1, V.int ((tcnt t p : Int) + 1)) else kvOf z) = kvOf (if z.1 = p then (z.1, z.2 + 1) else z)
    by_cases c : z.1 = p
    · rw [if_pos (show (kvOf z).1 = (Sum.inl p : L2.Key) by show (Sum.inl z.1 : L2.Key) = _; rw [c]), if_pos c, tcnt_of h z hz c]
      unfold kvOf
      rw [Int.natCast_add]; rfl
    · rw [if_neg (show ¬ (kvOf z).1 = (Sum.inl p : L2.Key) from fun e => c (Sum.inl.inj e)), if_neg c]
  · rename_i c
    rw [List.map_append]
    have : tcnt t p = 0 := by
      unfold tcnt
      rw [List.find?_eq_none.mpr fun z hz q => c (List.any_eq_true.mpr ⟨z, hz, q⟩)]
    rw [this]; rfl
/-! lengths, signs -/
theorem xs_len : ∀ prs : List (Int × Nat), (∀ z ∈ prs, 1 ≤ z.2) → prs.length ≤ (xs prs).length ∧ ((xs prs).length = prs.length ↔ ∀ z ∈ prs, z.2 = 1)
  | [], _ => ⟨Nat.le_refl 0, by simp [xs]⟩
  | z :: r, h => by
    have h1 := h z List.mem_cons_self
    obtain ⟨a, b⟩ := xs_len r fun y hy => h y (List.mem_cons_of_mem _ hy)
    have e : (xs (z :: r)).length = z.2 + (xs r).length := by
      show (List.replicate z.2 z.1 ++ xs r).length = _
      rw [List.length_append, List.length_replicate]
    rw [e, List.length_cons]
    refine ⟨by omega, ?_⟩
    constructor
    · intro q y hy
      rcases List.mem_cons.mp hy with w | w
      · rw [w]; omega
      · exact b.mp (by omega) y w
    · intro q
      have := b.mpr fun y hy => q y (List.mem_cons_of_mem _ hy)
      have := q z List.mem_cons_self
      omega
theorem mob_is {prs : List (Int × Nat)} (pq : Pq prs) : mob prs = if prs.length < (xs prs).length then 0 else 1 - 2 * (((xs prs).length : Int) % 2) := by
  obtain ⟨a, b⟩ := xs_len prs fun z hz => (pq.pr z hz).2
  unfold mob
  by_cases c : (xs prs).length = prs.length
  · have q := b.mp c
    have e : prs.any (fun z => decide (1 < z.2)) = false := by
      rw [List.any_eq_false]
      intro z hz
      have := q z hz
      simp; omega
    rw [e, if_neg (by decide), if_neg (show ¬ prs.length < (xs prs).length by omega), c]
    split <;> omega
  · have e : prs.any (fun z => decide (1 < z.2)) = true := by
      rcases Bool.eq_false_or_eq_true (prs.any fun z => decide (1 < z.2)) with q | q
      · exact q
      · refine absurd (b.mpr fun z hz => ?_) c
        have := List.any_eq_false.mp q z hz
        have := (pq.pr z hz).2
        simp at *
        omega
    rw [e, if_pos rfl, if_pos (show prs.length < (xs prs).length by omega)]
theorem Fz.cons {r p : Int} {l : List Int} (h : Fz r (p :: l)) : Mf r p ∧ 1 < r ∧ Fz (r / p) l := by
  generalize e : p :: l = m at h
  cases h with
  | one => cases e
  | step a b c => cases e; exact ⟨a, b, c⟩
theorem Fz.nil' {r : Int} (h : Fz r []) : r = 1 := by
  generalize e : ([] : List Int) = m at h
  cases h with
  | one => rfl
  | step a b c => cases e
theorem prime_is {n : Int} {l : List Int} (n1 : 1 ≤ n) (n9 : n ≤ 1000000000) (h : Fz n l) : isP n = decide (l.length = 1) := by
  unfold isP
  rw [decide_eq_true n9, Bool.true_and]
  by_cases c : 2 ≤ n
  · rw [decide_eq_true c, Bool.true_and]
    refine decide_eq_decide.mpr ⟨fun e => ?_, fun e => ?_⟩
    · have m := lf_mf (r := n) (s := 2) c (by decide) (fun d d2 dl => absurd dl (by omega))
      rw [e] at m
      have : Fz n [n] := Fz.step m (by omega) (by rw [Int.ediv_self (by omega)]; exact Fz.one)
      rw [h.uniq this]; rfl
    · match l, h, e with
      | [p], h, _ =>
        obtain ⟨m, _, k⟩ := h.cons
        have q := k.nil'
        have pn : n / p * p = n := Int.ediv_mul_cancel m.2.1
        rw [q, Int.one_mul] at pn
        have m2 := lf_mf (r := n) (s := 2) c (by decide) (fun d d2 dl => absurd dl (by omega))
        rw [m2.uniq m, pn]
  · have : n = 1 := by omega
    subst this
    rw [h.uniq Fz.one]; decide
theorem sdv_is {prs : List (Int × Nat)} (pq : Pq prs) {p : Int} {l : List Int} (h : xs prs = p :: l) : sdv prs = if (xs prs).count p = (xs prs).length then p else 1 := by
  match prs, pq, h with
  | [], _, h => cases h
  | z :: r, pq, h =>
    obtain ⟨u1, u2⟩ := List.pairwise_cons.mp pq.up
    obtain ⟨e, he⟩ : ∃ e, z.2 = e + 1 := ⟨z.2 - 1, by have := (pq.pr z List.mem_cons_self).2; omega⟩
    have e1 : xs (z :: r) = List.replicate z.2 z.1 ++ xs r := rfl
    have pz : z.1 = p := by
      rw [e1, he, List.replicate_succ, List.cons_append] at h
      exact (List.cons.inj h).1
    have no : p ∉ xs r := fun hp => by
      obtain ⟨y, hy, q⟩ := List.mem_flatMap.mp hp
      have := (List.mem_replicate.mp q).2
      have := u1 y hy
      omega
    have c : (xs (z :: r)).count p = z.2 := by
      rw [e1, List.count_append, pz, List.count_replicate_self, List.count_eq_zero_of_not_mem no]; omega
    rw [c, e1, List.length_append, List.length_replicate]
    match r, u1, u2, pq, no with
    | [], _, _, _, _ =>
      rw [if_pos (by simp [xs])]
      exact pz
    | y :: r, u1, u2, pq, _ =>
      have := (xs_len (y :: r) fun w hw => (pq.pr w (List.mem_cons_of_mem _ hw)).2).1
      rw [List.length_cons] at this
      rw [if_neg (by omega)]
      rfl
end Lk

set_option Elab.async false
set_option linter.all false
set_option maxRecDepth 100000
set_option maxHeartbeats 4000000
set_option exponentiation.threshold 10000
namespace Lk
open PySem L2 Vx
/-! valuations of a ratio in lowest terms -/
theorem exact_mul {p t g : Int} {u w : Nat} (h : Mf p p) (a1 : p ^ u ∣ t) (a2 : ¬ p ^ (u + 1) ∣ t) (b1 : p ^ w ∣ g) (b2 : ¬ p ^ (w + 1) ∣ g) : p ^ (u + w) ∣ t * g ∧ ¬ p ^ (u + w + 1) ∣ t * g := by
  obtain ⟨x, rfl⟩ := a1
  obtain ⟨y, rfl⟩ := b1
  have p0 : p ≠ 0 := by have := h.1; omega
  have nx : ¬ p ∣ x := fun z => a2 (by rw [Int.pow_succ]; exact Int.mul_dvd_mul_left _ z)
  have ny : ¬ p ∣ y := fun z => b2 (by rw [Int.pow_succ]; exact Int.mul_dvd_mul_left _ z)
  have e : p ^ u * x * (p ^ w * y) = p ^ (u + w) * (x * y) := by rw [Int.pow_add]; simp only [Int.mul_assoc, Int.mul_left_comm]
  rw [e]
  refine ⟨⟨_, rfl⟩, fun z => ?_⟩
  rw [Int.pow_succ] at z
  have z := Int.dvd_of_mul_dvd_mul_left (Int.pow_ne_zero p0) z
  rcases euclid h z with q | q
  · exact nx q
  · exact ny q
theorem val_diff {p t b : Int} {u v a c : Nat} (h : Mf p p) (t0 : t ≠ 0) (b0 : b ≠ 0) (u1 : p ^ u ∣ lT t b) (u2 : ¬ p ^ (u + 1) ∣ lT t b) (v1 : p ^ v ∣ lB t b) (v2 : ¬ p ^ (v + 1) ∣ lB t b)
    (a1 : p ^ a ∣ t) (a2 : ¬ p ^ (a + 1) ∣ t) (c1 : p ^ c ∣ b) (c2 : ¬ p ^ (c + 1) ∣ b) : (u : Int) - v = a - c := by
  have s0 := sg_ne (t := t) b0
  obtain ⟨w1, w2⟩ := mlt_spec h.1 (sg t b).natAbs (sg t b) s0 Nat.lt_two_pow_self
  obtain ⟨x1, x2⟩ := exact_mul h u1 u2 w1 w2
  obtain ⟨y1, y2⟩ := exact_mul h v1 v2 w1 w2
  rw [lT_mul b0] at x1 x2
  rw [lB_mul b0] at y1 y2
  have e1 := pow_uniq x1 x2 a1 a2
  have e2 := pow_uniq y1 y2 c1 c2
  omega
theorem mf_isP {p : Int} (h : isP p = true) : Mf p p := by
  unfold isP at h
  obtain ⟨a, b⟩ := Bool.and_eq_true_iff.mp h
  obtain ⟨_, c⟩ := Bool.and_eq_true_iff.mp b
  have m := lf_mf (r := p) (s := 2) (of_decide_eq_true a) (by decide) (fun d d2 dl => absurd dl (by omega))
  rw [of_decide_eq_true c] at m
  exact m
theorem some_primes : ∀ p ∈ [(2 : Int), 3, 5, 7, 11, 997], isP p = true := by decide +kernel
/-! rows of binomials -/
def prow : Nat → List Int
  | 0 => [1]
  | k + 1 => List.zipWith (· + ·) (0 :: prow k) (prow k ++ [0])
theorem prow_len : ∀ k, (prow k).length = k + 1
  | 0 => rfl
  | k + 1 => by unfold prow; rw [List.length_zipWith, List.length_cons, List.length_append, prow_len k]; simp
def inner (l : List Int) : List Int := (l.drop 1).dropLast
def sdvK : List (L2.Key × V) → Int
  | [(Sum.inl p, _)] => p
  | _ => 1
theorem sdvK_is (prs : List (Int × Nat)) : sdvK (prs.map kvOf) = sdv prs := by
  match prs with
  | [] => rfl
  | [z] => rfl
  | a :: b :: r => rfl
theorem comb_row : ∀ t : Fin 40, (List.range (t.val + 4)).map (fun l => PySem.W.mcComb ((t.val + 2 : Nat) : Int) (l : Nat)) = prow (t.val + 2) ++ [0] := by decide +kernel
theorem step_row : ∀ t : Fin 40, sdvK (ppd ((t.val + 2 : Nat) : Int)) = gcdL (inner (prow (t.val + 2))) := by decide +kernel
theorem comb_far : ∀ t : Fin 40, PySem.W.mcComb 1000 (3 + ((t.val + 2 : Nat) : Int)) = PySem.W.mcComb 1000 (997 - ((t.val + 2 : Nat) : Int)) := by decide +kernel
theorem row_short : ∀ t : Fin 40, ∀ n ∈ prow (t.val + 2), 0 ≤ n ∧ n < 1000000000000000 := by decide +kernel
/-! names -/
def wSet : List Nat := [97, 98, 122, 65, 49, 32, 95]
def lowS : List Nat := [97, 98, 122]
end Lk

set_option Elab.async false
set_option linter.all false
set_option maxRecDepth 100000
set_option maxHeartbeats 4000000
set_option exponentiation.threshold 10000
namespace Lk
open PySem L2 Vx
/-! the law's divisors, factors and integers -/
/-- nothing but p changes -/
def Kq (p : Addr) (H H' : Hp) : Prop := ∀ b o, b ≠ p → H b = some o → H' b = some o
theorem Kq.refl {p : Addr} {H : Hp} : Kq p H H := fun _ _ _ e => e
theorem Kq.trans {p : Addr} {H H1 H2 : Hp} (a : Kq p H H1) (b : Kq p H1 H2) : Kq p H H2 := fun c o n e => b c o n (a c o n e)
theorem kq_same {p : Addr} {H H' : Hp} (s : Same H H') : Kq p H H' := fun b o _ e => s b o e
theorem kq_upd {p : Addr} {H : Hp} {o : HO} : Kq p H (upd H p o) := fun b u n e => by rw [upd_ne n]; exact e
theorem kq_new {p L : Addr} {H H1 H2 : Hp} (a : Kq p H H1) (n : H1 L = none) (b : Kq L H1 H2) : Kq p H H2 := fun c o nc e => b c o (ne_of_none (a c o nc e) n) (a c o nc e)
theorem none_of {H H' : Hp} {a : Addr} (s : Same H H') (n : H' a = none) : H a = none := by
  cases e : H a with
  | none => rfl
  | some o => rw [s a o e] at n; cases n
theorem len30 {k : Nat} {a n : Int} (h : a * 2 ^ k ≤ n) (a1 : 1 ≤ a) (n9 : n ≤ 1000000000) : k ≤ 29 := by
  rcases Nat.lt_or_ge k 30 with c | c
  · omega
  · have e := (pow_le_of (g := 2) (j := 30) (e := k) (by decide) c).2
    have : 1 * 2 ^ k ≤ a * 2 ^ k := Int.mul_le_mul_of_nonneg_right a1 (by have := (pow_le_of (g := 2) (j := k) (e := k) (by decide) (Nat.le_refl k)).1; omega)
    have z : (2 : Int) ^ 30 = 1073741824 := by decide
    omega
section
variable {P : Program} {w : World} {K : PySem.W.Frag} {mg : Str → Option Value} {base : Heap}
abbrev sGcd : Stmt := top 46
def spGcd : Sp := fun vs H Q _ => ∃ a b : Int, vs = [.int a, .int b] ∧ Q (.int ((Nat.gcd a.natAbs b.natAbs : Nat) : Int)) H
theorem scGcd : FnScope ["_law_one", "_law_other"] ["_law_one", "_law_other"] (defScope sGcd) := ⟨rfl, rfl, rfl, by decide +kernel, rfl, by decide +kernel, by decide +kernel⟩
theorem abs_if (a : Int) : (if a < 0 then -a else a) = (a.natAbs : Int) := by split <;> omega
theorem gcd_step {x y : Int} (hx : 0 ≤ x) (hy : 0 < y) : Nat.gcd y.natAbs (x.fmod y).natAbs = Nat.gcd x.natAbs y.natAbs := by
  rw [Int.fmod_eq_emod_of_nonneg _ (Int.le_of_lt hy)]
  obtain ⟨m, rfl⟩ : ∃ m : Nat, x = m := ⟨x.toNat, by omega⟩
  obtain ⟨n, rfl⟩ : ∃ n : Nat, y = n := ⟨y.toNat, by omega⟩
  show Nat.gcd n (m % n) = Nat.gcd m n
  rw [Nat.gcd_comm n, ← Nat.gcd_rec, Nat.gcd_comm]
theorem ok_gcd {f : Addr} {fd : FuncData} (F : Fun K "_law_gcd" "_law_gcd" sGcd f fd) (B : Bl mg) : FnOk P w K mg base CX0 1 f fd ["_law_one", "_law_other"] spGcd := by
  refine F.ok scGcd (fun vs H Q E h => ?_) (fun cdv A outer s H vs Q E hr h => ?_)
  · obtain ⟨a, b, rfl, _⟩ := h
    rfl
  · obtain ⟨a, b, rfl, k⟩ := h
    refine ⟨_, pss_cons (ps_par (i := 0) (j := 1) (by rfl) scGcd.nd rfl rfl (by decide) rfl rfl (pa_cons (pe_callB call_abs (by rfl) B.abs PyProof.Rows.boot_abs (pa_cons (pv 0) pa_nil)) (pa_cons (pe_callB call_abs (by rfl) B.abs PyProof.Rows.boot_abs (pa_cons (pv 1) pa_nil)) pa_nil)) (by rfl))
      (pss_cons (ps_while PassesOwn.never (pt_cmpR op_gt (pv 1) pe_int (nomark _)) (pss_one (ps_par (i := 0) (j := 1) (by rfl) scGcd.nd rfl rfl (by decide) rfl rfl (pa_cons (pv 1) (pa_cons (pe_op op_modN (pe_callTy call_int1 (by rfl) B.int PyProof.Rows.boot_int (pa_cons (pv 0) pa_nil)) (pv 1)) pa_nil)) (by rfl))))
      (pss_one (ps_ret (pv 0)))), ?_⟩
    refine ⟨_, rfl, a, rfl, _, rfl, b, rfl, _, _, rfl, ?_⟩
    refine while_by (fun σ H' => H' = H ∧ ∃ x y : Int, σ = [some (.int x), some (.int y)] ∧ 0 ≤ x ∧ 0 ≤ y ∧ Nat.gcd x.natAbs y.natAbs = Nat.gcd a.natAbs b.natAbs)
      (fun σ _ => match σ with | [_, some (.int y)] => y.toNat | _ => 0) ?_ ?_ ?_
    · refine ⟨rfl, _, _, rfl, ?_, ?_, ?_⟩
      · rw [abs_if]; omega
      · rw [abs_if]; omega
      · rw [abs_if, abs_if]; simp
    · rintro σ H' ⟨rfl, x, y, rfl, hx, hy, hg⟩
      refine ⟨_, rfl, _, _, rfl, rfl, _, rfl, ?_⟩
      by_cases c : 0 < y
      · refine itT (decide_eq_true c) ?_
        refine ⟨_, rfl, _, rfl, .inl ⟨_, rfl, _, rfl, _, _, rfl, rfl, (by show y ≠ 0; omega), _, _, rfl, ⟨rfl, y, _, rfl, by omega, mod_lo c, ?_⟩, ?_⟩⟩
        · rw [gcd_step hx c]; exact hg
        · show (x.fmod y).toNat < y.toNat
          have h1 := mod_lo (i := x) c
          have h2 := mod_hi (i := x) c
          omega
      · refine itF (decide_eq_false c) ?_
        have e : y = 0 := by omega
        subst e
        refine ⟨_, rfl, ?_⟩
        have q : Nat.gcd x.natAbs (0 : Int).natAbs = x.natAbs := Nat.gcd_zero_right _
        rw [q] at hg
        have z : x = ((Nat.gcd a.natAbs b.natAbs : Nat) : Int) := by omega
        rw [z]
        exact k
    · rintro σ H' Q1 Q2 hq ⟨v, e, v2, v3, e1, e2, q⟩
      exact ⟨v, e, v2, v3, e1, e2, by obtain ⟨b', e3, q'⟩ := q; exact ⟨b', e3, hq _ _ q'⟩⟩
/-- the law's factors -/
abbrev sNu : Stmt := top 47
abbrev nNu : List Str := ["_law_number", "_law_found", "_law_left", "_law_factor", "_law_turn"]
def spNu : Sp := fun vs H Q _ => ∃ n : Int, vs = [.int n] ∧ 1 ≤ n ∧ n ≤ 1000000000 ∧ ∀ (H' : Hp) (q : Addr) (l : List Int), Same H H' → H q = none → H' q = some (.lst (l.map V.int)) → Fz n l → l.length ≤ 31 → Q (.ref q) H'
theorem scNu : FnScope nNu ["_law_number"] (defScope sNu) := ⟨rfl, rfl, rfl, by decide +kernel, rfl, by decide +kernel, by decide +kernel⟩
theorem ok_nu {f : Addr} {fd : FuncData} (F : Fun K "_law_nu_factors" "_law_nu_factors" sNu f fd) (mR : mg "range" = none) : FnOk P w K mg base CX0 1 f fd ["_law_number"] spNu := by
  refine F.ok scNu (fun vs H Q E h => ?_) (fun cdv A outer s H vs Q E hr h => ?_)
  · obtain ⟨n, rfl, _⟩ := h
    rfl
  · obtain ⟨n, rfl, n1, n9, k⟩ := h
    refine ⟨_, pss_cons (ps_par3 (i := 1) (j := 2) (l := 3) rfl scNu.nd rfl rfl rfl (by decide) (by decide) (by decide) rfl rfl rfl (pa_cons (pe_lst pa_nil) (pa_cons (pv 0) (pa_cons pe_int pa_nil))) (by rfl))
      (pss_cons (ps_for PassesOwn.never rfl (pi_range1 rfl mR (pa_cons pe_int pa_nil)) (pg_name (i := 4) scNu.nd rfl (.inl rfl))
        (pss_cons (ps_if (pt_cmpR op_gt (pe_op op_mulW (pv 3) (pv 3)) (pv 2) (nomark _)) (pss_one ps_break) pss_nil)
        (pss_one (ps_if (pt_cmpR op_eq (pe_op op_mod (pv 2) (pv 3)) pe_int (nomark _))
          (pss_cons (ps_expr (pe_bm PySem.F.plainAttrs_list PySem.F.slot_list_append PySem.F.type_list_append mt_append (pv 1) (pa_cons (pv 3) pa_nil))) (pss_one (ps_set (i := 2) scNu.nd rfl (.inl rfl) (pe_op op_fdivW (pv 2) (pv 3)))))
          (pss_one (ps_set (i := 3) scNu.nd rfl (.inl rfl) (pe_op op_add (pv 3) pe_int)))))))
      (pss_one (ps_ret (pe_op op_cat (pv 1) (pe_ifExp (pt_cmpR op_gt (pv 2) pe_int (nomark _)) (pe_lst (pa_cons (pv 2) pa_nil)) (pe_lst pa_nil)))))), ?_⟩
    refine ⟨(by show 0 ≤ sizeLine; decide), fun q nq => ?_⟩
    refine ⟨_, rfl, _, _, _, rfl, ?_⟩
    refine ⟨40000, rfl, by decide, by decide, for_range (fun i σ H' => ∃ (fs : List Int) (left fa : Int) (tv : Option V), σ = [some (.int n), some (.ref q), some (.int left), some (.int fa), tv] ∧ H' = upd H q (.lst (fs.map V.int)) ∧
      1 ≤ left ∧ 2 ≤ fa ∧ Fr2 left fa ∧ (∀ l, Fz left l → Fz n (fs ++ l)) ∧ left * 2 ^ fs.length ≤ n ∧ fa - 2 + fs.length = i ∧ i ≤ 40000) ?_ ?_ ?_⟩
    · exact ⟨[], n, 2, _, rfl, rfl, n1, by decide, fun d d2 dl => absurd dl (by omega), fun l h => h, by simp, by simp, by decide⟩
    · rintro i σ H' hi ⟨fs, left, fa, tv, rfl, rfl, l1, f2, fr, cont, sz, pr, i4⟩
      have fl := len30 sz l1 n9
      have p1 := (pow_le_of (g := 2) (j := fs.length) (e := fs.length) (by decide) (Nat.le_refl _)).1
      have ln : left ≤ n := by
        have : left * 1 ≤ left * 2 ^ fs.length := Int.mul_le_mul_of_nonneg_left p1 (by omega)
        omega
      have fb : fa.natAbs < 2 ^ 40 := Nat.lt_of_le_of_lt (show fa.natAbs ≤ 40002 by omega) (by decide)
      refine ⟨_, rfl, _, rfl, fa, fa, rfl, rfl, wide_mul fb fb (by decide) (by decide) (by decide), _, rfl, _, _, rfl, rfl, _, rfl, ?_⟩
      by_cases c : left < fa * fa
      · refine itT (decide_eq_true c) ?_
        have big := c
        refine ⟨_, rfl, ?_⟩
        rcases Int.lt_or_le 1 left with c1 | c1
        · refine ⟨_, rfl, _, _, rfl, rfl, _, rfl, itT (decide_eq_true c1) ⟨_, rfl, (by show 1 ≤ sizeLine; decide), fun r nr => ?_⟩⟩
          have nqr : q ≠ r := fun z => by rw [← z, upd_same] at nr; cases nr
          refine ⟨q, r, _, _, rfl, rfl, (by rw [upd_ne nqr, upd_same]), upd_same, Nat.le_trans (show (fs.map V.int).length + 1 ≤ 31 by rw [List.length_map]; omega) (by decide), fun t nt => ?_⟩
          have hz := cont [left] (Fz.step (Fr2.prime fr c1 f2 big) c1 (by rw [Int.ediv_self (by omega)]; exact Fz.one))
          refine k _ t (fs ++ [left]) (Same.tr (same_new nq) (Same.tr (same_new nr) (same_new nt))) ?_ (by rw [upd_same, List.map_append]; rfl) hz (by rw [List.length_append]; show fs.length + 1 ≤ 31; omega)
          exact none_of (Same.tr (same_new nq) (same_new nr)) nt
        · refine ⟨_, rfl, _, _, rfl, rfl, _, rfl, itF (decide_eq_false (by omega)) ⟨(by show 0 ≤ sizeLine; decide), fun r nr => ?_⟩⟩
          have nqr : q ≠ r := fun z => by rw [← z, upd_same] at nr; cases nr
          have e1 : left = 1 := by omega
          subst e1
          refine ⟨q, r, _, _, rfl, rfl, (by rw [upd_ne nqr, upd_same]), upd_same, Nat.le_trans (show (fs.map V.int).length + 0 ≤ 31 by rw [List.length_map]; omega) (by decide), fun t nt => ?_⟩
          refine k _ t fs (Same.tr (same_new nq) (Same.tr (same_new nr) (same_new nt))) ?_ (by rw [upd_same, List.append_nil]) (by have := cont [] Fz.one; rwa [List.append_nil] at this) (by omega)
          exact none_of (Same.tr (same_new nq) (same_new nr)) nt
      · refine itF (decide_eq_false c) ?_
        refine ⟨_, rfl, _, rfl, left, fa, rfl, rfl, (by show 0 < fa; omega), rfl, _, rfl, ?_⟩
        by_cases d : left % fa = 0
        · refine itT (decide_eq_true (show V.int (left % fa) = V.int 0 by rw [d])) ?_
          have dv := Int.dvd_of_emod_eq_zero d
          have e : left / fa * fa = left := Int.ediv_mul_cancel dv
          have lt1 : 1 < left := by
            have := Int.le_of_dvd (by omega) dv
            omega
          have q1 : 1 ≤ left / fa := by
            rcases Int.lt_or_le 0 (left / fa) with z | z
            · omega
            · have : left / fa * fa ≤ 0 := Int.mul_nonpos_of_nonpos_of_nonneg z (by omega)
              omega
          refine ⟨_, rfl, .inl ⟨rfl, _, SqL.of upd_same⟩, ?_⟩
          refine ⟨_, rfl, q, _, _, rfl, rfl, upd_same, Nat.lt_of_le_of_lt (show (fs.map V.int).length ≤ 31 by rw [List.length_map]; omega) (by decide), ?_⟩
          rw [upd_upd]
          refine ⟨_, rfl, _, rfl, left, fa, rfl, rfl, wide_div (b := 200) (by omega) (Nat.lt_of_lt_of_le fb (by decide)) (by decide) (by decide), fs ++ [fa], left / fa, fa, _, rfl, by rw [List.map_append]; rfl, q1, f2, Fr2.div fr dv, fun l h => ?_, ?_, ?_, by omega⟩
          · rw [List.append_assoc]
            exact cont (fa :: l) (Fz.step (Mf.of_fr fr f2 dv) lt1 h)
          · rw [List.length_append, List.length_singleton, Int.pow_succ]
            have a1 : left / fa * (2 ^ fs.length * 2) ≤ left / fa * (2 ^ fs.length * fa) := Int.mul_le_mul_of_nonneg_left (Int.mul_le_mul_of_nonneg_left f2 (by omega)) (by omega)
            have a2 : left / fa * (2 ^ fs.length * fa) = left * 2 ^ fs.length := by rw [Int.mul_comm (2 ^ fs.length) fa, ← Int.mul_assoc, e]
            omega
          · rw [List.length_append, List.length_singleton]
            omega
        · refine itF (decide_eq_false (fun z => d (V.int.inj z))) ?_
          refine ⟨_, rfl, _, _, rfl, rfl, fs, left, fa + 1, _, rfl, rfl, l1, by omega, Fr2.next fr (fun z => d (Int.emod_eq_zero_of_dvd z)), cont, sz, by omega, by omega⟩
    · rintro σ H' ⟨fs, left, fa, tv, rfl, rfl, l1, f2, fr, cont, sz, pr, i4⟩
      have fl := len30 sz l1 n9
      have p1 := (pow_le_of (g := 2) (j := fs.length) (e := fs.length) (by decide) (Nat.le_refl _)).1
      have ln : left ≤ n := by
        have : left * 1 ≤ left * 2 ^ fs.length := Int.mul_le_mul_of_nonneg_left p1 (by omega)
        omega
      have big : left < fa * fa := by
        have : fa ≥ 39000 := by have e4 : (40000 : Int).toNat = 40000 := rfl; omega
        have : 39000 * 39000 ≤ fa * fa := Int.mul_le_mul this this (by decide) (by omega)
        omega
      refine ⟨_, rfl, ?_⟩
      rcases Int.lt_or_le 1 left with c1 | c1
      · refine ⟨_, rfl, _, _, rfl, rfl, _, rfl, itT (decide_eq_true c1) ⟨_, rfl, (by show 1 ≤ sizeLine; decide), fun r nr => ?_⟩⟩
        have nqr : q ≠ r := fun z => by rw [← z, upd_same] at nr; cases nr
        refine ⟨q, r, _, _, rfl, rfl, (by rw [upd_ne nqr, upd_same]), upd_same, Nat.le_trans (show (fs.map V.int).length + 1 ≤ 31 by rw [List.length_map]; omega) (by decide), fun t nt => ?_⟩
        have hz := cont [left] (Fz.step (Fr2.prime fr c1 f2 big) c1 (by rw [Int.ediv_self (by omega)]; exact Fz.one))
        refine k _ t (fs ++ [left]) (Same.tr (same_new nq) (Same.tr (same_new nr) (same_new nt))) ?_ (by rw [upd_same, List.map_append]; rfl) hz (by rw [List.length_append]; show fs.length + 1 ≤ 31; omega)
        exact none_of (Same.tr (same_new nq) (same_new nr)) nt
      · refine ⟨_, rfl, _, _, rfl, rfl, _, rfl, itF (decide_eq_false (by omega)) ⟨(by show 0 ≤ sizeLine; decide), fun r nr => ?_⟩⟩
        have nqr : q ≠ r := fun z => by rw [← z, upd_same] at nr; cases nr
        have e1 : left = 1 := by omega
        subst e1
        refine ⟨q, r, _, _, rfl, rfl, (by rw [upd_ne nqr, upd_same]), upd_same, Nat.le_trans (show (fs.map V.int).length + 0 ≤ 31 by rw [List.length_map]; omega) (by decide), fun t nt => ?_⟩
        refine k _ t fs (Same.tr (same_new nq) (Same.tr (same_new nr) (same_new nt))) ?_ (by rw [upd_same, List.append_nil]) (by have := cont [] Fz.one; rwa [List.append_nil] at this) (by omega)
        exact none_of (Same.tr (same_new nq) (same_new nr)) nt
/-- the law's integers -/
abbrev sIn_ : Stmt := top 48
def GoodN (n : Int) : Prop := 1 ≤ n ∧ (n < 1000000 ∨ n = 1000000000)
def DicAt (H : Hp) (p : Addr) : Prop := ∃ a b c : Int, H p = some (.lst [.int a, .int b, .int c])
theorem dic_upd {H : Hp} {p : Addr} {a b c : Int} : DicAt (upd H p (.lst [.int a, .int b, .int c])) p := ⟨a, b, c, upd_same⟩
theorem dic_same {H H' : Hp} {p : Addr} (s : Same H H') (h : DicAt H p) : DicAt H' p := let ⟨a, b, c, e⟩ := h; ⟨a, b, c, s _ _ e⟩
def spInt : Sp := fun vs H Q _ => ∃ p : Addr, vs = [.ref p] ∧ DicAt H p ∧ ∀ (H' : Hp) (n : Int), Kq p H H' → DicAt H' p → GoodN n → Q (.int n) H'
abbrev nInt : List Str := ["_law_dice_here", "_law_way"]
theorem scInt : FnScope nInt ["_law_dice_here"] (defScope sIn_) := ⟨rfl, rfl, rfl, by decide +kernel, rfl, by decide +kernel, by decide +kernel⟩
abbrev HRoll (P : Program) (w : World) (K : PySem.W.Frag) (mg : Str → Option Value) (base : Heap) : Prop := Has P w K mg base "_law_roll" 1 ["_law_dice_here", "_law_total"] spRoll
abbrev HPick (P : Program) (w : World) (K : PySem.W.Frag) (mg : Str → Option Value) (base : Heap) : Prop := Has P w K mg base "_law_pick" 2 ["_law_dice_here", "_law_items"] (spPick K)
theorem ok_int {f : Addr} {fd : FuncData} (F : Fun K "_law_integer" "_law_integer" sIn_ f fd) (R : HRoll P w K mg base) (Pk : HPick P w K mg base) : FnOk P w K mg base CX0 3 f fd ["_law_dice_here"] spInt := by
  obtain ⟨fR, dR, GR, mR, kR, bR⟩ := R
  obtain ⟨fP, dP, GP, mP, kP, bP⟩ := Pk
  refine F.ok scInt (fun vs H Q E h => ?_) (fun cdv A outer s H vs Q E hr h => ?_)
  · obtain ⟨p, rfl, _⟩ := h
    rfl
  · obtain ⟨p, rfl, ⟨a, b, c, hp⟩, k⟩ := h
    refine ⟨_, pss_cons (ps_set (i := 1) scInt.nd rfl (.inl rfl) (pe_call GR (hr.mono (by decide)) rfl mR kR bR .nil pass0 (pa_cons (pv 0) (pa_cons pe_int pa_nil))))
      (pss_cons (ps_if (pt_cmpR op_eq (pv 1) pe_int (nomark _)) (pss_one (ps_ret (pe_op op_add pe_int (pe_call GR (hr.mono (by decide)) rfl mR kR bR .nil pass0 (pa_cons (pv 0) (pa_cons pe_int pa_nil)))))) pss_nil)
      (pss_cons (ps_if (pt_cmpR op_eq (pv 1) pe_int (nomark _)) (pss_one (ps_ret (pe_call GP (hr.mono (by decide)) rfl mP kP bP .nil pass0 (pa_cons (pv 0) (pa_cons (pe_lst (pa_cons pe_int (pa_cons pe_int (pa_cons pe_int (pa_cons pe_int (pa_cons pe_int (pa_cons pe_int (pa_cons pe_int (pa_cons pe_int (pa_cons (pe_op op_pow pe_int pe_int) pa_nil)))))))))) pa_nil))))) pss_nil)
      (pss_one (ps_ret (pe_op op_mul (pe_op op_add pe_int (pe_call GR (hr.mono (by decide)) rfl mR kR bR .nil pass0 (pa_cons (pv 0) (pa_cons pe_int pa_nil)))) (pe_op op_add pe_int (pe_call GR (hr.mono (by decide)) rfl mR kR bR .nil pass0 (pa_cons (pv 0) (pa_cons pe_int pa_nil))))))))), ?_⟩
    refine ⟨_, rfl, p, a, b, c, 4, rfl, hp, by decide, by decide, fun r a1 c1 r0 r1 => ?_⟩
    refine ⟨_, rfl, rfl, _, rfl, ?_⟩
    by_cases z0 : r = 0
    · refine itT (decide_eq_true (by rw [z0])) ?_
      refine ⟨_, rfl, p, a1, b, c1, 60, rfl, upd_same, by decide, by decide, fun x a2 c2 x0 x1 => ⟨_, _, rfl, rfl, ?_⟩⟩
      rw [upd_upd]
      exact k _ _ kq_upd dic_upd ⟨by omega, .inl (by omega)⟩
    · refine itF (decide_eq_false (fun z => z0 (V.int.inj z))) ?_
      refine ⟨_, rfl, rfl, _, rfl, ?_⟩
      by_cases z1 : r = 1
      · refine itT (decide_eq_true (by rw [z1])) ?_
        refine ⟨_, rfl, _, _, rfl, rfl, ⟨by decide, by decide, by decide⟩, (by show 9 ≤ sizeLine; decide), fun q nq => ?_⟩
        have npq : q ≠ p := fun z => by rw [z, upd_same] at nq; cases nq
        refine ⟨p, q, a1, b, c1, _, rfl, (by rw [upd_ne (Ne.symm npq), upd_same]), SqL.of upd_same, npq, (by show 0 < 9; decide), (by show 9 < 1000; decide), fun i x a2 c2 hx => ?_⟩
        have kk : ∀ n, GoodN n → Q (.int n) (upd (upd (upd H p (.lst [.int a1, .int b, .int c1])) q (.lst [V.int 2, V.int 97, V.int 360, V.int 1024, V.int 10007, V.int 30030, V.int 720720, V.int 999983, V.int (10 ^ (9 : Int).toNat)])) p (.lst [.int a2, .int b, .int c2])) := fun n g => k _ n (Kq.trans kq_upd (Kq.trans (kq_same (same_new nq)) kq_upd)) dic_upd g
        have all : ∀ y ∈ [(2 : Int), 97, 360, 1024, 10007, 30030, 720720, 999983, 1000000000], GoodN y := by
          unfold GoodN
          decide
        have e : [V.int 2, V.int 97, V.int 360, V.int 1024, V.int 10007, V.int 30030, V.int 720720, V.int 999983, V.int (10 ^ (9 : Int).toNat)] = [(2 : Int), 97, 360, 1024, 10007, 30030, 720720, 999983, 1000000000].map V.int := rfl
        have hx2 : ([(2 : Int), 97, 360, 1024, 10007, 30030, 720720, 999983, 1000000000].map V.int)[i]? = some x := hx
        rw [List.getElem?_map] at hx2
        obtain ⟨y, hy, rfl⟩ := Option.map_eq_some_iff.mp hx2
        exact kk y (all y (List.mem_of_getElem? hy))
      · refine itF (decide_eq_false (fun z => z1 (V.int.inj z))) ?_
        refine ⟨_, rfl, p, a1, b, c1, 999, rfl, upd_same, by decide, by decide, fun x a2 c2 x0 x1 => ⟨_, _, rfl, rfl, ?_⟩⟩
        refine ⟨_, rfl, p, a2, b, c2, 999, rfl, upd_same, by decide, by decide, fun y a3 c3 y0 y1 => ⟨_, _, rfl, rfl, _, _, rfl, rfl, .inl ⟨by omega, by omega⟩, ?_⟩⟩
        rw [upd_upd, upd_upd]
        have m1 : 1 * 1 ≤ (1 + x) * (1 + y) := Int.mul_le_mul (by omega) (by omega) (by decide) (by omega)
        have m2 : (1 + x) * (1 + y) ≤ 999 * 999 := Int.mul_le_mul (by omega) (by omega) (by omega) (by decide)
        exact k _ _ kq_upd dic_upd ⟨by omega, .inl (by omega)⟩
end
end Lk

set_option Elab.async false
set_option linter.all false
set_option maxRecDepth 100000
set_option maxHeartbeats 4000000
set_option exponentiation.threshold 10000
namespace Lk
open PySem L2 Vx
/-! divisors, primes and signs judged by the law -/
theorem dp_ints {K : PySem.W.Frag} {H : Hp} : ∀ ns : List Int, DpAll K H (ns.map V.int) (ns.map PyData.int)
  | [] => .nil
  | n :: ns => .cons (.int n) (dp_ints ns)
theorem d_ints : ∀ ns : List Int, PyData.canLayAll0 (ns.map PyData.int) = true ∧ PyData.depthAll (ns.map PyData.int) ≤ 1
  | [] => ⟨rfl, by simp [PyData.depthAll]⟩
  | n :: ns => by
    obtain ⟨a, b⟩ := d_ints ns
    refine ⟨by rw [List.map_cons, PyData.canLayAll0, a]; rfl, ?_⟩
    rw [List.map_cons, PyData.depthAll]
    simp only [PyData.depth]
    omega
theorem sh_ints (ns : List Int) : SeqAt.shaped (.list (ns.map PyData.int)) = true ∧ PyData.eqv (.list (ns.map PyData.int)) (.list (ns.map PyData.int)) = true := by
  obtain ⟨a, b⟩ := d_ints ns
  have c : PyData.canLay0 (.list (ns.map PyData.int)) = true := by rw [PyData.canLay0]; exact a
  refine ⟨?_, SeqAt.eqv_refl _ c⟩
  unfold SeqAt.shaped
  rw [c, Bool.true_and]
  refine decide_eq_true ?_
  simp only [PyData.depth]
  omega
def pdat (z : Int × Nat) : PyData := .tuple [.int z.1, .int (z.2 : Int)]
theorem d_prs : ∀ ns : List (Int × Nat), PyData.canLayAll0 (ns.map pdat) = true ∧ PyData.depthAll (ns.map pdat) ≤ 5
  | [] => ⟨rfl, by simp [PyData.depthAll]⟩
  | n :: ns => by
    obtain ⟨a, b⟩ := d_prs ns
    refine ⟨by rw [List.map_cons, PyData.canLayAll0, a]; rfl, ?_⟩
    rw [List.map_cons, PyData.depthAll]
    simp only [PyData.depth, PyData.depthAll, pdat]
    omega
theorem sh_prs (ns : List (Int × Nat)) : SeqAt.shaped (.list (ns.map pdat)) = true ∧ PyData.eqv (.list (ns.map pdat)) (.list (ns.map pdat)) = true := by
  obtain ⟨a, b⟩ := d_prs ns
  have c : PyData.canLay0 (.list (ns.map pdat)) = true := by rw [PyData.canLay0]; exact a
  refine ⟨?_, SeqAt.eqv_refl _ c⟩
  unfold SeqAt.shaped
  rw [c, Bool.true_and]
  refine decide_eq_true ?_
  simp only [PyData.depth]
  omega
theorem dp_prs {K : PySem.W.Frag} {H : Hp} : ∀ {ts : List Addr} {prs : List (Int × Nat)}, Paired (fun (t : Addr) (q : L2.Key × V) => H t = some (.tup [kV q.1, q.2])) ts (prs.map kvOf) → DpAll K H (ts.map V.ref) (prs.map pdat)
  | [], [], _ => .nil
  | t :: ts, z :: prs, h => by
    cases h with
    | cons a b =>
      refine .cons ?_ (dp_prs b)
      exact .tup (SqT.of a) (.cons (.int _) (.cons (.int _) .nil))
  | [], _ :: _, h => nomatch h
  | _ :: _, [], h => nomatch h
/-- what the law asks of a list of factors -/
theorem due_len {prs : List (Int × Nat)} {du : List Int} {i : Nat} (so : du.Pairwise (· < ·)) (dm : ∀ k, k ∈ du ↔ k ∈ dset ((xs prs).take i)) : du.length ≤ lenP prs := by
  rw [← dvs_len]
  exact nodup_len du (dvs prs) (sorted_nodup so) fun x hx => mem_dset.mp (dset_take ((dm x).mp hx))
section
variable {P : Program} {w : World} {K : PySem.W.Frag} {mg : Str → Option Value} {base : Heap} {CE CT : Addr}
abbrev sIp : Stmt := top 49
abbrev nIp : List Str := ["_law_number", "_law_factors", "_law_due", "_law_told", "_law_prime", "_law_one", "_law_sign"]
theorem scIp : FnScope nIp ["_law_number"] (defScope sIp) := ⟨rfl, rfl, rfl, by decide +kernel, rfl, by decide +kernel, by decide +kernel⟩
def spIp : Sp := fun vs H Q _ => ∃ n : Int, vs = [.int n] ∧ GoodN n ∧ ∀ H', Same H H' → Q (.bl true) H'
abbrev HNu (P : Program) (w : World) (K : PySem.W.Frag) (mg : Str → Option Value) (base : Heap) : Prop := Has P w K mg base "_law_nu_factors" 1 ["_law_number"] spNu
def HasX (P : Program) (w : World) (K : PySem.W.Frag) (mg : Str → Option Value) (base : Heap) (n : Str) (k : Nat) (ps : List Str) (sp : Sp) : Prop :=
  ∃ f fd, FnOk P w K mg base (L2.CX P w) k f fd ps sp ∧ mg n = some (.ref f) ∧ PySem.W.keepIn K (.ref f) = true ∧ Binds K fd ps []
theorem lenP_9 {prs : List (Int × Nat)} (h : ppd 1000000000 = prs.map kvOf) : lenP prs = 100 := by
  have e : ppd 1000000000 = [((2 : Int), 9), (5, 9)].map kvOf := by decide +kernel
  rw [e] at h
  have inj : ∀ {a b : List (Int × Nat)}, a.map kvOf = b.map kvOf → a = b := by
    intro a
    induction a with
    | nil => intro b hb; cases b with
      | nil => rfl
      | cons _ _ => cases hb
    | cons x a ih =>
      intro b hb
      cases b with
      | nil => cases hb
      | cons y b =>
        obtain ⟨h1, h2⟩ := List.cons.inj hb
        obtain ⟨q1, q2⟩ := Prod.mk.inj h1
        have q1 := Sum.inl.inj q1
        have q2 := V.int.inj q2
        rw [ih h2, show x = y from Prod.ext q1 (by omega)]
  rw [← inj h]
  rfl
theorem good_len {n : Int} {prs : List (Int × Nat)} (g : GoodN n) (h : ppd n = prs.map kvOf) (pq : Pq prs) (pr : pprod prs = n) : lenP prs < 1800 := by
  rcases g.2 with c | rfl
  · exact lenP_lt pq (by rw [pr]; omega)
  · rw [lenP_9 h]; decide
end
end Lk

set_option Elab.async false
set_option linter.all false
set_option maxRecDepth 100000
set_option maxHeartbeats 4000000
set_option exponentiation.threshold 10000
namespace Lk
open PySem L2 Vx
theorem same_put {H H' : Hp} {t : Addr} {o : HO} (s : Same H H') (n : H t = none) : Same H (upd H' t o) := fun a u e => by
  rw [upd_ne (fun z => by rw [z, n] at e; cases e)]
  exact s a u e
theorem lst_ne_dK {H : Hp} {a b : Addr} {x : List V} {y : List (L2.Key × V)} (h1 : H a = some (.lst x)) (h2 : H b = some (.dK y)) : a ≠ b := fun z => by subst z; rw [h1] at h2; cases h2
theorem foldl_le {M : Int} : ∀ (prs : List (Int × Nat)) (acc : List Int) (M : Int), (∀ z ∈ prs, 2 ≤ z.1) → (∀ a ∈ acc, 1 ≤ a ∧ a ≤ M) → ∀ m ∈ prs.foldl fstep acc, 1 ≤ m ∧ m ≤ M * pprod prs
  | [], acc, M, _, h, m, hm => by
    have := h m hm
    show 1 ≤ m ∧ m ≤ M * 1
    omega
  | z :: r, acc, M, h2, h, m, hm => by
    have z2 := h2 z List.mem_cons_self
    have k := foldl_le (M := 0) r (fstep acc z) (M * z.1 ^ z.2) (fun y hy => h2 y (List.mem_cons_of_mem _ hy)) (fun a ha => ?_) m hm
    · show 1 ≤ m ∧ m ≤ M * (z.1 ^ z.2 * pprod r)
      rw [← Int.mul_assoc]
      exact k
    · obtain ⟨d, hd, j, hj, rfl⟩ := mem_fstep.mp ha
      obtain ⟨d1, d2⟩ := h d hd
      obtain ⟨p1, p2⟩ := pow_le_of (g := z.1) (j := j) (e := z.2) (by omega) hj
      have a1 : 1 * 1 ≤ d * z.1 ^ j := Int.mul_le_mul d1 p1 (by decide) (by omega)
      have a2 : d * z.1 ^ j ≤ M * z.1 ^ z.2 := Int.mul_le_mul d2 p2 (by omega) (by omega)
      omega
theorem dvs_le {prs : List (Int × Nat)} (pq : Pq prs) {m : Int} (h : m ∈ dvs prs) : 1 ≤ m ∧ m ≤ pprod prs := by
  have := foldl_le (M := 0) prs [1] 1 (fun z hz => (pq.pr z hz).1.1) (fun a ha => by rw [List.mem_singleton.mp ha]; decide) m h
  omega
theorem xs_le {prs : List (Int × Nat)} (pq : Pq prs) {p : Int} (h : p ∈ xs prs) : 2 ≤ p ∧ p ≤ pprod prs := by
  obtain ⟨z, hz, q⟩ := List.mem_flatMap.mp h
  rw [(List.mem_replicate.mp q).2]
  have a := (pq.pr z hz).1.1
  have b := part_le (fun y hy => (pq.pr y hy).1.1) hz
  have c := (pow_le_of (g := z.1) (j := 1) (e := z.2) (by omega) (pq.pr z hz).2).2
  rw [Int.pow_one] at c
  omega
theorem paired_imp {α β : Type} {R S : α → β → Prop} (h : ∀ a b, R a b → S a b) : ∀ {x : List α} {y : List β}, Paired R x y → Paired S x y
  | _, _, .nil => .nil
  | _, _, .cons a b => .cons (h _ _ a) (paired_imp h b)
section
variable {P : Program} {w : World} {K : PySem.W.Frag} {mg : Str → Option Value} {base : Heap} {CE CT : Addr}
theorem ok_ip {f : Addr} {fd : FuncData} (F : Fun K "_law_is_parted" "_law_is_parted" sIp f fd) (Nu : HNu P w K mg base) (Dv : HasX P w K mg base "divisors" 6 ["number"] (spDv K CE CT)) (Pp : HPp P w K mg base CE CT)
    (Pr : Has P w K mg base "is_prime" 3 ["value"] (spPr K)) (Mo : HasX P w K mg base "moebius" 6 ["number"] (spMo K)) (mS : mg "sorted" = none) (mT : mg "set" = none) (mL : mg "list" = none) (mN : mg "len" = none) :
    FnOk P w K mg base (L2.CX P w) 7 f fd ["_law_number"] spIp := by
  obtain ⟨fN, dN, GN, mfN, kN, bN⟩ := Nu
  obtain ⟨fD, dD, GD, mD, kD, bD⟩ := Dv
  obtain ⟨fP, dP, GP, mP, kP, bP⟩ := Pp
  obtain ⟨fI, dI, GI, mI, kI, bI⟩ := Pr
  obtain ⟨fM, dM, GM, mM, kM, bM⟩ := Mo
  refine F.okX scIp (fun vs H Q E h => ?_) (fun cdv A outer s H vs Q E hr h => ?_)
  · obtain ⟨n, rfl, _⟩ := h
    rfl
  · obtain ⟨n, rfl, g, k⟩ := h
    refine ⟨_, pss_cons (ps_par3 (i := 1) (j := 2) (l := 3) rfl scIp.nd rfl rfl rfl (by decide) (by decide) (by decide) rfl rfl rfl (pa_cons (pe_call GN (hr.mono (by decide)) rfl mfN kN bN .nil pass0 (pa_cons (pv 0) pa_nil)) (pa_cons (pe_lst (pa_cons pe_int pa_nil)) (pa_cons pe_dnewK pa_nil))) (by rfl))
      (pss_cons (ps_for (passes_of rfl) rfl (pi_list (pv 1)) (pg_name (i := 4) scIp.nd rfl (.inr rfl))
        (pss_cons (ps_set (i := 2) scIp.nd rfl (.inl rfl) (pe_callB (cr_sortedSetA rfl) (by rfl) mS (by decide +kernel) (pa_cons (pe_callTy (cr_setL rfl) (by rfl) mT (by decide +kernel) (pa_cons (pe_op op_cat (pv 2)
            (pe_lc (own := [("_law_one", 5)]) (g := gName 5) (tt := tYes) rfl scIp.nd (pi_list (pv 2)) (blkOk_by (N := nIp) (sc := defScope sIp) (by decide +kernel))
              (fun _ _ _ _ _ => pg_name (i := 5) scIp.nd rfl (Or.inl rfl)) (fun _ _ _ _ _ => pts_nil) (fun _ _ _ _ _ => pe_op op_mulW (pv 5) (pv 4)))) pa_nil)) pa_nil)))
        (pss_one (ps_dput (hu_of hr) (pv 3) (pv 4) (pe_op op_add (pe_dget2 (hu_of hr) (pv 3) (pv 4) pe_int ⟨rfl, rfl, rfl, rfl⟩) pe_int) rfl))))
      (pss_cons (ps_if (PW.pt (pw_or (pt_cmpR (op_neD hr.units) (pe_callTy call_list_of (by rfl) mL (by decide +kernel) (pa_cons (pe_call GD (hr.mono (by decide)) rfl mD kD bD .nil (passes_call (takes_of rfl rfl rfl rfl) (fun _ _ _ _ h => h)) (pa_cons (pv 0) pa_nil)) pa_nil)) (pv 2) (nomark _))
          (pw_or1 (pt_cmpR (op_neD hr.units) (LiI.pe_listItems rfl (pe_call GP (hr.mono (by decide)) rfl mP kP bP .nil (passes_call (takes_of rfl rfl rfl rfl) (fun _ _ _ _ h => h)) (pa_cons (pv 0) pa_nil)) rfl mL (by decide +kernel)) (LiI.pe_listItems rfl (pv 3) rfl mL (by decide +kernel)) (nomark _))))) pss_never pss_nil)
      (pss_cons (ps_set (i := 6) scIp.nd rfl (.inl rfl) (pe_ifExp (pt_cmpR op_lt (pe_callB call_lenD (by rfl) mN (by decide +kernel) (pa_cons (pv 3) pa_nil)) (pe_callB call_len_seq (by rfl) mN (by decide +kernel) (pa_cons (pv 1) pa_nil)) (nomark _)) pe_int
          (pe_op op_sub pe_int (pe_op op_mul pe_int (pe_op op_mod (pe_callB call_len_seq (by rfl) mN (by decide +kernel) (pa_cons (pv 1) pa_nil)) pe_int)))))
      (pss_one (ps_ret (pe_and (pe_cmpR op_eq (pe_call GI (hr.mono (by decide)) rfl mI kI bI .nil pass0 (pa_cons (pv 0) pa_nil)) (pe_cmpR op_eq (pe_callB call_len_seq (by rfl) mN (by decide +kernel) (pa_cons (pv 1) pa_nil)) pe_int (nomark _)) (nomark _))
        (pe_one (pe_cmpR op_eq (pe_call GM (hr.mono (by decide)) rfl mM kM bM .nil (passes_call (takes_of rfl rfl rfl rfl) (fun _ _ _ _ h => h)) (pa_cons (pv 0) pa_nil)) (pv 6) (nomark _))))))))), ?_⟩
    have n1 := g.1
    have n9 : n ≤ 1000000000 := by rcases g.2 with c | c <;> omega
    obtain ⟨prs, ep, fz, pq, pp⟩ := ppd_is n1 n9
    have ln := good_len g ep pq pp
    refine ⟨_, rfl, n, rfl, n1, n9, fun H1 q l s1 nq hq fl l31 => ?_⟩
    have e := fl.uniq fz
    subst e
    refine ⟨(by show 1 ≤ sizeLine; decide), fun du0 nd0 => ?_⟩
    intro t nt
    have ln9 : pprod prs ≤ 1000000000 := by rw [pp]; exact n9
    have ntH : H t = none := none_of (Same.tr s1 (same_new nd0)) nt
    have s3 : Same H (upd (upd H1 du0 (.lst [V.int 1])) t (.dK [])) := Same.tr s1 (Same.tr (same_new nd0) (same_new nt))
    have hq3 := (Same.tr (same_new nd0 (o := .lst [V.int 1])) (same_new nt (o := .dK []))) _ _ hq
    have hd3 : (upd (upd H1 du0 (.lst [V.int 1])) t (.dK [])) du0 = some (.lst [V.int 1]) := same_new nt _ _ upd_same
    have ht3 : (upd (upd H1 du0 (.lst [V.int 1])) t (.dK [])) t = some (.dK []) := upd_same
    generalize upd (upd H1 du0 (.lst [V.int 1])) t (.dK []) = H3 at *
    refine ⟨_, _, _, rfl, ?_⟩
    refine ⟨_, rfl, q, rfl, ⟨_, SqL.of hq3⟩, for_list (xs := (xs prs).map V.int) (fun i σ H' => ∃ (du : Addr) (duL : List Int) (u4 : Option V), σ = [some (.int n), some (.ref q), some (.ref du), some (.ref t), u4, none, none] ∧ Same H H' ∧
      H' q = some (.lst ((xs prs).map V.int)) ∧ H' du = some (.lst (duL.map V.int)) ∧ duL.Pairwise (· < ·) ∧ (∀ k, k ∈ duL ↔ k ∈ dset ((xs prs).take i)) ∧ H' t = some (.dK ((((xs prs).take i).foldl tput []).map kvOf)) ∧
      (((xs prs).take i).foldl tput []).Pairwise (fun a b => a.1 ≠ b.1) ∧ (((xs prs).take i).foldl tput []).length ≤ i ∧ i ≤ 31) ?_ ?_ ?_ ?_⟩
    · exact ⟨du0, [1], _, rfl, s3, hq3, hd3, by simp, fun _ => Iff.rfl, ht3, by simp, by simp, by decide⟩
    · rintro i σ H' _ ⟨du, duL, u4, rfl, _, h, _⟩
      exact SqL.of h
    · rintro i x σ H' hx ⟨du, duL, u4, rfl, sm, hq', hdu, so, dm, ht, nd, tl, i31⟩
      rw [List.getElem?_map] at hx
      obtain ⟨p, hp, rfl⟩ := Option.map_eq_some_iff.mp hx
      have il : i < (xs prs).length := (List.getElem?_eq_some_iff.mp hp).1
      obtain ⟨p2, p9⟩ := xs_le pq (List.mem_of_getElem? hp)
      have dl := due_len so dm
      refine ⟨_, rfl, _, rfl, du, rfl, ⟨_, SqL.of hdu⟩, fun D hD => ?_⟩
      have nD : du ≠ D := ne_of_none hdu hD
      refine lc_list (xs := duL.map V.int) (fun j H'' => H'' = upd H' D (.lst ((duL.take j).map fun d => V.int (d * p)))) (by simp) ?_ ?_ ?_
      · rintro j H'' _ rfl
        exact SqL.of (by rw [upd_ne nD]; exact hdu)
      · rintro j x H'' hx rfl
        rw [List.getElem?_map] at hx
        obtain ⟨d, hd, rfl⟩ := Option.map_eq_some_iff.mp hx
        have dd := dvs_le pq (mem_dset.mp (dset_take ((dm d).mp (List.mem_of_getElem? hd))))
        refine ⟨rfl, ?_⟩
        refine ⟨_, rfl, _, rfl, _, _, rfl, rfl, wide_mul (a := 40) (b := 40) (Nat.lt_of_le_of_lt (show d.natAbs ≤ 1000000000 by omega) (by decide)) (Nat.lt_of_le_of_lt (show p.natAbs ≤ 1000000000 by omega) (by decide)) (by decide) (by decide) (by decide),
          (duL.take j).map fun d => V.int (d * p), upd_same, ?_, ?_⟩
        · rw [List.length_map, List.length_take]
          exact Nat.lt_of_le_of_lt (show min j duL.length ≤ 1800 by omega) (by decide)
        · rw [upd_upd, List.take_add_one, hd, List.map_append]
          rfl
      · rintro H'' rfl
        rw [List.length_map, List.take_length]
        refine ⟨du, D, _, _, rfl, rfl, (by rw [upd_ne nD]; exact hdu), upd_same, Nat.le_trans (show (duL.map V.int).length + (duL.map fun d => V.int (d * p)).length ≤ 3600 by rw [List.length_map, List.length_map]; omega) (by decide), fun c nc => ?_⟩
        have eL : duL.map V.int ++ (duL.map fun d => V.int (d * p)) = (stepD duL p).map V.int := by unfold stepD; rw [List.map_append, List.map_map]; rfl
        rw [eL]
        have sl : (stepD duL p).length ≤ 3600 := by unfold stepD; rw [List.length_append, List.length_map]; omega
        refine ⟨c, stepD duL p, rfl, SqL.of upd_same, Nat.lt_of_le_of_lt (show (stepD duL p).length + 1 ≤ 3601 by omega) (by decide), fun a cn na le => ?_⟩
        refine ⟨a, _, cn, rfl, upd_same, Nat.le_trans (show cn ≤ 3600 by omega) (by decide), fun ns r nso nm nr => ?_⟩
        have sX := Same.tr (same_new hD (o := .lst (duL.map fun d => V.int (d * p)))) (Same.tr (same_new nc (o := .lst ((stepD duL p).map V.int))) (Same.tr (same_new na (o := SetO w a (fun j => decide (j ∈ stepD duL p)) cn)) (same_new nr (o := .lst (ns.map V.int)))))
        have hr4 : (upd (upd (upd (upd H' D (.lst (duL.map fun d => V.int (d * p)))) c (.lst ((stepD duL p).map V.int))) a (SetO w a (fun j => decide (j ∈ stepD duL p)) cn)) r (.lst (ns.map V.int))) r = some (.lst (ns.map V.int)) := upd_same
        have nm' : ∀ k, k ∈ ns ↔ k ∈ dset ((xs prs).take (i + 1)) := fun k => by
          rw [nm k]
          refine Iff.trans (b := k ∈ stepD duL p) ⟨fun z => of_decide_eq_true z, fun z => decide_eq_true z⟩ ?_
          rw [dset_succ hp, mem_stepD, mem_stepD]
          constructor
          · rintro (z | ⟨d, z, e⟩)
            · exact .inl ((dm k).mp z)
            · exact .inr ⟨d, (dm d).mp z, e⟩
          · rintro (z | ⟨d, z, e⟩)
            · exact .inl ((dm k).mpr z)
            · exact .inr ⟨d, (dm d).mpr z, e⟩
        have ht4 := sX _ _ ht
        have hq4 := sX _ _ hq'
        have nrt : r ≠ t := lst_ne_dK hr4 ht4
        have nqt : q ≠ t := lst_ne_dK hq4 ht4
        refine ⟨_, rfl, t, rfl, .inl ⟨_, .inl ht4⟩, _, rfl, _, DGet.k (k := Sum.inl p) ht4, _, 1, tget_kv _ _, rfl, ?_⟩
        refine ⟨_, rfl, _, rfl, t, _, rfl, DPut.k (k := Sum.inl p) ht4 (Nat.lt_of_le_of_lt (show ((((xs prs).take i).foldl tput []).map kvOf).length ≤ 31 by rw [List.length_map]; omega) (by decide)), ?_⟩
        have et : (((xs prs).take (i + 1)).foldl tput []) = tput (((xs prs).take i).foldl tput []) p := by rw [List.take_add_one, hp, List.foldl_append]; rfl
        refine ⟨r, ns, _, rfl, same_put (Same.tr sm sX) ntH, (by rw [upd_ne nqt]; exact hq4), (by rw [upd_ne nrt]; exact hr4), nso, nm', ?_, ?_, ?_, ?_⟩
        · rw [upd_same, tput_kv nd, et]
        · rw [et]; exact tput_nd nd
        · rw [et]
          have := tput_len (((xs prs).take i).foldl tput []) p
          omega
        · omega
    · rintro σ H' ⟨du, duL, u4, rfl, sm, hq', hdu, so, dm, ht, nd, tl, i31⟩
      rw [List.length_map, List.take_length] at dm ht
      rw [told_all pq] at ht
      refine ⟨_, rfl, V.int n, rfl, .inr ⟨n, prs, rfl, n1, n9, ep, prOk_of pq ln9, fun H5 tt ns s5 pe so2 htt => ?_⟩⟩
      obtain rfl := divs_are pq pe so2 so dm
      refine ⟨tt, _, rfl, .inr (SqT.of htt), fun li nli => ?_⟩
      have s6 := Same.tr s5 (same_new nli (o := .lst (ns.map V.int)))
      have hl6 : (upd H5 li (.lst (ns.map V.int))) li = some (.lst (ns.map V.int)) := upd_same
      generalize upd H5 li (.lst (ns.map V.int)) = H6 at *
      refine ⟨_, rfl, _, _, .lst (SqL.of hl6) (dp_ints ns), .lst (SqL.of (s6 _ _ hdu)) (dp_ints ns), (sh_ints ns).1, (sh_ints ns).1, ?_⟩
      rw [(sh_ints ns).2]
      refine ⟨_, rfl, itF rfl ?_⟩
      refine ⟨_, rfl, ?_⟩
      dsimp only [tNil, List.append_nil]
      refine pp_good n1 n9 fun d ndd => ?_
      rw [ep]
      refine ⟨d, _, rfl, upd_same, fun H7 l7 ts s7 _ _ _ hl7 pr7 => ?_⟩
      have s67 := Same.tr (same_new ndd (o := .dK (prs.map kvOf))) s7
      have ht7 := s67 _ _ (s6 _ _ ht)
      refine ⟨_, rfl, t, _, rfl, ht7, fun H8 l8 ts8 s8 _ _ _ hl8 pr8 => ?_⟩
      refine ⟨_, _, .lst (SqL.of (s8 _ _ hl7)) (dp_prs (paired_imp (fun a b e => s8 _ _ e) pr7)), .lst (SqL.of hl8) (dp_prs pr8), (sh_prs prs).1, (sh_prs prs).1, ?_⟩
      rw [(sh_prs prs).2]
      have ht8 := s8 _ _ ht7
      have hq8 := s8 _ _ (s67 _ _ (s6 _ _ hq'))
      have sm8 : Same H H8 := Same.tr sm (Same.tr s6 (Same.tr s67 s8))
      refine ⟨_, rfl, itF rfl ?_⟩
      refine ⟨_, rfl, t, _, rfl, ht8, _, rfl, q, _, rfl, .inl (SqL.of hq8), _, _, rfl, rfl, _, rfl, ?_⟩
      rw [List.length_map, List.length_map]
      have kd := Kd.int (K := K) (H := H8) n
      rw [both (by unfold LONG; omega) (by unfold LONG; omega)] at kd
      have ip := prime_is n1 n9 fl
      have mb := mob_is pq
      have len1 : decide (V.int (((xs prs).length : Nat) : Int) = V.int 1) = decide ((xs prs).length = 1) := decide_eq_decide.mpr ⟨fun z => by have := V.int.inj z; omega, fun z => by rw [z]; rfl⟩
      by_cases c : prs.length < (xs prs).length
      · refine itT (decide_eq_true (show (prs.length : Int) < ((xs prs).length : Int) by omega)) ?_
        rw [if_pos c] at mb
        refine ⟨_, rfl, V.int n, true, rfl, kd, (fun z => nomatch z), fun j ej _ => ?_⟩
        cases ej
        refine ⟨_, rfl, q, _, rfl, .inl (SqL.of hq8), rfl, rfl, _, rfl, ?_⟩
        rw [List.length_map, len1, ip, decide_eq_true (show V.bl (decide ((xs prs).length = 1)) = V.bl (decide ((xs prs).length = 1)) from rfl)]
        refine ⟨_, rfl, n, prs, rfl, n1, n9, ep, ?_, fun H9 s9 => ⟨_, rfl, rfl, ?_⟩⟩
        · have := (xs_len prs fun z hz => (pq.pr z hz).2).1
          omega
        · rw [mb, decide_eq_true (show V.int 0 = V.int 0 from rfl)]
          exact k _ (Same.tr sm8 s9)
      · refine itF (decide_eq_false (show ¬ (prs.length : Int) < ((xs prs).length : Int) by omega)) ?_
        rw [if_neg c] at mb
        refine ⟨_, rfl, q, _, rfl, .inl (SqL.of hq8), _, _, rfl, rfl, (by show (0 : Int) < 2; decide), _, _, rfl, rfl, .inl (by decide), _, _, rfl, rfl, ?_⟩
        refine ⟨_, rfl, V.int n, true, rfl, kd, (fun z => nomatch z), fun j ej _ => ?_⟩
        cases ej
        refine ⟨_, rfl, q, _, rfl, .inl (SqL.of hq8), rfl, rfl, _, rfl, ?_⟩
        rw [List.length_map, len1, ip, decide_eq_true (show V.bl (decide ((xs prs).length = 1)) = V.bl (decide ((xs prs).length = 1)) from rfl)]
        refine ⟨_, rfl, n, prs, rfl, n1, n9, ep, ?_, fun H9 s9 => ⟨_, rfl, rfl, ?_⟩⟩
        · have := (xs_len prs fun z hz => (pq.pr z hz).2).1
          omega
        · rw [mb, decide_eq_true (show V.int (1 - 2 * (((xs prs).length : Int) % 2)) = V.int (1 - 2 * (((xs prs).length : Int) % 2)) from rfl)]
          exact k _ (Same.tr sm8 s9)
end
end Lk

set_option Elab.async false
set_option linter.all false
set_option maxRecDepth 100000
set_option maxHeartbeats 4000000
set_option exponentiation.threshold 10000
namespace Lk
open PySem L2 Vx
theorem mk_same2 {H : Hp} {x dx : Addr} {o o' : HO} (nx : H x = none) (nd : H dx = none) : Same H (upd (upd H dx o) x o') := fun a u e => by
  rw [upd_ne (ne_of_none e nx), upd_ne (ne_of_none e nd)]
  exact e
theorem but_mk2 {H H' : Hp} {x dx : Addr} {o o' : HO} (nx : H x = none) (nd : H dx = none) (bu : But x (upd (upd H dx o) x o') H') : Same H H' := fun a u e => bu a u (ne_of_none e nx) (mk_same2 nx nd a u e)
theorem kd_short {K : PySem.W.Frag} {H : Hp} {i : Int} (h1 : -LONG < i) (h2 : i < LONG) : Kd K H (.int i) true := by
  have := Kd.int (K := K) (H := H) i
  rw [both h1 h2] at this
  exact this
section
variable {P : Program} {w : World} {K : PySem.W.Frag} {mg : Str → Option Value} {base : Heap} {C CE CR CO CPr : Addr}
abbrev sMany : Stmt := top 50
abbrev nMany : List Str := ["_law_prime", "_law_number", "_law_found", "_law_left", "_law_turn"]
theorem scMany : FnScope nMany ["_law_prime", "_law_number"] (defScope sMany) := ⟨rfl, rfl, rfl, by decide +kernel, rfl, by decide +kernel, by decide +kernel⟩
def spMany : Sp := fun vs H Q _ => ∃ p n : Int, vs = [.int p, .int n] ∧ 2 ≤ p ∧ p.natAbs < 2 ^ 200 ∧ n ≠ 0 ∧ n.natAbs < 2 ^ 200 ∧ ∀ t : Nat, p ^ t ∣ n → ¬ p ^ (t + 1) ∣ n → Q (.int t) H
theorem pow_ge {p n l : Int} {t : Nat} (p2 : 2 ≤ p) (l0 : l ≠ 0) (e : l * p ^ t = n) : 2 ^ t ≤ n.natAbs := by
  rw [← e, Int.natAbs_mul, Int.natAbs_pow]
  have a : 2 ^ t ≤ p.natAbs ^ t := Nat.pow_le_pow_left (by omega) t
  have b : 1 * p.natAbs ^ t ≤ l.natAbs * p.natAbs ^ t := Nat.mul_le_mul_right _ (by omega)
  omega
theorem ok_many {f : Addr} {fd : FuncData} (F : Fun K "_law_many_in" "_law_many_in" sMany f fd) (mR : mg "range" = none) : FnOk P w K mg base CX0 1 f fd ["_law_prime", "_law_number"] spMany := by
  refine F.ok scMany (fun vs H Q E h => ?_) (fun cdv A outer s H vs Q E hr h => ?_)
  · obtain ⟨p, n, rfl, _⟩ := h
    rfl
  · obtain ⟨p, n, rfl, p2, pb, n0, nb, k⟩ := h
    refine ⟨_, pss_cons (ps_par (i := 2) (j := 3) (by rfl) scMany.nd rfl rfl (by decide) rfl rfl (pa_cons pe_int (pa_cons (pv 1) pa_nil)) (by rfl))
      (pss_cons (ps_for PassesOwn.never rfl (pi_range1 rfl mR (pa_cons pe_int pa_nil)) (pg_name (i := 4) scMany.nd rfl (.inl rfl))
        (pss_one (ps_if (pt_cmpR op_eq (pe_op op_mod (pv 3) (pv 0)) pe_int (nomark _)) (pss_one (ps_par (i := 2) (j := 3) (by rfl) scMany.nd rfl rfl (by decide) rfl rfl (pa_cons (pe_op op_add (pv 2) pe_int) (pa_cons (pe_op op_fdivW (pv 3) (pv 0)) pa_nil)) (by rfl))) pss_nil)))
      (pss_one (ps_ret (pv 2)))), ?_⟩
    refine ⟨_, rfl, _, _, rfl, ?_⟩
    refine ⟨220, rfl, by decide, by decide, for_range (fun i σ H' => H' = H ∧ ∃ (t : Nat) (l : Int) (tv : Option V), σ = [some (.int p), some (.int n), some (.int t), some (.int l), tv] ∧ l ≠ 0 ∧ l * p ^ t = n ∧ (t = i ∨ l % p ≠ 0)) ?_ ?_ ?_⟩
    · exact ⟨rfl, 0, n, _, rfl, n0, by simp, .inl rfl⟩
    · rintro i σ H' hi ⟨rfl, t, l, tv, rfl, l0, e, o⟩
      refine ⟨_, rfl, _, rfl, l, p, rfl, rfl, (by show 0 < p; omega), rfl, _, rfl, ?_⟩
      by_cases c : l % p = 0
      · refine itT (decide_eq_true (show V.int (l % p) = V.int 0 by rw [c])) ?_
        have ti : t = i := by rcases o with o | o; exact o; exact absurd c o
        refine ⟨_, rfl, _, _, rfl, rfl, _, rfl, _, rfl, l, p, rfl, rfl, wide_div (by omega) pb (by decide) (by decide), _, _, rfl, rfl, t + 1, l / p, _, rfl, ?_, pow_dvd_step e c (by omega), .inl (by omega)⟩
        intro z
        have := Int.ediv_mul_cancel (Int.dvd_of_emod_eq_zero c)
        rw [z, Int.zero_mul] at this
        exact l0 this.symm
      · refine itF (decide_eq_false (fun z => c (V.int.inj z))) ?_
        exact ⟨rfl, t, l, _, rfl, l0, e, .inr c⟩
    · rintro σ H' ⟨rfl, t, l, tv, rfl, l0, e, o⟩
      have c : l % p ≠ 0 := by
        rcases o with o | o
        · have := pow_ge p2 l0 e
          have e4 : (220 : Int).toNat = 220 := rfl
          rw [o, e4] at this
          exact absurd (Nat.lt_of_le_of_lt this nb) (by decide)
        · exact o
      obtain ⟨a1, a2⟩ := pow_dvd_end e c (by omega)
      exact ⟨_, rfl, k t a1 a2⟩
abbrev sWy : Stmt := top 53
abbrev nWy : List Str := ["_law_most", "_law_found", "_law_part", "_law_at"]
theorem scWy : FnScope nWy ["_law_most"] (defScope sWy) := ⟨rfl, rfl, rfl, by decide +kernel, rfl, by decide +kernel, by decide +kernel⟩
def spWy : Sp := fun vs H Q _ => ∃ n : Nat, vs = [.int (n : Int)] ∧ n ≤ 200 ∧ ∀ (H' : Hp) (q : Addr), Same H H' → H q = none → H' q = some (.lst ((wAll n n).map V.int)) → Q (.ref q) H'
theorem ok_wy {f : Addr} {fd : FuncData} (F : Fun K "_law_ways" "_law_ways" sWy f fd) (mR : mg "range" = none) : FnOk P w K mg base CX0 1 f fd ["_law_most"] spWy := by
  refine F.ok scWy (fun vs H Q E h => ?_) (fun cdv A outer s H vs Q E hr h => ?_)
  · obtain ⟨n, rfl, _⟩ := h
    rfl
  · obtain ⟨n, rfl, n200, k⟩ := h
    refine ⟨_, pss_cons (ps_set (i := 1) scWy.nd rfl (.inl rfl) (pe_op op_cat (pe_lst (pa_cons pe_int pa_nil)) (pe_op op_rep (pe_lst (pa_cons pe_int pa_nil)) (pv 0))))
      (pss_cons (ps_for PassesOwn.never rfl (pi_range2 rfl mR (pa_cons pe_int (pa_cons (pe_op op_add (pv 0) pe_int) pa_nil))) (pg_name (i := 2) scWy.nd rfl (.inl rfl))
        (pss_one (ps_for PassesOwn.never rfl (pi_range2 rfl mR (pa_cons (pv 2) (pa_cons (pe_op op_add (pv 0) pe_int) pa_nil))) (pg_name (i := 3) scWy.nd rfl (.inl rfl))
          (pss_one (ps_asg (pe_op op_add (pe_ix ix_list (pv 1) (pv 3) (fun _ _ => rfl)) (pe_ix ix_list (pv 1) (pe_op op_sub (pv 3) (pv 2)) (fun _ _ => rfl))) (pg_sub (pv 1) (pv 3) set_list))))))
      (pss_one (ps_ret (pv 1)))), ?_⟩
    refine ⟨(by show 1 ≤ sizeLine; decide), fun l1 n1 => ⟨(by show 1 ≤ sizeLine; decide), fun l2 n2 => ?_⟩⟩
    have n21 : l1 ≠ l2 := fun z => by rw [← z, upd_same] at n2; cases n2
    refine ⟨_, rfl, l2, n, _, rfl, rfl, upd_same, by omega, by omega, Nat.le_trans (show 1 * (n : Int).toNat ≤ 200 by omega) (by decide), fun p np => ?_⟩
    have npl : l1 ≠ p := fun z => by rw [← z, upd_ne n21, upd_same] at np; cases np
    rw [rep1, Int.toNat_natCast]
    refine ⟨l1, p, _, _, rfl, rfl, (by rw [upd_ne npl, upd_ne n21, upd_same]), upd_same, Nat.le_trans (show 1 + (List.replicate n (V.int 0)).length ≤ 201 by rw [List.length_replicate]; omega) (by decide), fun q nq => ?_⟩
    have s4 : Same H (upd (upd (upd H l1 (.lst [V.int 1])) l2 (.lst [V.int 0])) p (.lst (List.replicate n (V.int 0)))) := Same.tr (same_new n1) (Same.tr (same_new n2) (same_new np))
    have sm : ∀ o, Same H (upd (upd (upd (upd H l1 (.lst [V.int 1])) l2 (.lst [V.int 0])) p (.lst (List.replicate n (V.int 0)))) q o) := fun o => Same.tr s4 (same_new nq)
    have nqH : H q = none := none_of s4 nq
    generalize upd (upd (upd H l1 (.lst [V.int 1])) l2 (.lst [V.int 0])) p (.lst (List.replicate n (V.int 0))) = H4 at *
    have e0 : [V.int 1] ++ List.replicate n (V.int 0) = (wAll n 0).map V.int := by
      unfold wAll
      simp
    rw [e0]
    refine ⟨_, rfl, _, _, rfl, rfl, 1, (n : Int) + 1, rfl, ⟨by decide, by decide, by omega, by omega⟩, for_range (fun i σ H' => ∃ u v : Option V, σ = [some (.int n), some (.ref q), u, v] ∧ H' = upd H4 q (.lst ((wAll n i).map V.int))) ⟨_, _, rfl, rfl⟩ ?_ ?_⟩
    · rintro i σ H' hi ⟨u, v, rfl, rfl⟩
      have hi' : i < n := by omega
      refine ⟨_, rfl, _, rfl, _, _, rfl, rfl, 1 + (i : Int), (n : Int) + 1, rfl, ⟨by omega, by omega, by omega, by omega⟩, for_range (fun j σ H' => ∃ v : Option V, σ = [some (.int n), some (.ref q), some (.int (1 + (i : Int))), v] ∧ H' = upd H4 q (.lst ((wPart j (i + 1) (wAll n i)).map V.int))) ⟨_, rfl, rfl⟩ ?_ ?_⟩
      · rintro j σ H' hj ⟨v, rfl, rfl⟩
        have hj' : j < n - i := by omega
        have len : (wPart j (i + 1) (wAll n i)).length = n + 1 := by rw [wPart_len, wAll_len]
        have e1 : (1 + (i : Int) + (j : Int)) = ((i + 1 + j : Nat) : Int) := by omega
        have e2 : (1 + (i : Int) + (j : Int)) - (1 + (i : Int)) = ((j : Nat) : Int) := by omega
        refine ⟨_, rfl, _, rfl, q, _, _, _, rfl, congrArg V.int e1, SqL.of upd_same, atI_nat (getV (by rw [len]; omega)), ?_⟩
        refine ⟨_, rfl, _, rfl, _, rfl, _, _, rfl, rfl, q, _, _, _, rfl, congrArg V.int e2, SqL.of upd_same, atI_nat (getV (by rw [len]; omega)), ?_⟩
        refine ⟨_, _, rfl, rfl, ?_⟩
        refine ⟨_, rfl, _, rfl, q, _, _, i + 1 + j, rfl, rfl, upd_same, (by rw [e1]; exact ixN_nat (by rw [List.length_map, len]; omega)), ⟨_, rfl, ?_⟩⟩
        rw [upd_upd, wPart_succ, ← List.map_set]
        unfold wIn
        rw [show i + 1 + j - (i + 1) = j by omega]
      · rintro σ H' ⟨v, rfl, rfl⟩
        refine ⟨_, _, rfl, ?_⟩
        rw [wAll_succ, show ((n : Int) + 1 - (1 + (i : Int))).toNat = n - i by omega]
    · rintro σ H' ⟨u, v, rfl, rfl⟩
      have e3 : ((n : Int) + 1 - 1).toNat = n := by omega
      rw [e3]
      exact ⟨_, rfl, k _ q (sm _) nqH upd_same⟩
end
end Lk

set_option Elab.async false
set_option linter.all false
set_option maxRecDepth 100000
set_option maxHeartbeats 4000000
set_option exponentiation.threshold 10000
namespace Lk
open PySem L2 Vx
theorem pick6 {p : Int} (h : p ∈ [(2 : Int), 3, 5, 7, 11, 997]) : isP p = true ∧ 2 ≤ p ∧ p ≤ 997 := by
  refine ⟨some_primes p h, ?_⟩
  have : ∀ q ∈ [(2 : Int), 3, 5, 7, 11, 997], 2 ≤ q ∧ q ≤ 997 := by decide
  exact this p h
theorem abs_mul_le {x y : Int} {a b : Nat} (h1 : x.natAbs ≤ a) (h2 : y.natAbs ≤ b) : (x * y).natAbs ≤ a * b := by
  rw [Int.natAbs_mul]; exact Nat.mul_le_mul h1 h2
theorem pick5 {p m : Int} (p2 : 2 ≤ p) (p9 : p ≤ 997) (h : m ∈ [(1 : Int), p, p * p, -1, -p]) : m ≠ 0 ∧ m.natAbs ≤ 994009 := by
  have pp : (p * p).natAbs ≤ 997 * 997 := abs_mul_le (by omega) (by omega)
  have p0 : p * p ≠ 0 := Int.mul_ne_zero (by omega) (by omega)
  simp only [List.mem_cons, List.mem_nil_iff, or_false] at h
  rcases h with rfl | rfl | rfl | rfl | rfl
  · exact ⟨by decide, by decide⟩
  · exact ⟨by omega, by omega⟩
  · exact ⟨p0, pp⟩
  · exact ⟨by decide, by decide⟩
  · exact ⟨by omega, by omega⟩
theorem pick2 {p m : Int} (p2 : 2 ≤ p) (p9 : p ≤ 997) (h : m ∈ [(1 : Int), p, p * p * p]) : 1 ≤ m ∧ m.natAbs ≤ 991026973 := by
  have pp : (p * p * p).natAbs ≤ 994009 * 997 := abs_mul_le (abs_mul_le (a := 997) (b := 997) (by omega) (by omega)) (by omega)
  have p0 : 0 < p * p * p := Int.mul_pos (Int.mul_pos (by omega) (by omega)) (by omega)
  simp only [List.mem_cons, List.mem_nil_iff, or_false] at h
  rcases h with rfl | rfl | rfl
  · exact ⟨by decide, by decide⟩
  · exact ⟨by omega, by omega⟩
  · exact ⟨by omega, pp⟩
section
variable {P : Program} {w : World} {K : PySem.W.Frag} {mg : Str → Option Value} {base : Heap} {C CE CR CO CPr : Addr}
abbrev sAv : Stmt := top 51
abbrev nAv : List Str := ["_law_dice_here", "_law_prime", "_law_top", "_law_bottom", "_law_due"]
theorem scAv : FnScope nAv ["_law_dice_here"] (defScope sAv) := ⟨rfl, rfl, rfl, by decide +kernel, rfl, by decide +kernel, by decide +kernel⟩
def spDc : Sp := fun vs H Q _ => ∃ p : Addr, vs = [.ref p] ∧ DicAt H p ∧ ∀ H' : Hp, Kq p H H' → DicAt H' p → Q (.bl true) H'
theorem mem_of {l : List Int} {i : Nat} {x : V} (h : (l.map V.int)[i]? = some x) : ∃ m, m ∈ l ∧ x = .int m := by
  rw [List.getElem?_map] at h
  obtain ⟨m, hm, rfl⟩ := Option.map_eq_some_iff.mp h
  exact ⟨m, List.mem_of_getElem? hm, rfl⟩
theorem ok_av {f : Addr} {fd : FuncData} (F : Fun K "_law_are_valued" "_law_are_valued" sAv f fd) (G : Gn K mg C) (R : HRoll P w K mg base) (Pk : HPick P w K mg base) (My : Has P w K mg base "_law_many_in" 1 ["_law_prime", "_law_number"] spMany)
    (Rt : HRatioK P w K mg base C CE) (Vl : HasX P w K mg base "valuation" 6 ["prime", "number"] (spVal K C CR CO CPr)) :
    FnOk P w K mg base (L2.CX P w) 7 f fd ["_law_dice_here"] spDc := by
  obtain ⟨fR, dR, GR, mR, kR, bR⟩ := R
  obtain ⟨fP, dP, GP, mP, kP, bP⟩ := Pk
  obtain ⟨fM, dM, GM, mM, kM, bM⟩ := My
  obtain ⟨fI, dI, GI, M, bI, ds, vd, bD⟩ := Rt
  obtain ⟨fV, dV, GV, mV, kV_, bV⟩ := Vl
  refine F.okX scAv (fun vs H Q E h => ?_) (fun cdv A outer s H vs Q E hr h => ?_)
  · obtain ⟨p, rfl, _⟩ := h
    rfl
  · obtain ⟨p, rfl, ⟨a, b, c, hp⟩, k⟩ := h
    refine ⟨_, pss_cons (ps_set (i := 1) scAv.nd rfl (.inl rfl) (pe_call GP (hr.mono (by decide)) rfl mP kP bP .nil pass0 (pa_cons (pv 0) (pa_cons (pe_lst (pa_cons pe_int (pa_cons pe_int (pa_cons pe_int (pa_cons pe_int (pa_cons pe_int (pa_cons pe_int pa_nil))))))) pa_nil))))
      (pss_cons (ps_set (i := 2) scAv.nd rfl (.inl rfl) (pe_op op_mulW (pe_op op_add pe_int (pe_call GR (hr.mono (by decide)) rfl mR kR bR .nil pass0 (pa_cons (pv 0) (pa_cons (pe_op op_pow pe_int pe_int) pa_nil))))
        (pe_call GP (hr.mono (by decide)) rfl mP kP bP .nil pass0 (pa_cons (pv 0) (pa_cons (pe_lst (pa_cons pe_int (pa_cons (pv 1) (pa_cons (pe_op op_mulW (pv 1) (pv 1)) (pa_cons (pe_un un_neg pe_int) (pa_cons (pe_un un_neg (pv 1)) pa_nil)))))) pa_nil)))))
      (pss_cons (ps_set (i := 3) scAv.nd rfl (.inl rfl) (pe_op op_mulW (pe_op op_add pe_int (pe_call GR (hr.mono (by decide)) rfl mR kR bR .nil pass0 (pa_cons (pv 0) (pa_cons (pe_op op_pow pe_int pe_int) pa_nil))))
        (pe_call GP (hr.mono (by decide)) rfl mP kP bP .nil pass0 (pa_cons (pv 0) (pa_cons (pe_lst (pa_cons pe_int (pa_cons (pv 1) (pa_cons (pe_op op_mulW (pe_op op_mulW (pv 1) (pv 1)) (pv 1)) pa_nil)))) pa_nil)))))
      (pss_cons (ps_set (i := 4) scAv.nd rfl (.inl rfl) (pe_op op_sub (pe_call GM (hr.mono (by decide)) rfl mM kM bM .nil pass0 (pa_cons (pv 1) (pa_cons (pv 2) pa_nil))) (pe_call GM (hr.mono (by decide)) rfl mM kM bM .nil pass0 (pa_cons (pv 1) (pa_cons (pv 3) pa_nil)))))
      (pss_one (ps_ret (pe_and (pe_cmpR op_eq (pe_call GV (hr.mono (by decide)) rfl mV kV_ bV .nil (passes_call (takes_of rfl rfl rfl rfl) (fun _ _ _ _ h => h)) (pa_cons (pv 1) (pa_cons (pe_make M GI (hr.mono (by decide)) rfl G.mgC bI .nil passL (pa_cons (pv 2) (pa_cons (pv 3) pa_nil))) pa_nil))) (pv 4) (nomark _))
        (pe_one (pe_cmpR op_eq (pe_call GV (hr.mono (by decide)) rfl mV kV_ bV .nil (passes_call (takes_of rfl rfl rfl rfl) (fun _ _ _ _ h => h)) (pa_cons (pv 1) (pa_cons (pv 2) pa_nil))) (pe_call GM (hr.mono (by decide)) rfl mM kM bM .nil pass0 (pa_cons (pv 1) (pa_cons (pv 2) pa_nil))) (nomark _))))))))), ?_⟩
    refine ⟨_, rfl, (by show 6 ≤ sizeLine; decide), fun q nq => ?_⟩
    have nqp : q ≠ p := Ne.symm (ne_of_none hp nq)
    refine ⟨p, q, a, b, c, _, rfl, same_new nq _ _ hp, SqL.of upd_same, nqp, (by show 0 < 6; decide), (by show 6 < 1000; decide), fun i x a1 c1 hx => ?_⟩
    obtain ⟨pr, hpr, rfl⟩ := mem_of (l := [(2 : Int), 3, 5, 7, 11, 997]) hx
    obtain ⟨ip, p2, p9⟩ := pick6 hpr
    have mf := mf_isP ip
    have pb : pr.natAbs < 2 ^ 40 := Nat.lt_of_le_of_lt (show pr.natAbs ≤ 997 by omega) (by decide)
    have k1 : Kq p H (upd (upd H q (.lst ([(2 : Int), 3, 5, 7, 11, 997].map V.int))) p (.lst [.int a1, .int b, .int c1])) := Kq.trans (kq_same (same_new nq)) kq_upd
    have h1 : (upd (upd H q (.lst ([(2 : Int), 3, 5, 7, 11, 997].map V.int))) p (.lst [.int a1, .int b, .int c1])) p = some (.lst [.int a1, .int b, .int c1]) := upd_same
    generalize ehh : upd (upd H q (.lst ([(2 : Int), 3, 5, 7, 11, 997].map V.int))) p (.lst [.int a1, .int b, .int c1]) = H1 at k1 h1
    have ehh2 : upd (upd H q (.lst [V.int 2, V.int 3, V.int 5, V.int 7, V.int 11, V.int 997])) p (.lst [.int a1, .int b, .int c1]) = H1 := ehh
    rw [ehh2]
    clear ehh ehh2
    refine ⟨_, rfl, _, _, rfl, rfl, ⟨by decide, by decide, by decide⟩, p, a1, b, c1, _, rfl, h1, by decide, by decide, fun r1 a2 c2 r0 r9 => ⟨_, _, rfl, rfl, ?_⟩⟩
    refine ⟨_, rfl, _, rfl, _, rfl, _, rfl, pr, pr, rfl, rfl, wide_mul pb pb (by decide) (by decide) (by decide), 1, rfl, _, rfl, pr, rfl, (by show 5 ≤ sizeLine; decide), fun q2 nq2 => ?_⟩
    have pb2 : pr.natAbs < 2 ^ 200 := Nat.lt_of_lt_of_le pb (by decide)
    have ppb : (pr * pr).natAbs < 2 ^ 80 := Nat.lt_of_le_of_lt (abs_mul_le (a := 997) (b := 997) (by omega) (by omega)) (by decide)
    have e20 : (10 : Int) ^ (20 : Int).toNat = 100000000000000000000 := by decide
    rw [e20] at r9
    refine ⟨p, q2, a2, b, c2, _, rfl, same_new nq2 _ _ upd_same, SqL.of upd_same, Ne.symm (ne_of_none upd_same nq2), (by show 0 < 5; decide), (by show 5 < 1000; decide), fun i2 m a3 c3 hx2 => ?_⟩
    obtain ⟨m, hm, rfl⟩ := mem_of (l := [(1 : Int), pr, pr * pr, -1, -pr]) hx2
    obtain ⟨m0, mb⟩ := pick5 p2 p9 hm
    have tb : ((1 + r1) * m).natAbs ≤ 100000000000000000000 * 994009 := abs_mul_le (by omega) mb
    have t0 : (1 + r1) * m ≠ 0 := Int.mul_ne_zero (by omega) m0
    refine ⟨_, _, rfl, rfl, wide_mul (a := 100) (b := 100) (Nat.lt_of_le_of_lt (show (1 + r1).natAbs ≤ 100000000000000000000 by omega) (by decide)) (Nat.lt_of_le_of_lt mb (by decide)) (by decide) (by decide) (by decide), ?_⟩
    have tl : -LONG < ((1 + r1) * m) ∧ ((1 + r1) * m) < LONG := by unfold LONG; omega
    have tb2 : ((1 + r1) * m).natAbs < 2 ^ 200 := Nat.lt_of_le_of_lt tb (by decide)
    refine ⟨_, rfl, _, _, rfl, rfl, ⟨by decide, by decide, by decide⟩, p, a3, b, c3, _, rfl, upd_same, by decide, by decide, fun r2 a4 c4 s0 s9 => ⟨_, _, rfl, rfl, ?_⟩⟩
    have e9 : (10 : Int) ^ (9 : Int).toNat = 1000000000 := by decide
    rw [e9] at s9
    refine ⟨_, rfl, _, rfl, _, rfl, _, rfl, pr, pr, rfl, rfl, wide_mul pb pb (by decide) (by decide) (by decide), _, rfl, _, pr, rfl, rfl, wide_mul ppb pb (by decide) (by decide) (by decide), (by show 3 ≤ sizeLine; decide), fun q3 nq3 => ?_⟩
    refine ⟨p, q3, a4, b, c4, _, rfl, same_new nq3 _ _ upd_same, SqL.of upd_same, Ne.symm (ne_of_none upd_same nq3), (by show 0 < 3; decide), (by show 3 < 1000; decide), fun i3 m2 a5 c5 hx3 => ?_⟩
    obtain ⟨m2, hm2, rfl⟩ := mem_of (l := [(1 : Int), pr, pr * pr * pr]) hx3
    obtain ⟨m20, mb2⟩ := pick2 p2 p9 hm2
    have bb : ((1 + r2) * m2).natAbs ≤ 1000000000 * 991026973 := abs_mul_le (by omega) mb2
    have b0 : (1 + r2) * m2 ≠ 0 := Int.mul_ne_zero (by omega) (by omega)
    refine ⟨_, _, rfl, rfl, wide_mul (a := 100) (b := 100) (Nat.lt_of_le_of_lt (show (1 + r2).natAbs ≤ 1000000000 by omega) (by decide)) (Nat.lt_of_le_of_lt mb2 (by decide)) (by decide) (by decide) (by decide), ?_⟩
    have bl : -LONG < ((1 + r2) * m2) ∧ ((1 + r2) * m2) < LONG := by unfold LONG; omega
    have bb2 : ((1 + r2) * m2).natAbs < 2 ^ 200 := Nat.lt_of_le_of_lt bb (by decide)
    have kQ := fun (H' : Hp) (s : Same _ H') => k H' (Kq.trans k1 (Kq.trans kq_upd (Kq.trans (kq_same (same_new nq2 (o := .lst [V.int 1, V.int pr, V.int (pr * pr), V.int (-1), V.int (-pr)]))) (Kq.trans kq_upd (Kq.trans kq_upd (Kq.trans (kq_same (same_new nq3 (o := .lst [V.int 1, V.int pr, V.int (pr * pr * pr)]))) (Kq.trans (kq_upd (o := .lst [.int a5, .int b, .int c5])) (kq_same s)))))))) (dic_same s dic_upd)
    refine ⟨_, rfl, _, rfl, pr, ((1 + r1) * m), rfl, p2, pb2, t0, tb2, fun ta t1 t2 => ⟨_, rfl, _, rfl, pr, ((1 + r2) * m2), rfl, p2, pb2, b0, bb2, fun tbb b1 b2 => ⟨_, _, rfl, rfl, ?_⟩⟩⟩
    refine ⟨_, rfl, _, rfl, _, rfl, fun x dx nx nd ne => ⟨x, dx, _, _, true, true, rfl, upd_same, kd_short tl.1 tl.2, kd_short bl.1 bl.2, (fun z => nomatch z), (fun _ z => nomatch z), fun t b et eb _ _ => ?_⟩⟩
    cases et
    cases eb
    refine ⟨fun z => absurd z b0, fun _ H5 bu hx5 => ⟨rfl, ?_⟩⟩
    have s5 := but_mk2 nx nd bu
    have lT0 : lT ((1 + r1) * m) ((1 + r2) * m2) ≠ 0 := fun z => by
      have := lT_mul (t := ((1 + r1) * m)) b0
      rw [z, Int.zero_mul] at this
      exact t0 this.symm
    have lB0 : lB ((1 + r1) * m) ((1 + r2) * m2) ≠ 0 := by have := lB_pos (t := ((1 + r1) * m)) b0; omega
    refine ⟨V.int pr, .ref x, rfl, .inr ⟨pr, rfl, ip, p9, .inr (.inr ⟨lT ((1 + r1) * m) ((1 + r2) * m2), lB ((1 + r1) * m) ((1 + r2) * m2), .inl ⟨x, rfl, dx, hx5⟩, lT0, lB0, fun H6 u v s6 u1 u2 v1 v2 => ?_⟩)⟩⟩
    have e1 := val_diff mf t0 b0 u1 u2 v1 v2 t1 t2 b1 b2
    refine ⟨_, rfl, rfl, _, rfl, ?_⟩
    rw [decide_eq_true (show V.int ((u : Int) - v) = V.int ((ta : Int) - tbb) from congrArg V.int e1)]
    refine ⟨_, rfl, _, rfl, V.int pr, V.int ((1 + r1) * m), rfl, .inr ⟨pr, rfl, ip, p9, .inr (.inr ⟨((1 + r1) * m), 1, .inr ⟨rfl, rfl, tl.1, tl.2⟩, t0, by decide, fun H7 u' v' s7 x1 x2 y1 y2 => ?_⟩)⟩⟩
    refine ⟨_, rfl, _, rfl, pr, ((1 + r1) * m), rfl, p2, pb2, t0, tb2, fun tc c1' c2' => ⟨rfl, ?_⟩⟩
    have e2 := pow_uniq x1 x2 c1' c2'
    have e3 : 0 = v' := pow_uniq (g := pr) (n := 1) (by rw [Int.pow_zero]; exact Int.dvd_refl 1) (fun z => by
      rw [Nat.zero_add, Int.pow_one] at z
      have := Int.le_of_dvd (by decide) z
      omega) y1 y2
    rw [decide_eq_true (show V.int ((u' : Int) - v') = V.int (tc : Int) from congrArg V.int (by omega))]
    exact kQ _ (Same.tr s5 (Same.tr s6 s7))
end
end Lk

set_option Elab.async false
set_option linter.all false
set_option maxRecDepth 100000
set_option maxHeartbeats 8000000
set_option exponentiation.threshold 10000
namespace Lk
open PySem L2 Vx
theorem bin_good {K : PySem.W.Frag} {CE : Addr} {H : Hp} {Q : VK} {E : XK} {i j : Int} (i0 : 0 ≤ i) (i1 : i ≤ 1000) (j0 : 0 ≤ j) (j1 : j ≤ 1000) (k : Q (.int (PySem.W.mcComb i j)) H) : spBin K CE [.int i, .int j] H Q E := by
  refine ⟨_, _, true, true, rfl, kd_short (by unfold LONG; omega) (by unfold LONG; omega), kd_short (by unfold LONG; omega) (by unfold LONG; omega), fun z => ?_, fun i' _ ei _ _ => ⟨fun z => ?_, fun j' _ ej _ _ => ?_⟩⟩
  · rcases z with z | ⟨i', e, z⟩
    · cases z
    · cases e; omega
  · rcases z with z | ⟨j', e, z⟩
    · cases z
    · cases e; omega
  · cases ei; cases ej; exact k
theorem prow_at {i j : Nat} {u v : V} (h1 : ((0 :: prow i).map V.int)[j]? = some u) (h2 : ((prow i ++ [0]).map V.int)[j]? = some v) : ∃ x y : Int, u = .int x ∧ v = .int y ∧ (prow (i + 1))[j]? = some (x + y) := by
  rw [List.getElem?_map] at h1 h2
  obtain ⟨x, hx, rfl⟩ := Option.map_eq_some_iff.mp h1
  obtain ⟨y, hy, rfl⟩ := Option.map_eq_some_iff.mp h2
  refine ⟨x, y, rfl, rfl, ?_⟩
  show (List.zipWith (· + ·) (0 :: prow i) (prow i ++ [0]))[j]? = some (x + y)
  rw [List.getElem?_zipWith, hx, hy]
theorem cut_inner {l : List Int} (h : 2 ≤ l.length) : cutV (l.map V.int) (some 1) (some (-1)) = (inner l).map V.int := by
  unfold cutV inner
  have e1 : HT.sIx (l.map V.int).length 0 (some 1) = 1 := by
    rw [List.length_map]
    show (if (1 : Int) < 0 then ((1 : Int) + (l.length : Int)).toNat else min (1 : Int).toNat l.length) = 1
    rw [if_neg (by decide)]
    show min 1 l.length = 1
    omega
  have e2 : HT.sIx (l.map V.int).length (l.map V.int).length (some (-1)) = l.length - 1 := by
    rw [List.length_map]
    show (if (-1 : Int) < 0 then ((-1 : Int) + (l.length : Int)).toNat else min (-1 : Int).toNat l.length) = l.length - 1
    rw [if_pos (by decide)]
    omega
  rw [e1, e2, List.dropLast_eq_take, List.map_take, List.map_drop, List.length_drop]
section
variable {P : Program} {w : World} {K : PySem.W.Frag} {mg : Str → Option Value} {base : Heap} {CE CT : Addr}
abbrev sRo : Stmt := top 52
abbrev nRo : List Str := ["_law_dice_here", "_law_top", "_law_row", "_law_turn", "_law_shared", "_law_number", "_law_far", "_law_primes", "_law_due", "_law_one", "_law_other", "_law_low"]
theorem scRo : FnScope nRo ["_law_dice_here"] (defScope sRo) := ⟨rfl, rfl, rfl, by decide +kernel, rfl, by decide +kernel, by decide +kernel⟩
theorem ok_ro {f : Addr} {fd : FuncData} (F : Fun K "_law_rows_right" "_law_rows_right" sRo f fd) (R : HRoll P w K mg base) (Gc : Has P w K mg base "_law_gcd" 1 ["_law_one", "_law_other"] spGcd) (Nu : HNu P w K mg base)
    (Bi : HasX P w K mg base "binomial" 5 ["top", "low"] (spBin K CE)) (Sd : HasX P w K mg base "step_divisor" 6 ["number"] (spSd K)) (Cd : Has P w K mg base "common_divisor" 3 ["numbers"] (spCd K))
    (mR : mg "range" = none) (mZ : mg "zip" = none) (mT : mg "tuple" = none) (mN : mg "len" = none) :
    FnOk P w K mg base (L2.CX P w) 7 f fd ["_law_dice_here"] spDc := by
  obtain ⟨fR, dR, GR, mfR, kR, bR⟩ := R
  obtain ⟨fG, dG, GG, mG, kG, bG⟩ := Gc
  obtain ⟨fN, dN, GN, mfN, kN, bN⟩ := Nu
  obtain ⟨fB, dB, GB, mB, kB, bB⟩ := Bi
  obtain ⟨fS, dS, GS, mS, kS, bS⟩ := Sd
  obtain ⟨fC, dC, GC, mC, kC, bC⟩ := Cd
  refine F.okX scRo (fun vs H Q E h => ?_) (fun cdv A outer s H vs Q E hr h => ?_)
  · obtain ⟨p, rfl, _⟩ := h
    rfl
  · obtain ⟨p, rfl, ⟨a, b, c, hp⟩, k⟩ := h
    refine ⟨_, pss_cons (ps_asg (pe_tup (pa_cons (pe_op op_add pe_int (pe_call GR (hr.mono (by decide)) rfl mfR kR bR .nil pass0 (pa_cons (pv 0) (pa_cons pe_int pa_nil)))) (pa_cons (pe_lst (pa_cons pe_int pa_nil)) pa_nil))) (pg_tup rfl (pgs_cons (pg_name (i := 1) scRo.nd rfl (.inr rfl)) (pgs_cons (pg_name (i := 2) scRo.nd rfl (.inl rfl)) pgs_nil))))
      (pss_cons (ps_for (passes_of rfl) rfl (pi_range1 rfl mR (pa_cons (pv 1) pa_nil)) (pg_name (i := 3) scRo.nd rfl (.inl rfl))
        (pss_one (ps_setLc (i := 2) (own := [("_law_one", 9), ("_law_other", 10)]) (g := gTup K 2 (gCons (gName 9) (gCons (gName 10) gNil))) (tt := tYes) rfl scRo.nd rfl rfl (sw_true rfl rfl rfl (by decide +kernel)) (pi_zip rfl mZ (pa_cons (pe_op op_cat (pe_lst (pa_cons pe_int pa_nil)) (pv 2)) (pa_cons (pe_op op_cat (pv 2) (pe_lst (pa_cons pe_int pa_nil))) pa_nil)))
          (blkOk_by (N := nRo) (sc := defScope sRo) (by decide +kernel)) (fun _ _ _ _ _ => pg_tup rfl (pgs_cons (pg_name (i := 9) scRo.nd rfl (.inl rfl)) (pgs_cons (pg_name (i := 10) scRo.nd rfl (.inl rfl)) pgs_nil))) (fun _ _ _ _ _ => pts_nil) (fun _ _ _ _ _ => pe_op op_add (pv 9) (pv 10)))))
      (pss_cons (ps_if (pt_cmpR (op_neD hr.units) (pe_lc (own := [("_law_low", 11)]) (g := gName 11) (tt := tYes) rfl scRo.nd (pi_range1 rfl mR (pa_cons (pe_op op_add (pv 1) pe_int) pa_nil)) (blkOk_by (N := nRo) (sc := defScope sRo) (by decide +kernel))
            (fun _ _ _ _ _ => pg_name (i := 11) scRo.nd rfl (.inl rfl)) (fun _ _ _ _ _ => pts_nil) (fun _ _ _ _ _ => pe_call GB (hr.mono (by decide)) rfl mB kB bB .nil passL (pa_cons (pv 1) (pa_cons (pv 11) pa_nil))))
          (pe_op op_cat (pv 2) (pe_lst (pa_cons pe_int pa_nil))) (nomark _)) pss_never pss_nil)
      (pss_cons (ps_set (i := 4) scRo.nd rfl (.inl rfl) pe_int)
      (pss_cons (ps_for (passes_of rfl) rfl (pi_list (pe_slice sl_list (pv 2) (po_some pe_int) (po_some (pe_un un_neg pe_int)))) (pg_name (i := 5) scRo.nd rfl (.inl rfl))
        (pss_one (ps_set (i := 4) scRo.nd rfl (.inl rfl) (pe_call GG (hr.mono (by decide)) rfl mG kG bG .nil pass0 (pa_cons (pv 4) (pa_cons (pv 5) pa_nil))))))
      (pss_cons (ps_set (i := 6) scRo.nd rfl (.inl rfl) (pe_op op_add pe_int (pe_call GR (hr.mono (by decide)) rfl mfR kR bR .nil pass0 (pa_cons (pv 0) (pa_cons pe_int pa_nil)))))
      (pss_cons (ps_setLc (i := 7) (own := [("_law_one", 9)]) (g := gName 9) (tt := tYes) rfl scRo.nd rfl rfl (sw_true rfl rfl rfl (by decide +kernel)) (pi_list (pe_call GN (hr.mono (by decide)) rfl mfN kN bN .nil pass0 (pa_cons (pv 6) pa_nil)))
          (blkOk_by (N := nRo) (sc := defScope sRo) (by decide +kernel)) (fun _ _ _ _ _ => pg_name (i := 9) scRo.nd rfl (.inl rfl)) (fun _ _ _ _ _ => pts_nil) (fun _ _ _ _ _ => pv 9))
      (pss_cons (ps_set (i := 8) scRo.nd rfl (.inl rfl) (pe_ifExp (pt_cmpR op_eq (pe_bm PySem.F.plainAttrs_list PySem.F.slot_list_count PySem.F.type_list_count mt_lcount (pv 7) (pa_cons (pe_ix ix_list (pv 7) pe_int (fun _ _ => rfl)) pa_nil)) (pe_callB call_len_seq (by rfl) mN (by decide +kernel) (pa_cons (pv 7) pa_nil)) (nomark _))
          (pe_ix ix_list (pv 7) pe_int (fun _ _ => rfl)) pe_int))
      (pss_cons (ps_if (PW.pt (pw_or (pt_cmpR op_ne (pe_call GS (hr.mono (by decide)) rfl mS kS bS .nil passL (pa_cons (pv 1) pa_nil)) (pv 4) (nomark _))
          (pw_or (pt_cmpR op_ne (pe_call GS (hr.mono (by decide)) rfl mS kS bS .nil passL (pa_cons (pv 6) pa_nil)) (pv 8) (nomark _))
          (pw_or1 (pt_cmpR op_ne (pe_call GC (hr.mono (by decide)) rfl mC kC bC .nil pass0 (pa_cons (pe_callTy call_tuple_of (by rfl) mT (by decide +kernel) (pa_cons (pe_slice sl_list (pv 2) (po_some pe_int) (po_some (pe_un un_neg pe_int))) pa_nil)) pa_nil)) (pv 4) (nomark _)))))) pss_never pss_nil)
      (pss_one (ps_ret (pe_cmpR op_eq (pe_call GB (hr.mono (by decide)) rfl mB kB bB .nil passL (pa_cons pe_int (pa_cons (pe_op op_add pe_int (pv 1)) pa_nil))) (pe_call GB (hr.mono (by decide)) rfl mB kB bB .nil passL (pa_cons pe_int (pa_cons (pe_op op_sub pe_int (pv 1)) pa_nil))) (nomark _)))))))))))), ?_⟩
    refine ⟨_, rfl, p, a, b, c, 40, rfl, hp, by decide, by decide, fun r a1 c1 r0 r1 => ⟨_, _, rfl, rfl, ?_⟩⟩
    obtain ⟨t, rfl⟩ : ∃ t : Nat, r = (t : Int) := ⟨r.toNat, by omega⟩
    have t40 : t < 40 := by omega
    have etop : (2 + (t : Int)) = ((t + 2 : Nat) : Int) := by omega
    have k1 : Kq p H (upd H p (.lst [.int a1, .int b, .int c1])) := kq_upd
    have h1 : (upd H p (.lst [.int a1, .int b, .int c1])) p = some (.lst [.int a1, .int b, .int c1]) := upd_same
    generalize upd H p (.lst [.int a1, .int b, .int c1]) = H1 at *
    refine ⟨(by show 1 ≤ sizeLine; decide), fun rw0 nrw => ?_⟩
    refine ⟨(by show 2 ≤ sizeLine; decide), fun tp ntp => ?_⟩
    refine ⟨tp, _, rfl, SqT.of upd_same, rfl, _, _, rfl, _, _, rfl, rfl, ?_⟩
    have s2 : Same H1 (upd (upd H1 rw0 (.lst [V.int 1])) tp (.tup [.int (2 + (t : Int)), .ref rw0])) := Same.tr (same_new nrw) (same_new ntp)
    have hr2 : (upd (upd H1 rw0 (.lst [V.int 1])) tp (.tup [.int (2 + (t : Int)), .ref rw0])) rw0 = some (.lst [V.int 1]) := same_new ntp _ _ upd_same
    generalize upd (upd H1 rw0 (.lst [V.int 1])) tp (.tup [.int (2 + (t : Int)), .ref rw0]) = H2 at *
    refine ⟨_, rfl, 2 + (t : Int), rfl, by omega, by omega, for_range (fun i σ H' => ∃ (ra : Addr) (tv : Option V), σ = [some (.ref p), some (.int (2 + (t : Int))), some (.ref ra), tv, none, none, none, none, none, none, none, none] ∧ Same H1 H' ∧ H' ra = some (.lst ((prow i).map V.int)) ∧ p ≠ ra) ?_ ?_ ?_⟩
    · exact ⟨rw0, _, rfl, s2, hr2, ne_of_none h1 nrw⟩
    · rintro i σ H' hi ⟨ra, tv, rfl, sm, hra, npra⟩
      have hi' : i < t + 2 := by omega
      have pl := prow_len i
      refine ⟨(by show 1 ≤ sizeLine; decide), fun z1 n1 => ?_⟩
      refine ⟨_, rfl, z1, ra, _, _, rfl, rfl, upd_same, same_new n1 _ _ hra, Nat.le_trans (show ([V.int 0] : List V).length + ((prow i).map V.int).length ≤ 50 by rw [List.length_map, pl]; show 1 + (i + 1) ≤ 50; omega) (by decide), fun za nza => ?_⟩
      have sa : Same H' (upd (upd H' z1 (.lst [V.int 0])) za (.lst ([V.int 0] ++ (prow i).map V.int))) := Same.tr (same_new n1) (same_new nza)
      have hza : (upd (upd H' z1 (.lst [V.int 0])) za (.lst ([V.int 0] ++ (prow i).map V.int))) za = some (.lst ((0 :: prow i).map V.int)) := upd_same
      generalize upd (upd H' z1 (.lst [V.int 0])) za (.lst ([V.int 0] ++ (prow i).map V.int)) = Ha at *
      refine ⟨_, rfl, (by show 1 ≤ sizeLine; decide), fun z2 n2 => ?_⟩
      refine ⟨ra, z2, _, _, rfl, rfl, same_new n2 _ _ (sa _ _ hra), upd_same, Nat.le_trans (show ((prow i).map V.int).length + ([V.int 0] : List V).length ≤ 50 by rw [List.length_map, pl]; show (i + 1) + 1 ≤ 50; omega) (by decide), fun zb nzb => ?_⟩
      have sb : Same Ha (upd (upd Ha z2 (.lst [V.int 0])) zb (.lst ((prow i).map V.int ++ [V.int 0]))) := Same.tr (same_new n2) (same_new nzb)
      have hzb : (upd (upd Ha z2 (.lst [V.int 0])) zb (.lst ((prow i).map V.int ++ [V.int 0]))) zb = some (.lst ((prow i ++ [0]).map V.int)) := by rw [upd_same, List.map_append]; rfl
      generalize upd (upd Ha z2 (.lst [V.int 0])) zb (.lst ((prow i).map V.int ++ [V.int 0])) = Hb at *
      have hza2 := sb _ _ hza
      refine ⟨za, zb, _, _, rfl, SqL.of hza2, SqL.of hzb, fun D hD => ?_⟩
      refine turns (walk_zip (xs := (0 :: prow i).map V.int) (ys := (prow i ++ [0]).map V.int) (n := i + 2) (by simp only [List.length_map, List.length_cons, List.length_append, pl, List.length_nil]; omega)) (fun j H'' => Same Hb H'' ∧ H'' D = some (.lst (((prow (i + 1)).take j).map V.int))) ⟨same_new hD, upd_same⟩ ?_ ?_ ?_
      · rintro j H'' _ ⟨s, _⟩
        exact ⟨SqL.of (s _ _ hza2), SqL.of (s _ _ hzb)⟩
      · rintro j x H'' H3 hj ⟨s, hDj⟩ ⟨T, u, v, rfl, nT, rfl, eu, ev⟩
        obtain ⟨x, y, rfl, rfl, exy⟩ := prow_at eu ev
        refine ⟨T, _, rfl, SqT.of upd_same, rfl, _, _, rfl, _, _, rfl, rfl, rfl, ?_⟩
        refine ⟨_, rfl, _, rfl, _, _, rfl, rfl, ((prow (i + 1)).take j).map V.int, same_new nT _ _ hDj, ?_, ?_, ?_⟩
        · rw [List.length_map, List.length_take, prow_len]
          exact Nat.lt_of_le_of_lt (show min j (i + 1 + 1) ≤ 50 by omega) (by decide)
        · exact same_put (Same.tr s (same_new nT)) hD
        · rw [upd_same, List.take_add_one, exy, List.map_append]
          rfl
      · rintro H'' ⟨s, hDj⟩
        refine ⟨D, _, rfl, Same.tr sm (Same.tr sa (Same.tr sb s)), ?_, ne_of_none (sb _ _ (sa _ _ (sm _ _ h1))) hD⟩
        rw [hDj, List.take_of_length_le (by rw [prow_len]; omega)]
    · rintro σ H' ⟨ra, tv, rfl, sm, hra, npra⟩
      have et : (2 + (t : Int)).toNat = t + 2 := by omega
      rw [et] at hra
      have pl := prow_len (t + 2)
      refine ⟨_, rfl, _, _, rfl, rfl, 2 + (t : Int) + 2, rfl, by omega, by omega, fun D hD => ?_⟩
      refine turns walk_range (fun j H'' => Same H' H'' ∧ H'' D = some (.lst (((List.range j).map fun l => PySem.W.mcComb ((t + 2 : Nat) : Int) (l : Nat)).map V.int))) ⟨same_new hD, upd_same⟩ ?_ ?_ ?_
      · intro j H'' _ _
        trivial
      · rintro j x H'' H3 hj ⟨s, hDj⟩ ⟨rfl, rfl⟩
        have hj' : j < t + 4 := by omega
        refine ⟨rfl, ?_⟩
        refine ⟨_, rfl, _, rfl, ?_⟩
        dsimp only [tNil, List.append_nil]
        refine bin_good (by omega) (by omega) (by omega) (by omega) ⟨_, hDj, ?_, same_put s hD, ?_⟩
        · rw [List.length_map, List.length_map, List.length_range]
          exact Nat.lt_of_le_of_lt (show j ≤ 50 by omega) (by decide)
        · rw [upd_same, List.range_succ, List.map_append, List.map_append, etop, Int.zero_add]
          rfl
      · rintro H3 ⟨s3, hD3⟩
        have en : (2 + (t : Int) + 2).toNat = t + 4 := by omega
        rw [en, comb_row ⟨t, t40⟩] at hD3
        have hra3 := s3 _ _ hra
        refine ⟨_, rfl, (by show 1 ≤ sizeLine; decide), fun z nz => ?_⟩
        refine ⟨ra, z, _, _, rfl, rfl, same_new nz _ _ hra3, upd_same, Nat.le_trans (show ((prow (t + 2)).map V.int).length + ([V.int 0] : List V).length ≤ 50 by rw [List.length_map, pl]; show (t + 2 + 1) + 1 ≤ 50; omega) (by decide), fun z2 nz2 => ?_⟩
        have s4 : Same H3 (upd (upd H3 z (.lst [V.int 0])) z2 (.lst ((prow (t + 2)).map V.int ++ [V.int 0]))) := Same.tr (same_new nz) (same_new nz2)
        have hz4 : (upd (upd H3 z (.lst [V.int 0])) z2 (.lst ((prow (t + 2)).map V.int ++ [V.int 0]))) z2 = some (.lst ((prow (t + 2) ++ [0]).map V.int)) := by rw [upd_same, List.map_append]; rfl
        generalize upd (upd H3 z (.lst [V.int 0])) z2 (.lst ((prow (t + 2)).map V.int ++ [V.int 0])) = H4 at *
        refine ⟨_, _, .lst (SqL.of (s4 _ _ hD3)) (dp_ints _), .lst (SqL.of hz4) (dp_ints _), (sh_ints _).1, (sh_ints _).1, ?_⟩
        rw [(sh_ints _).2]
        refine ⟨_, rfl, itF rfl ?_⟩
        have hra4 := s4 _ _ hra3
        have sm4 : Same H1 H4 := Same.tr sm (Same.tr s3 s4)
        refine ⟨_, rfl, 1, rfl, 1, rfl, -1, rfl, ra, _, rfl, SqL.of hra4, fun sl nsl => ?_⟩
        rw [cut_inner (by omega)]
        have s5 : Same H1 (upd H4 sl (.lst ((inner (prow (t + 2))).map V.int))) := Same.tr sm4 (same_new nsl)
        have hsl : (upd H4 sl (.lst ((inner (prow (t + 2))).map V.int))) sl = some (.lst ((inner (prow (t + 2))).map V.int)) := upd_same
        have hra5 : (upd H4 sl (.lst ((inner (prow (t + 2))).map V.int))) ra = some (.lst ((prow (t + 2)).map V.int)) := same_new nsl _ _ hra4
        generalize upd H4 sl (.lst ((inner (prow (t + 2))).map V.int)) = H5 at *
        refine ⟨sl, rfl, ⟨_, SqL.of hsl⟩, for_list (xs := (inner (prow (t + 2))).map V.int) (fun i σ H' => H' = H5 ∧ ∃ u v : Option V, σ = [some (.ref p), some (.int (2 + (t : Int))), some (.ref ra), u, some (.int (gcdL ((inner (prow (t + 2))).take i))), v, none, none, none, none, none, none]) ⟨rfl, _, _, rfl⟩ ?_ ?_ ?_⟩
        · rintro i σ H' _ ⟨rfl, _⟩
          exact SqL.of hsl
        · rintro i x σ H' hx ⟨rfl, u, v, rfl⟩
          rw [List.getElem?_map] at hx
          obtain ⟨n, hn, rfl⟩ := Option.map_eq_some_iff.mp hx
          refine ⟨_, rfl, _, rfl, _, _, rfl, rfl, u, some (.int n), ?_⟩
          rw [gcd_take hn]
          rfl
        · rintro σ H' ⟨rfl, u, v, rfl⟩
          rw [List.length_map, List.take_length]
          have h5p := s5 _ _ h1
          refine ⟨_, rfl, p, a1, b, c1, 999, rfl, h5p, by decide, by decide, fun r2 a2 c2 s0 s1 => ⟨_, _, rfl, rfl, ?_⟩⟩
          have k6 : Kq p H (upd H' p (.lst [.int a2, .int b, .int c2])) := Kq.trans k1 (Kq.trans (kq_same s5) kq_upd)
          have hd6 : DicAt (upd H' p (.lst [.int a2, .int b, .int c2])) p := dic_upd
          have hra6 : (upd H' p (.lst [.int a2, .int b, .int c2])) ra = some (.lst ((prow (t + 2)).map V.int)) := by rw [upd_ne (Ne.symm npra)]; exact hra5
          generalize upd H' p (.lst [.int a2, .int b, .int c2]) = H6 at *
          refine ⟨_, rfl, 2 + r2, rfl, by omega, by omega, fun H7 q l s7 nq hq fl l31 => ?_⟩
          obtain ⟨prs, ep, fz, pq, pp⟩ := ppd_is (n := 2 + r2) (by omega) (by omega)
          have el := fl.uniq fz
          subst el
          refine ⟨q, rfl, ⟨_, SqL.of hq⟩, fun D2 hD2 => ?_⟩
          have nD2 : q ≠ D2 := ne_of_none hq hD2
          refine lc_list (xs := (xs prs).map V.int) (fun j H'' => H'' = upd H7 D2 (.lst (((xs prs).take j).map V.int))) (by simp) ?_ ?_ ?_
          · rintro j H'' _ rfl
            exact SqL.of (by rw [upd_ne nD2]; exact hq)
          · rintro j x H'' hx rfl
            rw [List.getElem?_map] at hx
            obtain ⟨d, hd, rfl⟩ := Option.map_eq_some_iff.mp hx
            refine ⟨rfl, ?_⟩
            refine ⟨_, rfl, ((xs prs).take j).map V.int, upd_same, ?_, ?_⟩
            · rw [List.length_map, List.length_take]
              exact Nat.lt_of_le_of_lt (show min j (xs prs).length ≤ 31 by omega) (by decide)
            · rw [upd_upd, List.take_add_one, hd, List.map_append]
              rfl
          · rintro H'' rfl
            rw [List.length_map, List.take_length]
            have s8 : Same H6 (upd H7 D2 (.lst ((xs prs).map V.int))) := Same.tr s7 (same_new hD2)
            have hp8 : (upd H7 D2 (.lst ((xs prs).map V.int))) D2 = some (.lst ((xs prs).map V.int)) := upd_same
            generalize upd H7 D2 (.lst ((xs prs).map V.int)) = H8 at *
            have hra8 := s8 _ _ hra6
            obtain ⟨p0, l', exs⟩ : ∃ p0 l', xs prs = p0 :: l' := by
              cases e : xs prs with
              | nil =>
                rw [e] at fl
                have := fl.nil'
                omega
              | cons x y => exact ⟨x, y, rfl⟩
            have ed := sdv_is pq exs
            have at0 : atI ((xs prs).map V.int) 0 = some (.int p0) := by rw [exs]; exact atI_nat (j := 0) rfl
            obtain ⟨prT, eT, _, _, _⟩ := ppd_is (n := 2 + (t : Int)) (by omega) (by omega)
            have eS : sdv prT = gcdL (inner (prow (t + 2))) := by
              rw [← sdvK_is, ← eT, etop]
              exact step_row ⟨t, t40⟩
            refine ⟨_, rfl, .inl ⟨rfl, _, SqL.of hp8⟩, _, rfl, D2, _, 0, _, rfl, rfl, SqL.of hp8, at0, D2, xs prs, p0, rfl, rfl, SqL.of hp8, ?_⟩
            refine ⟨_, rfl, D2, _, rfl, .inl (SqL.of hp8), rfl, _, rfl, ?_⟩
            rw [List.length_map]
            by_cases cc : (xs prs).count p0 = (xs prs).length
            · rw [if_pos cc] at ed
              refine itT (decide_eq_true (by rw [cc])) ?_
              refine ⟨_, rfl, D2, _, 0, _, rfl, rfl, SqL.of hp8, at0, ?_⟩
              refine ⟨_, rfl, 2 + (t : Int), prT, rfl, by omega, by omega, eT, fun H9 s9 => ⟨_, rfl, rfl, _, rfl, itF (by rw [eS, decide_eq_true (show V.int (gcdL (inner (prow (t + 2)))) = V.int (gcdL (inner (prow (t + 2)))) from rfl)]; rfl) ?_⟩⟩
              refine ⟨_, rfl, 2 + r2, prs, rfl, by omega, by omega, ep, fun Ha sa => ⟨_, rfl, rfl, _, rfl, itF (by rw [ed, decide_eq_true (show V.int p0 = V.int p0 from rfl)]; rfl) ?_⟩⟩
              refine ⟨_, rfl, 1, rfl, 1, rfl, -1, rfl, ra, _, rfl, SqL.of (sa _ _ (s9 _ _ hra8)), fun sl2 nsl2 => ?_⟩
              rw [cut_inner (by omega)]
              refine ⟨sl2, _, rfl, .inl ⟨SqL.of upd_same, fun tt ntt => ?_⟩⟩
              refine ⟨tt, inner (prow (t + 2)), rfl, upd_same, ?_, fun n hn => ?_, fun Hc sc => ⟨_, rfl, rfl, _, rfl, itF (by rw [decide_eq_true (show V.int (gcdL (inner (prow (t + 2)))) = V.int (gcdL (inner (prow (t + 2)))) from rfl)]; rfl) ?_⟩⟩
              · unfold inner
                rw [List.length_dropLast, List.length_drop]
                omega
              · have := row_short ⟨t, t40⟩ n (List.mem_of_mem_drop ((List.dropLast_sublist _).subset hn))
                unfold LONG
                omega
              refine ⟨_, rfl, _, _, rfl, rfl, ?_⟩
              dsimp only [tNil, List.append_nil]
              refine bin_good (by decide) (by decide) (by omega) (by omega) ?_
              refine ⟨_, rfl, _, _, rfl, rfl, ?_⟩
              dsimp only [tNil, List.append_nil]
              refine bin_good (by decide) (by decide) (by omega) (by omega) ?_
              refine ⟨rfl, ?_⟩
              rw [etop, comb_far ⟨t, t40⟩, decide_eq_true rfl]
              exact k _ (Kq.trans k6 (kq_same (Same.tr s8 (Same.tr s9 (Same.tr sa (Same.tr (same_new nsl2) (Same.tr (same_new ntt) sc))))))) (dic_same (Same.tr s8 (Same.tr s9 (Same.tr sa (Same.tr (same_new nsl2) (Same.tr (same_new ntt) sc))))) hd6)
            · rw [if_neg cc] at ed
              refine itF (decide_eq_false (fun z => cc (by have := V.int.inj z; omega))) ?_
              refine ⟨_, rfl, 2 + (t : Int), prT, rfl, by omega, by omega, eT, fun H9 s9 => ⟨_, rfl, rfl, _, rfl, itF (by rw [eS, decide_eq_true (show V.int (gcdL (inner (prow (t + 2)))) = V.int (gcdL (inner (prow (t + 2)))) from rfl)]; rfl) ?_⟩⟩
              refine ⟨_, rfl, 2 + r2, prs, rfl, by omega, by omega, ep, fun Ha sa => ⟨_, rfl, rfl, _, rfl, itF (by rw [ed, decide_eq_true (show V.int 1 = V.int 1 from rfl)]; rfl) ?_⟩⟩
              refine ⟨_, rfl, 1, rfl, 1, rfl, -1, rfl, ra, _, rfl, SqL.of (sa _ _ (s9 _ _ hra8)), fun sl2 nsl2 => ?_⟩
              rw [cut_inner (by omega)]
              refine ⟨sl2, _, rfl, .inl ⟨SqL.of upd_same, fun tt ntt => ?_⟩⟩
              refine ⟨tt, inner (prow (t + 2)), rfl, upd_same, ?_, fun n hn => ?_, fun Hc sc => ⟨_, rfl, rfl, _, rfl, itF (by rw [decide_eq_true (show V.int (gcdL (inner (prow (t + 2)))) = V.int (gcdL (inner (prow (t + 2)))) from rfl)]; rfl) ?_⟩⟩
              · unfold inner
                rw [List.length_dropLast, List.length_drop]
                omega
              · have := row_short ⟨t, t40⟩ n (List.mem_of_mem_drop ((List.dropLast_sublist _).subset hn))
                unfold LONG
                omega
              refine ⟨_, rfl, _, _, rfl, rfl, ?_⟩
              dsimp only [tNil, List.append_nil]
              refine bin_good (by decide) (by decide) (by omega) (by omega) ?_
              refine ⟨_, rfl, _, _, rfl, rfl, ?_⟩
              dsimp only [tNil, List.append_nil]
              refine bin_good (by decide) (by decide) (by omega) (by omega) ?_
              refine ⟨rfl, ?_⟩
              rw [etop, comb_far ⟨t, t40⟩, decide_eq_true rfl]
              exact k _ (Kq.trans k6 (kq_same (Same.tr s8 (Same.tr s9 (Same.tr sa (Same.tr (same_new nsl2) (Same.tr (same_new ntt) sc))))))) (dic_same (Same.tr s8 (Same.tr s9 (Same.tr sa (Same.tr (same_new nsl2) (Same.tr (same_new ntt) sc))))) hd6)
end
end Lk

set_option Elab.async false
set_option linter.all false
set_option maxRecDepth 100000
set_option maxHeartbeats 8000000
set_option exponentiation.threshold 10000
namespace Lk
open PySem L2 Vx
theorem tab1 : ∀ c ∈ wSet, (Unicode.isAlpha c = (c == 97 || c == 98 || c == 122 || c == 65)) ∧ (Unicode.isLower c = (c == 97 || c == 98 || c == 122)) ∧ (Unicode.isUpper c || Unicode.isTitle c) = (c == 65) ∧ c < 128 := by decide +kernel
theorem tab2 : ∀ c ∈ wSet, (!(!(Builtin.Str.occurrences "abcdefghijklmnopqrstuvwxyz" ⟨#[c]⟩ 0 (Str.ofString "abcdefghijklmnopqrstuvwxyz").length 1).isEmpty)) = !(c == 97 || c == 98 || c == 122) := by decide +kernel
theorem tab3 : ∀ c ∈ wSet, PyData.canLay0 (.str ⟨#[c]⟩) = true := by decide +kernel
def ch (c : Nat) : Str := ⟨#[c]⟩
def wd (cs : List Nat) : Str := ⟨cs.toArray⟩
def lw (c : Nat) : Bool := c == 97 || c == 98 || c == 122
theorem join_wd : ∀ cs : List Nat, Str.join ("" : Str) (cs.map ch) = wd cs
  | [] => rfl
  | [c] => rfl
  | c :: d :: r => by
    have ih := join_wd (d :: r)
    show ch c ++ ("" : Str) ++ Str.join ("" : Str) ((d :: r).map ch) = wd (c :: d :: r)
    rw [ih]
    show (⟨((#[c] : Array Nat) ++ (Str.ofString "").cps) ++ (d :: r).toArray⟩ : Str) = ⟨(c :: d :: r).toArray⟩
    have e : (Str.ofString "").cps = #[] := by decide +kernel
    rw [e]
    simp
theorem len_sum : ∀ cs : List Nat, ((cs.map ch).map (·.length)).sum = cs.length
  | [] => rfl
  | c :: r => by
    rw [List.map_cons, List.map_cons, List.sum_cons, len_sum r, List.length_cons]
    show 1 + r.length = r.length + 1
    omega
theorem nmd_wd {cs : List Nat} (h : ∀ c ∈ cs, c ∈ wSet) : nmd (wd cs) = (cs.all lw && (decide (1 ≤ cs.length) && decide (cs.length ≤ 8))) := by
  have el : (wd cs).length = cs.length := by show cs.toArray.size = cs.length; simp
  unfold nmd
  rw [el]
  by_cases c8 : 8 < cs.length
  · rw [if_pos c8, decide_eq_false (show ¬ cs.length ≤ 8 by omega)]
    simp
  · rw [if_neg c8, decide_eq_true (show cs.length ≤ 8 by omega), Bool.and_true]
    have ea : Txt.isascii (wd cs) = true := by
      show cs.toArray.all (· < 128) = true
      rw [List.all_toArray, List.all_eq_true]
      intro c hc
      exact decide_eq_true (tab1 c (h c hc)).2.2.2
    have eb : Txt.isalpha (wd cs) = (decide (cs.length > 0) && cs.all Unicode.isAlpha) := by
      show (decide ((wd cs).length > 0) && cs.toArray.all Unicode.isAlpha) = _
      rw [el, List.all_toArray]
    have ec : Txt.islower (wd cs) = (cs.any Unicode.isLower && !cs.any fun c => Unicode.isUpper c || Unicode.isTitle c) := by
      show (cs.toArray.any Unicode.isLower && !cs.toArray.any fun c => Unicode.isUpper c || Unicode.isTitle c) = _
      rw [List.any_toArray, List.any_toArray]
    rw [ea, eb, ec, Bool.true_and]
    by_cases al : cs.all lw = true
    · rw [al, Bool.true_and]
      have a1 : cs.all Unicode.isAlpha = true := List.all_eq_true.mpr fun c hc => by
        have q := List.all_eq_true.mp al c hc
        unfold lw at q
        rw [(tab1 c (h c hc)).1, q]; rfl
      have a3 : (cs.any fun c => Unicode.isUpper c || Unicode.isTitle c) = false := List.any_eq_false.mpr fun c hc => by
        have q := List.all_eq_true.mp al c hc
        rw [(tab1 c (h c hc)).2.2.1]
        intro z
        have := eq_of_beq z
        subst this
        cases q
      rw [a1, a3]
      match cs, al, h with
      | [], _, _ => rfl
      | c :: r, al, h =>
        have q := List.all_eq_true.mp al c List.mem_cons_self
        have : Unicode.isLower c = true := by rw [(tab1 c (h c List.mem_cons_self)).2.1]; exact q
        rw [List.any_cons, this]
        simp
    · have al := eq_false_of_ne_true al
      rw [al, Bool.false_and]
      obtain ⟨c, hc, q⟩ := List.all_eq_false.mp al
      have q : lw c = false := eq_false_of_ne_true q
      obtain ⟨t1, t2, t3, _⟩ := tab1 c (h c hc)
      by_cases c65 : c = 65
      · have : (cs.any fun c => Unicode.isUpper c || Unicode.isTitle c) = true := List.any_eq_true.mpr ⟨c, hc, by rw [t3, c65]; rfl⟩
        rw [this]
        simp
      · have : cs.all Unicode.isAlpha = false := List.all_eq_false.mpr ⟨c, hc, by
          rw [t1]
          unfold lw at q
          rw [q]
          intro z
          rw [Bool.false_or] at z
          exact c65 (eq_of_beq z)⟩
        rw [this]
        simp
theorem str_dp {K : PySem.W.Frag} {H : Hp} : ∀ cs : List Nat, DpAll K H (cs.map fun c => V.str (ch c)) (cs.map fun c => PyData.str (ch c))
  | [] => .nil
  | c :: r => .cons (.str _) (str_dp r)
theorem str_can : ∀ cs : List Nat, (∀ c ∈ cs, c ∈ wSet) → PyData.canLayAll0 (cs.map fun c => PyData.str (ch c)) = true ∧ PyData.depthAll (cs.map fun c => PyData.str (ch c)) ≤ 5
  | [], _ => ⟨rfl, by simp [PyData.depthAll]⟩
  | c :: r, h => by
    obtain ⟨a, b⟩ := str_can r fun x hx => h x (List.mem_cons_of_mem _ hx)
    have q := tab3 c (h c List.mem_cons_self)
    refine ⟨?_, ?_⟩
    · rw [List.map_cons, PyData.canLayAll0, a, Bool.and_true]
      exact q
    · rw [List.map_cons, PyData.depthAll]
      simp only [PyData.depth]
      omega
theorem str_sh {cs : List Nat} (h : ∀ c ∈ cs, c ∈ wSet) : SeqAt.shaped (.list (cs.map fun c => PyData.str (ch c))) = true := by
  obtain ⟨a, b⟩ := str_can cs h
  unfold SeqAt.shaped
  rw [show PyData.canLay0 (.list (cs.map fun c => PyData.str (ch c))) = true by rw [PyData.canLay0]; exact a, Bool.true_and]
  refine decide_eq_true ?_
  simp only [PyData.depth]
  omega
theorem str_nil (cs : List Nat) : PyData.eqv (.list (cs.map fun c => PyData.str (ch c))) (.list []) = decide (cs = []) := by
  cases cs with
  | nil => rfl
  | cons c r => rfl
theorem filter_nil (cs : List Nat) : decide (cs.filter (fun c => !lw c) = []) = cs.all lw := by
  rw [Bool.eq_iff_iff, decide_eq_true_iff, List.filter_eq_nil_iff, List.all_eq_true]
  constructor
  · intro h c hc
    have := h c hc
    simpa using this
  · intro h c hc
    rw [h c hc]
    simp
theorem ite_str {c : Bool} {Q : VK} {σ : L2.St} {H : Hp} {a b : Str} (h : ∀ s, (s = a ∨ s = b) → Q (.str s) H) : if c = true then tC (.str a) σ H Q else tC (.str b) σ H Q := by
  cases c
  · exact h b (.inr rfl)
  · exact h a (.inl rfl)
theorem and_te {k b : Bool} {T : TE} {Q : VK} {σ : L2.St} {H : Hp} (h : Q (.bl (k && b)) H) (hr : Q (.bl b) H → T σ H Q) : if k = true then T σ H Q else Q (.bl false) H := by
  cases k
  · exact h
  · exact hr h
def OddOk (K : PySem.W.Frag) (H : Hp) (y : V) : Prop := (∃ b, Kd K H y b ∧ ∀ i : Int, y = .int i → b = true → isP i = false) ∧ ((∃ t, TyX K H y t ∧ PySem.W.kitOne K t (.type "str") = some false) ∨ ∃ x, y = .str x ∧ x.length ≤ 700 ∧ nmd x = false)
theorem odd_int {K : PySem.W.Frag} {H : Hp} {i : Int} (h : isP i = false) : OddOk K H (.int i) := ⟨⟨_, Kd.int i, fun j e _ => by cases e; exact h⟩, .inl ⟨_, .base (.int i), kit_ty (by decide +kernel)⟩⟩
theorem odd_str {K : PySem.W.Frag} {H : Hp} {x : Str} (h : nmd x = false) (l : x.length ≤ 700) : OddOk K H (.str x) := ⟨⟨_, .oth (.base (.str x)) (kit_ty (by decide +kernel)) (fun _ z => nomatch z) (fun _ z => nomatch z), fun j e _ => nomatch e⟩, .inr ⟨x, rfl, l, h⟩⟩
theorem odd_ref {K : PySem.W.Frag} {H : Hp} {a : Addr} {t : Value} (ty : TyX K H (.ref a) t) (k1 : PySem.W.kitOne K t (.type "int") = some false) (k2 : PySem.W.kitOne K t (.type "str") = some false) : OddOk K H (.ref a) := ⟨⟨_, .oth ty k1 (fun _ z => nomatch z) (fun _ z => nomatch z), fun j e _ => nomatch e⟩, .inl ⟨t, ty, k2⟩⟩
section
variable {P : Program} {w : World} {K : PySem.W.Frag} {mg : Str → Option Value} {base : Heap} {CE CT : Addr}
abbrev sJu : Stmt := top 54
abbrev nJu : List Str := ["_law_dice_here", "_law_near", "_law_signs", "_law_word", "_law_plain", "_law_odd", "_law_turn", "_law_sign"]
theorem scJu : FnScope nJu ["_law_dice_here"] (defScope sJu) := ⟨rfl, rfl, rfl, by decide +kernel, rfl, by decide +kernel, by decide +kernel⟩
theorem ok_ju {f : Addr} {fd : FuncData} (F : Fun K "_law_judged" "_law_judged" sJu f fd) (R : HRoll P w K mg base) (Pk : HPick P w K mg base) (S : HIsI P w K mg base) (Nm : Has P w K mg base "is_name" 1 ["value"] (spNm K)) (Pr : Has P w K mg base "is_prime" 3 ["value"] (spPr K))
    (mR : mg "range" = none) (mN : mg "len" = none) : FnOk P w K mg base CX0 4 f fd ["_law_dice_here"] spDc := by
  obtain ⟨fR, dR, GR, mfR, kR, bR⟩ := R
  obtain ⟨fP, dP, GP, mP, kP, bP⟩ := Pk
  obtain ⟨fS, dS, GS, mS, kS, bS⟩ := S
  obtain ⟨fM, dM, GM, mM, kM, bM⟩ := Nm
  obtain ⟨fI, dI, GI, mI, kI, bI⟩ := Pr
  refine F.ok scJu (fun vs H Q E h => ?_) (fun cdv A outer s H vs Q E hr h => ?_)
  · obtain ⟨p, rfl, _⟩ := h
    rfl
  · obtain ⟨p, rfl, ⟨a, b, c, hp⟩, k⟩ := h
    refine ⟨_, pss_cons (ps_set (i := 1) scJu.nd rfl (.inl rfl) (pe_op op_add (pe_op op_sub (pe_op op_pow pe_int pe_int) pe_int) (pe_call GR (hr.mono (by decide)) rfl mfR kR bR .nil pass0 (pa_cons (pv 0) (pa_cons pe_int pa_nil)))))
      (pss_cons (ps_if (PW.pt (pw_or (pt_cmpR op_ne (pe_call GS (hr.mono (by decide)) rfl mS kS bS .nil pass0 (pa_cons (pv 1) pa_nil)) (pe_cmpR op_lt (pv 1) (pe_op op_pow pe_int pe_int) (nomark _)) (nomark _))
          (pw_or (pt_cmpR op_ne (pe_call GS (hr.mono (by decide)) rfl mS kS bS .nil pass0 (pa_cons (pe_un un_neg (pv 1)) pa_nil)) (pe_cmpR op_lt (pv 1) (pe_op op_pow pe_int pe_int) (nomark _)) (nomark _))
          (pw_or1 (pt_val (pe_call GS (hr.mono (by decide)) rfl mS kS bS .nil pass0 (pa_cons pe_bl pa_nil))))))) pss_never pss_nil)
      (pss_cons (ps_set (i := 2) scJu.nd rfl (.inr rfl) (pe_ifExp (pt_cmpR op_eq (pe_call GR (hr.mono (by decide)) rfl mfR kR bR .nil pass0 (pa_cons (pv 0) (pa_cons pe_int pa_nil))) pe_int (nomark _)) pe_str pe_str))
      (pss_cons (ps_set (i := 3) scJu.nd rfl (.inl rfl) (pe_join pe_str (pe_lc (own := [("_law_turn", 6)]) (g := gName 6) (tt := tYes) rfl scJu.nd (pi_range1 rfl mR (pa_cons (pe_call GR (hr.mono (by decide)) rfl mfR kR bR .nil pass0 (pa_cons (pv 0) (pa_cons pe_int pa_nil))) pa_nil)) (blkOk_by (N := nJu) (sc := defScope sJu) (by decide +kernel))
          (fun _ _ _ _ _ => pg_name (i := 6) scJu.nd rfl (.inl rfl)) (fun _ _ _ _ _ => pts_nil) (fun _ _ _ _ _ => pe_item_str (pv 2) (pe_call GR (hr.mono (by decide)) rfl mfR kR bR .nil pass0 (pa_cons (pv 0) (pa_cons (pe_callB call_len_str (by rfl) mN (by decide +kernel) (pa_cons (pv 2) pa_nil)) pa_nil))) (fun _ _ => rfl)))))
      (pss_cons (ps_set (i := 4) scJu.nd rfl (.inl rfl) (pe_cmpR (op_eqD hr.units) (pe_lc (own := [("_law_sign", 7)]) (g := gName 7) rfl scJu.nd (pi_str (pv 3)) (blkOk_by (N := nJu) (sc := defScope sJu) (by decide +kernel))
          (fun _ _ _ _ _ => pg_name (i := 7) scJu.nd rfl (.inl rfl)) (fun _ _ _ _ _ => pts_one (pt_cmpR op_notin_str (pv 7) pe_str rfl)) (fun _ _ _ _ _ => pv 7)) (pe_lst pa_nil) (nomark _)))
      (pss_cons (ps_if (pt_cmpR op_ne (pe_call GM (hr.mono (by decide)) rfl mM kM bM .nil pass0 (pa_cons (pv 3) pa_nil)) (pe_and (pv 4) (pe_one (pe_chain op_le op_le pe_int (pe_callB call_len_str (by rfl) mN (by decide +kernel) (pa_cons (pv 3) pa_nil)) pe_int))) (nomark _)) pss_never pss_nil)
      (pss_cons (ps_set (i := 5) scJu.nd rfl (.inl rfl) (pe_call GP (hr.mono (by decide)) rfl mP kP bP .nil pass0 (pa_cons (pv 0) (pa_cons (pe_lst (pa_cons pe_non (pa_cons pe_bl (pa_cons pe_str (pa_cons (pe_lst (pa_cons pe_int pa_nil)) (pa_cons (pe_tup (pa_cons pe_int pa_nil)) (pa_cons pe_dnewK (pa_cons pe_str
          (pa_cons (pe_un un_neg pe_int) (pa_cons pe_int (pa_cons pe_int (pa_cons (pe_op op_add (pe_op op_pow pe_int pe_int) pe_int) (pa_cons (pe_op op_pow pe_int pe_int) pa_nil))))))))))))) pa_nil))))
      (pss_one (ps_ret (pe_and (pe_not (pe_call GI (hr.mono (by decide)) rfl mI kI bI .nil pass0 (pa_cons (pv 5) pa_nil))) (pe_one (pe_not (pe_call GM (hr.mono (by decide)) rfl mM kM bM .nil pass0 (pa_cons (pv 5) pa_nil))))))))))))), ?_⟩
    have e60 : (10 : Int) ^ (60 : Int).toNat = LONG := by decide +kernel
    refine ⟨_, _, rfl, rfl, ⟨by decide, by decide, by decide⟩, _, _, rfl, rfl, _, rfl, p, a, b, c, 4, rfl, hp, by decide, by decide, fun r a1 c1 r0 r1 => ⟨_, _, rfl, rfl, ?_⟩⟩
    have k1 : Kq p H (upd H p (.lst [.int a1, .int b, .int c1])) := kq_upd
    have h1 : (upd H p (.lst [.int a1, .int b, .int c1])) p = some (.lst [.int a1, .int b, .int c1]) := upd_same
    generalize upd H p (.lst [.int a1, .int b, .int c1]) = H1 at *
    have x1 : (decide (-LONG < LONG - 2 + r) && decide (LONG - 2 + r < LONG)) = decide (LONG - 2 + r < LONG) := by
      rw [decide_eq_true (show -LONG < LONG - 2 + r by unfold LONG; omega), Bool.true_and]
    have x2 : (decide (-LONG < -(LONG - 2 + r)) && decide (-(LONG - 2 + r) < LONG)) = decide (LONG - 2 + r < LONG) := by
      rw [decide_eq_true (show -(LONG - 2 + r) < LONG by unfold LONG; omega), Bool.and_true]
      exact decide_eq_decide.mpr (by omega)
    rw [e60]
    refine ⟨_, rfl, .int (LONG - 2 + r), _, rfl, Kd.int _, ?_⟩
    rw [x1]
    refine ⟨_, rfl, _, _, rfl, rfl, ⟨by decide, by decide, by decide⟩, _, _, rfl, rfl, rfl, _, rfl, ?_⟩
    rw [e60]
    refine itF (by rw [decide_eq_true rfl]; rfl) ?_
    refine ⟨_, rfl, _, rfl, .int (-(LONG - 2 + r)), _, rfl, Kd.int _, ?_⟩
    rw [x2]
    refine ⟨_, rfl, _, _, rfl, rfl, ⟨by decide, by decide, by decide⟩, _, _, rfl, rfl, rfl, _, rfl, ?_⟩
    rw [e60]
    refine itF (by rw [decide_eq_true rfl]; rfl) ?_
    refine ⟨.bl true, false, rfl, Kd.bl true, _, rfl, itF rfl ?_⟩
    refine ⟨_, rfl, p, a1, b, c1, 2, rfl, h1, by decide, by decide, fun r2 a2 c2 _ _ => ⟨rfl, _, rfl, ?_⟩⟩
    have k2 : Kq p H (upd H1 p (.lst [.int a2, .int b, .int c2])) := Kq.trans k1 kq_upd
    have h2 : (upd H1 p (.lst [.int a2, .int b, .int c2])) p = some (.lst [.int a2, .int b, .int c2]) := upd_same
    generalize upd H1 p (.lst [.int a2, .int b, .int c2]) = H2 at *
    refine ite_str fun sg hsg => ?_
    have gs : (∀ (j c : Nat), sg.cps[j]? = some c → c ∈ wSet) ∧ 0 < sg.length ∧ sg.length ≤ 7 := by
      have key : ∀ l : List Nat, (∀ c ∈ l, c ∈ wSet) → ∀ (j c : Nat), l.toArray[j]? = some c → c ∈ wSet := fun l h j c e => h c (List.mem_of_getElem? (by simpa using e))
      have q1 : ("abz" : Str) = ⟨[97, 98, 122].toArray⟩ := by decide +kernel
      have q2 : ("abzA1 _" : Str) = ⟨[97, 98, 122, 65, 49, 32, 95].toArray⟩ := by decide +kernel
      rcases hsg with rfl | rfl
      · rw [q1]
        exact ⟨key _ (by decide), by decide, by decide⟩
      · rw [q2]
        exact ⟨key _ (by decide), by decide, by decide⟩
    obtain ⟨gs1, gs2, gs3⟩ := gs
    refine ⟨⟨_, rfl⟩, ?_⟩
    refine ⟨_, rfl, p, a2, b, c2, 11, rfl, h2, by decide, by decide, fun n a3 c3 n0 n1 => ⟨n, rfl, by omega, by omega, fun D hD => ?_⟩⟩
    have k3 : Kq p H (upd H2 p (.lst [.int a3, .int b, .int c3])) := Kq.trans k2 kq_upd
    have h3 : (upd H2 p (.lst [.int a3, .int b, .int c3])) p = some (.lst [.int a3, .int b, .int c3]) := upd_same
    generalize upd H2 p (.lst [.int a3, .int b, .int c3]) = H3 at *
    have npD : p ≠ D := ne_of_none h3 hD
    have hDH : H D = none := by
      cases e : H D with
      | none => rfl
      | some o => rw [k3 D o (Ne.symm npD) e] at hD; cases hD
    refine turns walk_range (fun j H'' => ∃ cs : List Nat, cs.length = j ∧ (∀ c ∈ cs, c ∈ wSet) ∧ H'' D = some (.lst (cs.map fun c => V.str (ch c))) ∧ Kq p H H'' ∧ ∃ a b c : Int, H'' p = some (.lst [.int a, .int b, .int c])) ⟨[], rfl, (fun _ z => nomatch z), upd_same, Kq.trans k3 (kq_same (same_new hD)), _, _, _, (by rw [upd_ne npD]; exact h3)⟩ ?_ ?_ ?_
    · intro j H'' _ _
      trivial
    · rintro j x H'' H4 hj ⟨cs, cl, cw, hc, kq, a4, b4, c4, hp4⟩ ⟨rfl, rfl⟩
      refine ⟨rfl, ?_⟩
      refine ⟨_, rfl, _, rfl, _, rfl, sg, rfl, Nat.le_trans gs3 (by decide), p, a4, b4, c4, _, rfl, hp4, by omega, by omega, fun r5 a5 c5 z0 z1 => ?_⟩
      obtain ⟨m, rfl⟩ : ∃ m : Nat, r5 = (m : Int) := ⟨r5.toNat, by omega⟩
      obtain ⟨cc, hcc⟩ : ∃ cc, sg.cps[m]? = some cc := ⟨sg.cps[m]'(show m < sg.cps.size by have : sg.length = sg.cps.size := rfl; omega), Array.getElem?_eq_getElem _⟩
      refine ⟨sg, (m : Int), cc, rfl, rfl, by omega, by omega, z1, by rw [Int.toNat_natCast]; exact hcc, ?_⟩
      refine ⟨cs.map fun c => V.str (ch c), (by rw [upd_ne (Ne.symm npD)]; exact hc), Nat.lt_of_le_of_lt (show (cs.map fun c => V.str (ch c)).length ≤ 11 by rw [List.length_map]; omega) (by decide), cs ++ [cc], by rw [List.length_append, cl]; rfl, ?_, ?_, ?_, _, _, _, (by rw [upd_ne npD, upd_same])⟩
      · intro c hc
        rcases List.mem_append.mp hc with z | z
        · exact cw c z
        · rw [List.mem_singleton.mp z]; exact gs1 m cc hcc
      · rw [upd_same, List.map_append]; rfl
      · exact fun b o nb e => by
          rw [upd_ne (fun z => by rw [z, hDH] at e; cases e), upd_ne nb]
          exact kq b o nb e
    · rintro H4 ⟨cs, cl, cw, hc, kq4, a4, b4, c4, hp4⟩
      have cl10 : cs.length ≤ 10 := by omega
      refine ⟨("" : Str), D, cs.map ch, rfl, rfl, .inl (SqL.of (by rw [hc, List.map_map]; rfl)), ?_, ?_⟩
      · rw [len_sum, List.length_map]
        show cs.length + cs.length * (Str.ofString "").length ≤ _
        have : (Str.ofString "").length = 0 := by decide +kernel
        rw [this]
        omega
      rw [TL.join_eq, join_wd]
      have el : (wd cs).length = cs.length := by show cs.toArray.size = cs.length; simp
      refine ⟨_, rfl, wd cs, rfl, fun D2 hD2 => ?_⟩
      refine turns (walk_str (z := wd cs)) (fun j H'' => H'' = upd H4 D2 (.lst (((cs.take j).filter fun c => !lw c).map fun c => V.str (ch c)))) (by simp) ?_ ?_ ?_
      · intro j H'' _ _
        trivial
      · rintro j x H'' H5 hj rfl ⟨rfl, cc, hcc, rfl⟩
        have hcc2 : cs[j]? = some cc := by
          have : cs.toArray[j]? = some cc := hcc
          simpa using this
        refine ⟨rfl, ?_⟩
        refine ⟨_, rfl, ⟨#[cc]⟩, _, rfl, rfl, _, rfl, ?_⟩
        rw [tab2 cc (cw cc (List.mem_of_getElem? hcc2))]
        have e1 : cs.take (j + 1) = cs.take j ++ [cc] := by rw [List.take_add_one, hcc2]; rfl
        by_cases q : lw cc = true
        · have q' : (!(cc == 97 || cc == 98 || cc == 122)) = false := by unfold lw at q; rw [q]; rfl
          refine itF q' ?_
          rw [e1, List.filter_append]
          simp [q]
        · have q2 : lw cc = false := eq_false_of_ne_true q
          have q' : (!(cc == 97 || cc == 98 || cc == 122)) = true := by unfold lw at q2; rw [q2]; rfl
          refine itT q' ?_
          refine ⟨_, rfl, _, upd_same, ?_, ?_⟩
          · rw [List.length_map]
            exact Nat.lt_of_le_of_lt (Nat.le_trans (List.length_filter_le _ _) (show (cs.take j).length ≤ 11 by rw [List.length_take]; omega)) (by decide)
          · rw [upd_upd, e1, List.filter_append, List.map_append]
            have : [cc].filter (fun c => !lw c) = [cc] := by simp [q2]
            rw [this]
            rfl
      · rintro H5 rfl
        have et : cs.take (wd cs).cps.size = cs := List.take_of_length_le (by show cs.length ≤ (wd cs).length; omega)
        rw [et]
        have kq5 : Kq p H (upd H4 D2 (.lst ((cs.filter fun c => !lw c).map fun c => V.str (ch c)))) := Kq.trans kq4 (kq_same (same_new hD2))
        have hp5 := same_new hD2 (o := .lst ((cs.filter fun c => !lw c).map fun c => V.str (ch c))) _ _ hp4
        have hl5 : (upd H4 D2 (.lst ((cs.filter fun c => !lw c).map fun c => V.str (ch c)))) D2 = some (.lst ((cs.filter fun c => !lw c).map fun c => V.str (ch c))) := upd_same
        generalize upd H4 D2 (.lst ((cs.filter fun c => !lw c).map fun c => V.str (ch c))) = H5 at *
        refine ⟨(by show 0 ≤ sizeLine; decide), fun z nz => ?_⟩
        refine ⟨_, .list [], .lst (SqL.of (same_new nz _ _ hl5)) (str_dp _), .lst (SqL.of upd_same) .nil, str_sh (fun c hc => cw c (List.mem_filter.mp hc).1), rfl, ?_⟩
        rw [str_nil, filter_nil]
        have kq6 : Kq p H (upd H5 z (.lst [])) := Kq.trans kq5 (kq_same (same_new nz))
        have hp6 := same_new nz (o := .lst []) _ _ hp5
        generalize upd H5 z (.lst []) = H6 at *
        refine ⟨_, rfl, .str (wd cs), rfl, .inr ⟨wd cs, rfl, by omega, ?_⟩⟩
        rw [nmd_wd cw]
        refine ⟨_, rfl, _, rfl, ?_⟩
        refine and_te (b := decide (1 ≤ cs.length) && decide (cs.length ≤ 8)) ?_ (fun hq => ?_)
        rotate_left
        · have e8 : decide (((wd cs).length : Int) ≤ 8) = decide (cs.length ≤ 8) := by rw [el]; exact decide_eq_decide.mpr (by omega)
          refine ⟨_, rfl, wd cs, rfl, Nat.le_trans (show (wd cs).length ≤ 11 by omega) (by decide), _, _, rfl, rfl, _, rfl, ?_⟩
          rw [el, show decide ((1 : Int) ≤ (cs.length : Int)) = decide (1 ≤ cs.length) from decide_eq_decide.mpr (by omega)]
          cases h1 : decide (1 ≤ cs.length) with
          | false =>
            rw [h1] at hq
            exact itF rfl hq
          | true =>
            rw [h1] at hq
            refine itT rfl ⟨_, _, rfl, rfl, ?_⟩
            have e10 : V.bl (true && decide (cs.length ≤ 8)) = V.bl (decide (((wd cs).length : Int) ≤ 8)) := by rw [e8]; rfl
            rw [e10] at hq
            exact hq
        refine ⟨rfl, _, rfl, itF (by rw [decide_eq_true rfl]; rfl) ?_⟩
        refine ⟨_, rfl, (by show 1 ≤ sizeLine; decide), fun l nl => ⟨(by show 1 ≤ sizeLine; decide), fun tu ntu => ?_⟩⟩
        intro d nd
        refine ⟨7, rfl, _, _, rfl, rfl, ⟨by decide, by decide, by decide⟩, _, _, rfl, rfl, _, _, rfl, rfl, ⟨by decide, by decide, by decide⟩, (by show 12 ≤ sizeLine; decide), fun q nq => ?_⟩
        have sl := Same.tr (same_new nl (o := .lst [V.int 7])) (Same.tr (same_new ntu (o := .tup [V.int 7])) (Same.tr (same_new nd (o := .dK [])) (same_new nq (o := .lst [V.non, V.bl true, V.str "", V.ref l, V.ref tu, V.ref d, V.str "Ab", V.int (-7), V.int 0, V.int 1, V.int (10 ^ (9 : Int).toNat + 7), V.int (10 ^ (60 : Int).toNat)]))))
        have hl7 := (Same.tr (same_new ntu (o := .tup [V.int 7])) (Same.tr (same_new nd (o := .dK [])) (same_new nq (o := .lst [V.non, V.bl true, V.str "", V.ref l, V.ref tu, V.ref d, V.str "Ab", V.int (-7), V.int 0, V.int 1, V.int (10 ^ (9 : Int).toNat + 7), V.int (10 ^ (60 : Int).toNat)])))) _ _ (upd_same (H := H6) (a := l) (o := .lst [V.int 7]))
        have ht7 := (Same.tr (same_new nd (o := .dK [])) (same_new nq (o := .lst [V.non, V.bl true, V.str "", V.ref l, V.ref tu, V.ref d, V.str "Ab", V.int (-7), V.int 0, V.int 1, V.int (10 ^ (9 : Int).toNat + 7), V.int (10 ^ (60 : Int).toNat)]))) _ _ (upd_same (H := upd H6 l (.lst [V.int 7])) (a := tu) (o := .tup [V.int 7]))
        have hd7 := (same_new nq (o := .lst [V.non, V.bl true, V.str "", V.ref l, V.ref tu, V.ref d, V.str "Ab", V.int (-7), V.int 0, V.int 1, V.int (10 ^ (9 : Int).toNat + 7), V.int (10 ^ (60 : Int).toNat)])) _ _ (upd_same (H := upd (upd H6 l (.lst [V.int 7])) tu (.tup [V.int 7])) (a := d) (o := .dK []))
        have npl : p ≠ l := ne_of_none hp6 nl
        have npt : p ≠ tu := ne_of_none (same_new nl _ _ hp6) ntu
        have npd : p ≠ d := ne_of_none (same_new ntu _ _ (same_new nl _ _ hp6)) nd
        have npq : p ≠ q := ne_of_none (same_new nd _ _ (same_new ntu _ _ (same_new nl _ _ hp6))) nq
        refine ⟨p, q, a4, b4, c4, _, rfl, sl _ _ hp6, SqL.of upd_same, Ne.symm npq, (by show 0 < 12; decide), (by show 12 < 1000; decide), fun i x a7 c7 hx => ?_⟩
        have ok : OddOk K (upd (upd (upd (upd (upd H6 l (.lst [V.int 7])) tu (.tup [V.int 7])) d (.dK [])) q (.lst [V.non, V.bl true, V.str "", V.ref l, V.ref tu, V.ref d, V.str "Ab", V.int (-7), V.int 0, V.int 1, V.int (10 ^ (9 : Int).toNat + 7), V.int (10 ^ (60 : Int).toNat)])) p (.lst [V.int a7, V.int b4, V.int c7])) x := by
          have hx := List.mem_of_getElem? hx
          simp only [List.mem_cons, List.not_mem_nil, or_false] at hx
          rcases hx with rfl | rfl | rfl | rfl | rfl | rfl | rfl | rfl | rfl | rfl | rfl | rfl
          · exact ⟨⟨_, .oth (.base .non) (kit_ty (by decide +kernel)) (fun _ z => nomatch z) (fun _ z => nomatch z), fun j e _ => nomatch e⟩, .inl ⟨_, .base .non, kit_ty (by decide +kernel)⟩⟩
          · exact ⟨⟨_, .bl true, fun j e _ => nomatch e⟩, .inl ⟨_, .base (.bl true), kit_ty (by decide +kernel)⟩⟩
          · exact odd_str (by decide +kernel) (by decide +kernel)
          · exact odd_ref (.base (.lst (by rw [upd_ne (Ne.symm npl)]; exact hl7))) (kit_ty (by decide +kernel)) (kit_ty (by decide +kernel))
          · exact odd_ref (.base (.tup (by rw [upd_ne (Ne.symm npt)]; exact ht7))) (kit_ty (by decide +kernel)) (kit_ty (by decide +kernel))
          · exact odd_ref (.base (.dK (by rw [upd_ne (Ne.symm npd)]; exact hd7))) (kit_ty (by decide +kernel)) (kit_ty (by decide +kernel))
          · exact odd_str (by decide +kernel) (by decide +kernel)
          · exact odd_int (by decide +kernel)
          · exact odd_int (by decide +kernel)
          · exact odd_int (by decide +kernel)
          · exact odd_int (by decide +kernel)
          · exact odd_int (by decide +kernel)
        have kF := k (upd (upd (upd (upd (upd H6 l (.lst [V.int 7])) tu (.tup [V.int 7])) d (.dK [])) q (.lst [V.non, V.bl true, V.str "", V.ref l, V.ref tu, V.ref d, V.str "Ab", V.int (-7), V.int 0, V.int 1, V.int (10 ^ (9 : Int).toNat + 7), V.int (10 ^ (60 : Int).toNat)])) p (.lst [V.int a7, V.int b4, V.int c7])) (Kq.trans kq6 (Kq.trans (kq_same sl) kq_upd)) dic_upd
        obtain ⟨⟨bk, kd, np⟩, nm⟩ := ok
        have nmk : spNm K [x] (upd (upd (upd (upd (upd H6 l (.lst [V.int 7])) tu (.tup [V.int 7])) d (.dK [])) q (.lst [V.non, V.bl true, V.str "", V.ref l, V.ref tu, V.ref d, V.str "Ab", V.int (-7), V.int 0, V.int 1, V.int (10 ^ (9 : Int).toNat + 7), V.int (10 ^ (60 : Int).toNat)])) p (.lst [V.int a7, V.int b4, V.int c7])) (fun v H' => v = .bl false ∧ H' = upd (upd (upd (upd (upd H6 l (.lst [V.int 7])) tu (.tup [V.int 7])) d (.dK [])) q (.lst [V.non, V.bl true, V.str "", V.ref l, V.ref tu, V.ref d, V.str "Ab", V.int (-7), V.int 0, V.int 1, V.int (10 ^ (9 : Int).toNat + 7), V.int (10 ^ (60 : Int).toNat)])) p (.lst [V.int a7, V.int b4, V.int c7])) E := by
          rcases nm with ⟨t, ty, no⟩ | ⟨z, rfl, lz, nz⟩
          · exact ⟨x, rfl, .inl ⟨t, ty, no, rfl, rfl⟩⟩
          · exact ⟨_, rfl, .inr ⟨z, rfl, lz, by rw [nz], rfl⟩⟩
        have mono : ∀ (vs : List V) (Hh : Hp) (Q1 Q2 : VK) (E1 E2 : XK), (∀ v H', Q1 v H' → Q2 v H') → spNm K vs Hh Q1 E1 → spNm K vs Hh Q2 E2 := by
          rintro vs Hh Q1 Q2 E1 E2 hq ⟨y, e, o⟩
          rcases o with ⟨t, ty, no, q⟩ | ⟨z, e2, lz, q⟩
          · exact ⟨y, e, .inl ⟨t, ty, no, hq _ _ q⟩⟩
          · exact ⟨y, e, .inr ⟨z, e2, lz, hq _ _ q⟩⟩
        refine ⟨_, rfl, x, bk, rfl, kd, fun hb => ?_, fun j ej hb => ?_⟩
        · refine ⟨false, rfl, true, rfl, itT rfl ?_⟩
          refine ⟨_, rfl, ?_⟩
          dsimp only [tNil, List.append_nil]
          refine mono _ _ _ _ _ _ ?_ nmk
          rintro v H' ⟨rfl, rfl⟩
          exact ⟨false, rfl, kF⟩
        · rw [np j ej hb]
          refine ⟨false, rfl, true, rfl, itT rfl ?_⟩
          refine ⟨_, rfl, ?_⟩
          dsimp only [tNil, List.append_nil]
          refine mono _ _ _ _ _ _ ?_ nmk
          rintro v H' ⟨rfl, rfl⟩
          exact ⟨false, rfl, kF⟩
end
end Lk

set_option Elab.async false
set_option linter.all false
set_option maxRecDepth 100000
set_option maxHeartbeats 4000000
/-! == of nested lists and tuples that are equal, the same objects among them -/
namespace Lk
open PySem PySem.Spec PyProof.Rows L2
/-- one and the same; or two lists, or two tuples, of equal items -/
def EqT (K : PySem.W.Frag) (H : Hp) : Nat → V → V → Prop
  | 0 => fun _ _ => False
  | n + 1 => fun x y => (x = y ∧ flatB x = true) ∨ (∃ a, x = .ref a ∧ y = .ref a) ∨
      ∃ a b xs ys, x = .ref a ∧ y = .ref b ∧ ((SqL K H a xs ∧ SqL K H b ys) ∨ (SqT K H a xs ∧ SqT K H b ys)) ∧ Paired (EqT K H n) xs ys
theorem itemsT_run {A : Around} {s : Shared} {F : V → V → Prop} (ih : ∀ x y v u, F x y → RelV x v → RelV y u → SeqAt.EqAt A s v u true) {xs ys : List V} (hp : Paired F xs ys) :
    ∀ {us ws : List Value}, Vals xs us → Vals ys ws → ∀ j (h1 : j < us.length) (h2 : j < ws.length), SeqAt.EqAt A s us[j] ws[j] true := by
  induction hp with
  | nil =>
    intro us ws r1 r2 j h1 h2
    cases r1
    exact absurd h1 (Nat.not_lt_zero j)
  | cons h _ k =>
    intro us ws r1 r2 j h1 h2
    cases r1 with
    | cons a1 b1 =>
      cases r2 with
      | cons a2 b2 =>
        cases j with
        | zero => exact ih _ _ _ _ h a1 a2
        | succ j => exact k b1 b2 j (Nat.lt_of_succ_lt_succ h1) (Nat.lt_of_succ_lt_succ h2)
section
variable {X : Cx} {pins : List (Addr × Obj)} {σ : L2.St} {H : Hp} {s : Shared}
theorem rcT_run (I : Inv X pins σ H s) {A : Around} {F : V → V → Prop} (hu : A.units < cLine) (ih : ∀ x y v u, F x y → RelV x v → RelV y u → SeqAt.EqAt A.in1 s v u true) {a b : Addr} {xs ys : List V}
    (h : (SqL X.K H a xs ∧ SqL X.K H b ys) ∨ (SqT X.K H a xs ∧ SqT X.K H b ys)) (hp : Paired F xs ys) : SeqAt.RcAt A s (.ref a) (.ref b) true := by
  rcases h with ⟨ha, hb⟩ | ⟨ha, hb⟩
  · obtain ⟨us, r1, p1, _⟩ := I.list ha
    obtain ⟨ws, r2, p2, _⟩ := I.list hb
    have hsz : us.toArray.size = ws.toArray.size := by
      rw [List.size_toArray, List.size_toArray, ← r1.length, ← r2.length]
      exact Paired.length hp
    have q := SeqAt.RcAt.lists (e := fun _ => true) p1.isList p2.isList hsz hu (fun j h1 h2 => by
      have k := itemsT_run ih hp r1 r2 j (by simpa using h1) (by simpa using h2)
      simpa using k)
    rw [show ((List.range us.toArray.size).all fun _ => true) = true from List.all_eq_true.mpr fun _ _ => rfl] at q
    exact q
  · obtain ⟨us, r1, p1, _⟩ := I.tuple ha
    obtain ⟨ws, r2, p2, _⟩ := I.tuple hb
    have hsz : us.toArray.size = ws.toArray.size := by
      rw [List.size_toArray, List.size_toArray, ← r1.length, ← r2.length]
      exact Paired.length hp
    have q := SeqAt.RcAt.tuples (e := fun _ => true) p1 p2 hu (fun j h1 h2 => by
      have k := itemsT_run ih hp r1 r2 j (by simpa using h1) (by simpa using h2)
      simpa using k)
    rw [show ((List.range (min us.toArray.size ws.toArray.size)).all fun _ => true) = true from List.all_eq_true.mpr fun _ _ => rfl, hsz, Bool.true_and, beq_self_eq_true] at q
    exact q
theorem eqT_run (I : Inv X pins σ H s) : ∀ (n : Nat) (A : Around), A.units + n < cLine → ∀ (x y : V) (v u : Value), EqT X.K H n x y → RelV x v → RelV y u → SeqAt.EqAt A s v u true
  | 0, _, _, _, _, _, _, h, _, _ => (show False from h).elim
  | n + 1, A, hu, x, y, v, u, h, rx, ry => by
    rcases h with ⟨rfl, f⟩ | ⟨a, rfl, rfl⟩ | ⟨a, b, xs, ys, rfl, rfl, h, hp⟩
    · exact eqAt_same rx ry f
    · cases (show v = Value.ref a from rx)
      cases (show u = Value.ref a from ry)
      exact SeqAt.EqAt.same _
    · cases (show v = Value.ref a from rx)
      cases (show u = Value.ref b from ry)
      by_cases e : a = b
      · subst e
        exact SeqAt.EqAt.same _
      · exact SeqAt.EqAt.of_refs e (rcT_run I (A := A) (by omega) (eqT_run I n A.in1 (by show A.units + 1 + n < cLine; omega)) h hp)
end
section
variable {X : Cx}
/-- a == b, two lists, or two tuples, that are equal -/
def rEqT (K : PySem.W.Frag) : R2 := fun x y H Q => ∃ n a b xs ys, n ≤ 60 ∧ x = .ref a ∧ y = .ref b ∧ ((SqL K H a xs ∧ SqL K H b ys) ∨ (SqT K H a xs ∧ SqT K H b ys)) ∧ Paired (EqT K H n) xs ys ∧ Q (.bl true) H
theorem op_eqT (hu : X.A.units + 64 < cLine) : OpR X (compareOp .Eq) (rEqT X.K) := by
  intro pins s σ H x y v u Q I rx ry h
  obtain ⟨n, a, b, xs, ys, hn, rfl, rfl, h, hp, q⟩ := h
  cases (show v = Value.ref a from rx)
  cases (show u = Value.ref b from ry)
  exact rcT_run I (A := X.A) (by omega) (eqT_run I n X.A.in1 (by show X.A.units + 1 + n < cLine; omega)) h hp X.prog X.w _ _ ⟨.bl true, H, I, rfl, q⟩
theorem eqT_flat {K : PySem.W.Frag} {H : Hp} {n : Nat} {x : V} (f : flatB x = true) : EqT K H (n + 1) x x := .inl ⟨rfl, f⟩
theorem eqT_ref {K : PySem.W.Frag} {H : Hp} {n : Nat} {a : Addr} : EqT K H (n + 1) (.ref a) (.ref a) := .inr (.inl ⟨a, rfl, rfl⟩)
theorem eqT_same {K : PySem.W.Frag} {H : Hp} {n : Nat} {x : V} (f : flatB x = true ∨ ∃ a, x = .ref a) : EqT K H (n + 1) x x := by
  rcases f with f | ⟨a, rfl⟩
  · exact eqT_flat f
  · exact eqT_ref
theorem eqT_tup {K : PySem.W.Frag} {H : Hp} {n : Nat} {a b : Addr} {xs ys : List V} (h1 : SqT K H a xs) (h2 : SqT K H b ys) (hp : Paired (EqT K H n) xs ys) : EqT K H (n + 1) (.ref a) (.ref b) := .inr (.inr ⟨a, b, xs, ys, rfl, rfl, .inr ⟨h1, h2⟩, hp⟩)
theorem eqT_lst {K : PySem.W.Frag} {H : Hp} {n : Nat} {a b : Addr} {xs ys : List V} (h1 : SqL K H a xs) (h2 : SqL K H b ys) (hp : Paired (EqT K H n) xs ys) : EqT K H (n + 1) (.ref a) (.ref b) := .inr (.inr ⟨a, b, xs, ys, rfl, rfl, .inl ⟨h1, h2⟩, hp⟩)
end
end Lk

set_option Elab.async false
set_option linter.all false
set_option maxRecDepth 100000
set_option maxHeartbeats 4000000
/-! != of two lists whose items are equal, dicts among them -/
namespace PySem.SeqAt
open AutoSeq1 (wpAny_loadPart')
open MeetsSeq MeetsSeq2 MeetsSeq3
section
variable {prog : Program} {w : World}
theorem ne_loopP (l b : Addr) (u u2 : Array Value) (n n2 : Nat) (dd dd2 : Option Addr) (sl sl2 : Array (Option Value)) (same : u.size = u2.size) (k : Nat) : ∀ i : Nat, u.size - i = k → MeetsIn prog w (Builtin.«list.__eq__.loop» ⟨[.ref l, .ref b, rawInt i, rawInt 3], []⟩)
      (fun A R s => s.heap.get? l = some { cls := .type "list", dict := dd, data := .seq u n, slots := sl } ∧ s.heap.get? b = some { cls := .type "list", dict := dd2, data := .seq u2 n2, slots := sl2 } ∧ (∀ j (h1 : j < u.size) (h2 : j < u2.size), EqP prog w A.in1 s u[j] u2[j] true) ∧ R (.ok (.ret (.bool false))) s) := by
  induction k with
  | zero =>
    intro i hk A R s h
    obtain ⟨hp, g, d, tk, os⟩ := s
    obtain ⟨hl, hb, he, h⟩ := h
    wp_walk using wpAny_loadPart' hl, wpAny_loadPart' hb
    have o1 : u[((i : Nat) : Int).toNat]? = none := by simp; omega
    have o2 : u2[((i : Nat) : Int).toNat]? = none := by simp; omega
    rw [o1, o2]; wp_walk using wpAny_loadPart' hl, wpAny_loadPart' hb
    show R (.ok (.ret (.bool (u.size != u2.size)))) _
    rw [same]; simpa using h
  | succ k ih =>
    intro i hk A R s h
    obtain ⟨hp, g, d, tk, os⟩ := s
    obtain ⟨hl, hb, he, h⟩ := h
    wp_walk using wpAny_loadPart' hl, wpAny_loadPart' hb
    have b1 : i < u.size := by omega
    have b2 : i < u2.size := by omega
    have o1 : u[((i : Nat) : Int).toNat]? = some u[i] := by simp [b1]
    have o2 : u2[((i : Nat) : Int).toNat]? = some u2[i] := by simp [b2]
    have step : ((i : Int) + 1) = ((i + 1 : Nat) : Int) := by push_cast; rfl
    rw [o1, o2]
    refine wpAny_bind (he i b1 b2 _ _ ?_)
    wp_walk; rw [step]
    refine ⟨plainId_quiet plain_eq_loop _, codeAny_builtin entry_eq_loop ?_⟩
    rw [Around.under_plainId plain_eq_loop _]; exact ih (i + 1) (by omega) A R _ ⟨hl, hb, he, h⟩
theorem list_neP (l b : Addr) (u u2 : Array Value) (n n2 : Nat) (dd dd2 : Option Addr) (sl sl2 : Array (Option Value)) (same : u.size = u2.size) : MeetsIn prog w (Builtin.«list.__ne__» ⟨[.ref l, .ref b], []⟩)
      (fun A R s => s.heap.get? l = some { cls := .type "list", dict := dd, data := .seq u n, slots := sl } ∧ s.heap.get? b = some { cls := .type "list", dict := dd2, data := .seq u2 n2, slots := sl2 } ∧ (∀ j (h1 : j < u.size) (h2 : j < u2.size), EqP prog w A.in1 s u[j] u2[j] true) ∧ R (.ok (.ret (.bool false))) s) := by
  intro A R s h
  obtain ⟨hp, g, d, tk, os⟩ := s
  obtain ⟨hl, hb, he, h⟩ := h
  have sub := AutoSeq1.sub_list_list
  have fits : ¬ (u.size != u2.size) = true := by simp [same]
  wp_walk using wpAny_loadPart' hl, wpAny_loadPart' hb
  refine ⟨plainId_quiet plain_eq_loop _, codeAny_builtin entry_eq_loop ?_⟩
  rw [Around.under_plainId plain_eq_loop _]; exact ne_loopP l b u u2 n n2 dd dd2 sl sl2 same _ 0 rfl A R _ ⟨hl, hb, he, h⟩
theorem neP_lists {A : Around} {s : Shared} {E : Value → Shared → Prop} {l b : Addr} {u u2 : Array Value} {Q : Value → Shared → Prop} (hl : s.heap.IsList l u) (hb : s.heap.IsList b u2) (same : u.size = u2.size) (hu : A.units < cLine)
    (he : ∀ j (h1 : j < u.size) (h2 : j < u2.size), EqP prog w A.in1 s u[j] u2[j] true) (h : Q (.bool false) s) : wpAny (model prog w) A (richCompare .NotEq (.ref l) (.ref b)) Q E s := by
  obtain ⟨⟨c1, dd, data, sl⟩, ho, e1, n, e2⟩ := id hl
  obtain ⟨⟨c2, dd2, data2, sl2⟩, ho2, e3, n2, e4⟩ := id hb
  dsimp only at e1 e2 e3 e4
  subst e1 e2 e3 e4
  exact wpAny_richCompare_same_room (T := "list") (op := .NotEq) ⟨_, ho, rfl⟩ ⟨_, ho2, rfl⟩ F.slot_list_ne (call_meetsIn F.slot_list_ne ⟨_, ho, rfl⟩ F.entry_list_ne (F.args_list_ne_2 _ _) (list_neP l b u u2 n n2 dd dd2 sl sl2 same)
    ⟨ho, ho2, he, show Value.bool false ≠ Value.notImplemented ∧ Q (.bool false) s from ⟨(fun x => nomatch x), h⟩⟩) hu
end
end PySem.SeqAt
namespace Lk
open PySem PySem.Spec PyProof.Rows L2
section
variable {X : Cx}
def EqM (K : PySem.W.Frag) (H : Hp) (x y : V) : Prop := EqT K H 3 x y ∨ EqV K H 3 x y
def rNeM (K : PySem.W.Frag) : R2 := fun x y H Q => ∃ a b xs ys, x = .ref a ∧ y = .ref b ∧ SqL K H a xs ∧ SqL K H b ys ∧ Paired (EqM K H) xs ys ∧ Q (.bl false) H
theorem op_neM (hu : X.A.units + 64 < cLine) : OpR X (compareOp .NotEq) (rNeM X.K) := by
  intro pins s σ H x y v u Q I rx ry h
  obtain ⟨a, b, xs, ys, rfl, rfl, ha, hb, hp, q⟩ := h
  cases (show v = Value.ref a from rx)
  cases (show u = Value.ref b from ry)
  obtain ⟨us, r1, p1, _⟩ := I.list ha
  obtain ⟨ws, r2, p2, _⟩ := I.list hb
  have hsz : us.toArray.size = ws.toArray.size := by
    rw [List.size_toArray, List.size_toArray, ← r1.length, ← r2.length]
    exact Paired.length hp
  refine SeqAt.neP_lists p1.isList p2.isList hsz (by omega) (fun j h1 h2 => ?_) ⟨.bl false, H, I, rfl, q⟩
  have k := L2.items_run (P := X.prog) (w := X.w) (A := X.A.in1) (s := s) (F := EqM X.K H) (fun x y v u h rx ry => by
    rcases h with h | h
    · exact (eqT_run I 3 X.A.in1 (by show X.A.units + 1 + 3 < cLine; omega) x y v u h rx ry).eqP
    · exact eqV_run I 3 X.A.in1 (by show X.A.units + 1 + 3 < cLine; omega) x y v u h rx ry) hp r1 r2 j (by simpa using h1) (by simpa using h2)
  simpa using k
end
end Lk

set_option Elab.async false
set_option linter.all false
set_option maxRecDepth 100000
set_option maxHeartbeats 4000000
set_option exponentiation.threshold 10000
namespace Lk
open PySem L2 Vx
section
variable {P : Program} {w : World} {K : PySem.W.Frag} {mg : Str → Option Value} {base : Heap} {C CE CR CO CPr CT : Addr}
abbrev sDic : Stmt := top 43
def spDic (K : PySem.W.Frag) : Sp := fun vs H Q _ => ∃ (a : Addr) (ns : List Int) (i : Nat), vs = [.ref a, .int i] ∧ SqL K H a (ns.map V.int) ∧ i < 64 ∧ ∀ (p : Addr) (x y : Int), H p = none → Q (.ref p) (upd H p (.lst [.int x, .int y, .int 0]))
abbrev nDic : List Str := ["_law_script", "_law_spot", "_law_cell", "_law_left"]
theorem scDic : FnScope nDic ["_law_script", "_law_spot"] (defScope sDic) := ⟨rfl, rfl, rfl, by decide +kernel, rfl, by decide +kernel, by decide +kernel⟩
theorem ok_dic {f : Addr} {fd : FuncData} (F : Fun K "_law_dice" "_law_dice" sDic f fd) (B : Bl mg) :
    FnOk P w K mg base CX0 1 f fd ["_law_script", "_law_spot"] (spDic K) := by
  refine F.ok scDic (fun vs H Q E h => ?_) (fun cdv A outer s H vs Q E hr h => ?_)
  · obtain ⟨a, ns, i, rfl, _⟩ := h
    rfl
  · obtain ⟨a, ns, i, rfl, hS, hi, k⟩ := h
    refine ⟨_, pss_cons (ps_set (i := 2) scDic.nd rfl (.inl rfl) (pe_ifExp (pt_cmpR op_lt (pv 1) (pe_callB call_len_seq (by rfl) B.len (by decide +kernel) (pa_cons (pv 0) pa_nil)) (nomark _))
        (pe_callTy call_int1 (by rfl) B.int PyProof.Rows.boot_int (pa_cons (pe_ix ix_list (pv 0) (pv 1) (fun _ _ => rfl)) pa_nil)) (pe_op op_add (pe_op op_mul pe_int (pv 1)) pe_int)))
      (pss_cons (ps_set (i := 3) scDic.nd rfl (.inl rfl) (pe_op op_modN (pe_callB (call_max2 rfl) (by rfl) B.max (by decide +kernel) (pa_cons pe_int (pa_cons (pe_op op_sub (pe_callB call_abs (by rfl) B.abs PyProof.Rows.boot_abs (pa_cons (pv 2) pa_nil)) (pe_op op_pow pe_int pe_int)) pa_nil)))
        (pe_op op_mulW (pe_op op_pow pe_int pe_int) (pe_op op_pow pe_int pe_int))))
      (pss_one (ps_ret (pe_lst (pa_cons (pv 3) (pa_cons (pe_op op_add (pe_op op_add (pe_op op_add (pe_op op_mul (pe_op op_modN (pe_callB call_abs (by rfl) B.abs PyProof.Rows.boot_abs (pa_cons (pv 2) pa_nil)) pe_int) pe_int) (pe_op op_mul pe_int (pv 1)))
        (pe_op op_mul pe_int (pe_callTy call_int1 (by rfl) B.int PyProof.Rows.boot_int (pa_cons (pe_cmpR op_lt (pv 2) pe_int (nomark _)) pa_nil)))) pe_int) (pa_cons pe_int pa_nil))))))), ?_⟩
    refine ⟨_, rfl, _, rfl, a, _, rfl, .inl hS, _, _, rfl, rfl, _, rfl, ?_⟩
    rw [List.length_map]
    by_cases c : (i : Int) < (ns.length : Int)
    · obtain ⟨z, hz⟩ : ∃ z, ns[i]? = some z := ⟨ns[i]'(by omega), List.getElem?_eq_getElem (by omega)⟩
      refine itT (decide_eq_true c) ?_
      refine ⟨_, rfl, _, rfl, a, _, i, _, rfl, rfl, hS, atI_nat (by rw [List.getElem?_map, hz]; rfl), .inl ⟨z, rfl, ?_⟩⟩
      refine ⟨_, rfl, z, rfl, _, _, rfl, rfl, ⟨by decide, by decide, by decide⟩, _, _, rfl, rfl, _, _, rfl, _, _, rfl, rfl, ⟨by decide, by decide, by decide⟩, _, _, rfl, rfl, ⟨by decide, by decide, by decide⟩, _, _, rfl, rfl,
        wide_mul (a := 200) (b := 200) (by decide) (by decide) (by decide) (by decide) (by decide), _, _, rfl, rfl, (by show (_ : Int) ≠ 0; decide), ?_⟩
      refine ⟨_, rfl, _, rfl, z, rfl, _, _, rfl, rfl, (by show (_ : Int) ≠ 0; decide), _, _, rfl, rfl, .inr ⟨by decide, by decide⟩, _, rfl, _, _, rfl, rfl, .inl ⟨by decide, by decide⟩, _, _, rfl, rfl, ?_⟩
      exact ⟨_, rfl, _, _, rfl, rfl, .inr ⟨_, rfl, _, _, rfl, rfl, .inl ⟨by decide, by decide⟩, _, _, rfl, rfl, _, _, rfl, rfl, (by show 3 ≤ sizeLine; decide), fun p hp => k p _ _ hp⟩⟩
    · refine itF (decide_eq_false c) ?_
      refine ⟨_, rfl, _, _, rfl, rfl, .inl ⟨by decide, by decide⟩, _, _, rfl, rfl, ?_⟩
      refine ⟨_, rfl, (71 * (i : Int) + 23), rfl, _, _, rfl, rfl, ⟨by decide, by decide, by decide⟩, _, _, rfl, rfl, _, _, rfl, _, _, rfl, rfl, ⟨by decide, by decide, by decide⟩, _, _, rfl, rfl, ⟨by decide, by decide, by decide⟩, _, _, rfl, rfl,
        wide_mul (a := 200) (b := 200) (by decide) (by decide) (by decide) (by decide) (by decide), _, _, rfl, rfl, (by show (_ : Int) ≠ 0; decide), ?_⟩
      refine ⟨_, rfl, _, rfl, (71 * (i : Int) + 23), rfl, _, _, rfl, rfl, (by show (_ : Int) ≠ 0; decide), _, _, rfl, rfl, .inr ⟨by decide, by decide⟩, _, rfl, _, _, rfl, rfl, .inl ⟨by decide, by decide⟩, _, _, rfl, rfl, ?_⟩
      exact ⟨_, rfl, _, _, rfl, rfl, .inr ⟨_, rfl, _, _, rfl, rfl, .inl ⟨by decide, by decide⟩, _, _, rfl, rfl, _, _, rfl, rfl, (by show 3 ≤ sizeLine; decide), fun p hp => k p _ _ hp⟩⟩
abbrev sLaw : Stmt := top 55
abbrev nLaw : List Str := ["_law_script", "_law_spot", "_law_dice_here", "_law_number", "_law_far", "_law_most", "_law_told"]
theorem scLaw : FnScope nLaw ["_law_script"] (defScope sLaw) := ⟨rfl, rfl, rfl, by decide +kernel, rfl, by decide +kernel, by decide +kernel⟩
def spLaw (K : PySem.W.Frag) : Sp := fun vs H Q _ => ∃ (a : Addr) (ns : List Int), vs = [.ref a] ∧ SqL K H a (ns.map V.int) ∧ ∀ H', Q (.bl true) H'
theorem sqL_same {H H' : Hp} {a : Addr} {xs : List V} (s : Same H H') (h : SqL K H a xs) : SqL K H' a xs := by
  unfold SqL Rd at h ⊢
  rcases h with (h | ⟨o, h⟩) | h
  · exact .inl (.inl (s _ _ h))
  · exact .inl (.inr ⟨o, s _ _ h⟩)
  · exact .inr h
theorem same_kq {H H1 H2 : Hp} {p : Addr} (s : Same H H1) (n : H p = none) (k : Kq p H1 H2) : Same H H2 := fun b o e => k b o (ne_of_none e n) (s b o e)
theorem kv_inj : ∀ {a b : List (Int × Nat)}, a.map kvOf = b.map kvOf → a = b := by
  intro a
  induction a with
  | nil => intro b hb; cases b with
    | nil => rfl
    | cons _ _ => cases hb
  | cons x a ih =>
    intro b hb
    cases b with
    | nil => cases hb
    | cons y b =>
      obtain ⟨h1, h2⟩ := List.cons.inj hb
      obtain ⟨q1, q2⟩ := Prod.mk.inj h1
      have q1 := Sum.inl.inj q1
      have q2 := V.int.inj q2
      rw [ih h2, show x = y from Prod.ext q1 (by omega)]
theorem ppd_at {n : Int} (l : List (Int × Nat)) (n1 : 1 ≤ n) (n9 : n ≤ 1000000000) (h : ppd n = l.map kvOf) : Pq l ∧ pprod l = n := by
  obtain ⟨prs, ep, _, pq, pp⟩ := ppd_is n1 n9
  have e := kv_inj (h.symm.trans ep)
  subst e
  exact ⟨pq, pp⟩
theorem gcd3 {n f : Int} (n1 : 1 ≤ n) : gcdL [n * f, -n, 0] = n := by
  show (((Nat.gcd (((Nat.gcd (((Nat.gcd (0 : Int).natAbs (n * f).natAbs : Nat) : Int)).natAbs (-n).natAbs : Nat) : Int)).natAbs (0 : Int).natAbs : Nat)) : Int) = n
  simp only [Int.natAbs_natCast, Int.natAbs_zero, Nat.gcd_zero_left, Nat.gcd_zero_right, Int.natAbs_neg, Int.natAbs_mul]
  rw [Nat.gcd_comm, Nat.gcd_mul_right_right]
  omega
theorem gcd1 (f : Int) : gcdL [f] = (f.natAbs : Int) := by
  show (((Nat.gcd (0 : Int).natAbs f.natAbs : Nat)) : Int) = f.natAbs
  simp
theorem ok_law {f : Addr} {fd : FuncData} (F : Fun K "law" "law" sLaw f fd) (B : Bl mg) (G : Gn K mg C) (mR : mg "range" = none) (mMin : mg "min" = none) (D : Has P w K mg base "_law_dice" 1 ["_law_script", "_law_spot"] (spDic K)) (R : HRoll P w K mg base)
    (It : Has P w K mg base "_law_integer" 3 ["_law_dice_here"] spInt) (A1 : HasX P w K mg base "_law_is_parted" 7 ["_law_number"] spIp) (A2 : HasX P w K mg base "_law_are_valued" 7 ["_law_dice_here"] spDc) (A3 : HasX P w K mg base "_law_rows_right" 7 ["_law_dice_here"] spDc)
    (A4 : Has P w K mg base "_law_judged" 4 ["_law_dice_here"] spDc) (Wy : Has P w K mg base "_law_ways" 1 ["_law_most"] spWy) (Dv : HasX P w K mg base "divisors" 6 ["number"] (spDv K CE CT)) (Pp : HPp P w K mg base CE CT) (Cd : Has P w K mg base "common_divisor" 3 ["numbers"] (spCd K))
    (Mo : HasX P w K mg base "moebius" 6 ["number"] (spMo K)) (Bi : HasX P w K mg base "binomial" 5 ["top", "low"] (spBin K CE)) (Sd : HasX P w K mg base "step_divisor" 6 ["number"] (spSd K)) (Po : HasX P w K mg base "partitions_of" 5 ["number"] (spPo K CE))
    (Va : HasX P w K mg base "valuation" 6 ["prime", "number"] (spVal K C CR CO CPr)) (Rt : HRatioK P w K mg base C CE) :
    FnOk P w K mg base CX0 10 f fd ["_law_script"] (spLaw K) := by
  obtain ⟨fD, dD, GD, mD, kD, bD⟩ := D
  obtain ⟨fR, dR, GR, mfR, kR, bR⟩ := R
  obtain ⟨fI, dI, GI, mI, kI, bI⟩ := It
  obtain ⟨f1, d1, G1, m1, k1, b1⟩ := A1
  obtain ⟨f2, d2, G2, m2, k2, b2⟩ := A2
  obtain ⟨f3, d3, G3, m3, k3, b3⟩ := A3
  obtain ⟨f4, d4, G4, m4, k4, b4⟩ := A4
  obtain ⟨f5, d5, G5, m5, k5, b5⟩ := Wy
  obtain ⟨f6, d6, G6, m6, k6, b6⟩ := Dv
  obtain ⟨f7, d7, G7, m7, k7, b7⟩ := Pp
  obtain ⟨f8, d8, G8, m8, k8, b8⟩ := Cd
  obtain ⟨f9, d9, G9, m9, k9, b9⟩ := Mo
  obtain ⟨fa, da, Ga, ma, ka, ba⟩ := Bi
  obtain ⟨fb, db, Gb, mb, kb, bb⟩ := Sd
  obtain ⟨fc, dc, Gc, mc, kc, bc⟩ := Po
  obtain ⟨fv, dv, Gv, mv, kv, bv⟩ := Va
  obtain ⟨fT, dT, GT, MT, bT, ds, vd, bT1⟩ := Rt
  refine F.ok scLaw (fun vs H Q E h => ?_) (fun cdv A outer s H vs Q E hr h => ?_)
  · obtain ⟨a, ns, rfl, _⟩ := h
    rfl
  · obtain ⟨a, ns, rfl, hL, k⟩ := h
    refine ⟨_, pss_cons (ps_for PassesOwn.never rfl (pi_range1 rfl mR (pa_cons (pe_callB (call_max2 rfl) (by rfl) B.max (by decide +kernel) (pa_cons pe_int (pa_cons (pe_callB (call_min2 rfl) (by rfl) mMin (by decide +kernel) (pa_cons pe_int (pa_cons (pe_callB call_len_seq (by rfl) B.len (by decide +kernel) (pa_cons (pv 0) pa_nil)) pa_nil))) pa_nil))) pa_nil)) (pg_name (i := 1) scLaw.nd rfl (.inl rfl))
        (pss_cons (ps_set (i := 2) scLaw.nd rfl (.inl rfl) (pe_call GD (hr.mono (by decide)) rfl mD kD bD .nil pass0 (pa_cons (pv 0) (pa_cons (pv 1) pa_nil))))
        (pss_cons (ps_par (i := 3) (j := 4) (by rfl) scLaw.nd rfl rfl (by decide) rfl rfl (pa_cons (pe_call GI (hr.mono (by decide)) rfl mI kI bI .nil pass0 (pa_cons (pv 2) pa_nil)) (pa_cons (pe_op op_sub (pe_call GR (hr.mono (by decide)) rfl mfR kR bR .nil pass0 (pa_cons (pv 2) (pa_cons (pe_op op_pow pe_int pe_int) pa_nil))) (pe_op op_pow pe_int pe_int)) pa_nil)) (by rfl))
        (pss_cons (ps_if (PW.pt (pw_or (pt_not (pt_val (pe_call G1 (hr.mono (by decide)) rfl m1 k1 b1 .nil passL (pa_cons (pv 3) pa_nil)))) (pw_or (pt_not (pt_val (pe_call G2 (hr.mono (by decide)) rfl m2 k2 b2 .nil passL (pa_cons (pv 2) pa_nil)))) (pw_or (pt_not (pt_val (pe_call G3 (hr.mono (by decide)) rfl m3 k3 b3 .nil passL (pa_cons (pv 2) pa_nil))))
            (pw_or1 (pt_not (pt_val (pe_call G4 (hr.mono (by decide)) rfl m4 k4 b4 .nil pass0 (pa_cons (pv 2) pa_nil))))))))) pss_never pss_nil)
        (pss_cons (ps_if (PW.pt (pw_or (pt_cmpR op_ne (pe_call G8 (hr.mono (by decide)) rfl m8 k8 b8 .nil pass0 (pa_cons (pe_tup (pa_cons (pe_op op_mulW (pv 3) (pv 4)) (pa_cons (pe_un un_neg (pv 3)) (pa_cons pe_int pa_nil)))) pa_nil)) (pv 3) (nomark _))
            (pw_or1 (pt_cmpR op_ne (pe_call G8 (hr.mono (by decide)) rfl m8 k8 b8 .nil pass0 (pa_cons (pe_tup (pa_cons (pv 4) pa_nil)) pa_nil)) (pe_callB call_abs (by rfl) B.abs PyProof.Rows.boot_abs (pa_cons (pv 4) pa_nil)) (nomark _))))) pss_never pss_nil)
        (pss_cons (ps_set (i := 5) scLaw.nd rfl (.inl rfl) (pe_op op_add pe_int (pe_call GR (hr.mono (by decide)) rfl mfR kR bR .nil pass0 (pa_cons (pv 2) (pa_cons pe_int pa_nil)))))
        (pss_one (ps_if (PW.pt (pw_or (pt_cmpR op_ne (pe_call Gc (hr.mono (by decide)) rfl mc kc bc .nil passL (pa_cons (pv 5) pa_nil)) (pe_ix ix_list (pe_call G5 (hr.mono (by decide)) rfl m5 k5 b5 .nil pass0 (pa_cons (pv 5) pa_nil)) (pv 5) (fun _ _ => rfl)) (nomark _))
            (pw_or1 (pt_cmpR op_ne (pe_call Gc (hr.mono (by decide)) rfl mc kc bc .nil passL (pa_cons (pe_op op_sub (pv 5) pe_int) pa_nil)) (pe_ix ix_list (pe_call G5 (hr.mono (by decide)) rfl m5 k5 b5 .nil pass0 (pa_cons (pe_op op_sub (pv 5) pe_int) pa_nil)) (pe_op op_sub (pv 5) pe_int) (fun _ _ => rfl)) (nomark _))))) pss_never pss_nil))))))))
      (pss_cons (ps_set (i := 6) scLaw.nd rfl (.inl rfl) (pe_lst (pa_cons (pe_call G6 (hr.mono (by decide)) rfl m6 k6 b6 .nil passL (pa_cons pe_int pa_nil)) (pa_cons (pe_call G7 (hr.mono (by decide)) rfl m7 k7 b7 .nil passL (pa_cons pe_int pa_nil)) (pa_cons (pe_call G8 (hr.mono (by decide)) rfl m8 k8 b8 .nil pass0 (pa_cons (pe_tup pa_nil) pa_nil))
          (pa_cons (pe_call G9 (hr.mono (by decide)) rfl m9 k9 b9 .nil passL (pa_cons pe_int pa_nil)) (pa_cons (pe_call G9 (hr.mono (by decide)) rfl m9 k9 b9 .nil passL (pa_cons pe_int pa_nil)) (pa_cons (pe_call G9 (hr.mono (by decide)) rfl m9 k9 b9 .nil passL (pa_cons pe_int pa_nil))
          (pa_cons (pe_call Ga (hr.mono (by decide)) rfl ma ka ba .nil passL (pa_cons pe_int (pa_cons pe_int pa_nil))) pa_nil)))))))))
      (pss_cons (ps_if (pt_cmpR (op_neM hr.units) (pv 6) (pe_lst (pa_cons (pe_tup (pa_cons pe_int (pa_cons pe_int (pa_cons pe_int (pa_cons pe_int (pa_cons pe_int (pa_cons pe_int pa_nil))))))) (pa_cons (pe_disp (pps_cons pe_int pe_int (pps_cons pe_int pe_int (pps_cons pe_int pe_int pps_nil))) (by rfl) (by rfl) (fun z => by cases z) (by decide))
          (pa_cons pe_int (pa_cons pe_int (pa_cons pe_int (pa_cons (pe_un un_neg pe_int) (pa_cons pe_int pa_nil)))))))) (nomark _)) pss_never pss_nil)
      (pss_one (ps_ret (pe_cmpR (op_eqD hr.units) (pe_lst (pa_cons (pe_call Gb (hr.mono (by decide)) rfl mb kb bb .nil passL (pa_cons pe_int pa_nil)) (pa_cons (pe_call Gb (hr.mono (by decide)) rfl mb kb bb .nil passL (pa_cons pe_int pa_nil)) (pa_cons (pe_call Gc (hr.mono (by decide)) rfl mc kc bc .nil passL (pa_cons pe_int pa_nil)) (pa_cons (pe_call Gc (hr.mono (by decide)) rfl mc kc bc .nil passL (pa_cons pe_int pa_nil))
          (pa_cons (pe_call Gv (hr.mono (by decide)) rfl mv kv bv .nil passL (pa_cons pe_int (pa_cons (pe_make MT GT (hr.mono (by decide)) rfl G.mgC bT .nil passL (pa_cons pe_int (pa_cons pe_int pa_nil))) pa_nil))) pa_nil)))))) (pe_lst (pa_cons pe_int (pa_cons pe_int (pa_cons pe_int (pa_cons pe_int (pa_cons (pe_un un_neg pe_int) pa_nil)))))) (nomark _)))))), ?_⟩
    refine ⟨_, rfl, a, _, rfl, .inl hL, _, _, rfl, _, _, rfl, _, rfl, ?_, ?_, for_range (fun i σ H' => ∃ u1 u2 u3 u4 u5 : Option V, σ = [some (.ref a), u1, u2, u3, u4, u5, none] ∧ Same H H') ⟨none, none, none, none, none, rfl, same_refl H⟩ ?_ ?_⟩
    · split <;> (try split) <;> omega
    · split <;> (try split) <;> omega
    · rintro i σ H' hi ⟨u1, u2, u3, u4, u5, rfl, sm⟩
      have hi4 : i < 64 := by
        have e : ∀ z : Int, (if (if z < 4 then z else 4) > 1 then (if z < 4 then z else 4) else 1).toNat ≤ 4 := fun z => by split <;> (try split) <;> omega
        exact Nat.lt_of_lt_of_le hi (Nat.le_trans (e _) (by decide))
      refine ⟨_, rfl, _, rfl, a, ns, i, (by rw [Int.zero_add]; rfl), sqL_same sm hL, hi4, fun p x y np => ?_⟩
      have npH : H p = none := none_of sm np
      refine ⟨_, rfl, p, rfl, ⟨x, y, 0, upd_same⟩, fun H2 n kq2 ⟨a2, b2, c2, h2⟩ g => ?_⟩
      have S2 := same_kq (Same.tr sm (same_new np (o := .lst [.int x, .int y, .int 0]))) npH kq2
      have dn := S2 
      refine ⟨_, rfl, _, _, rfl, rfl, ⟨by decide, by decide, by decide⟩, p, a2, b2, c2, _, rfl, h2, by decide, by decide, fun r a3 c3 r0 r1 => ⟨_, _, rfl, rfl, ⟨by decide, by decide, by decide⟩, _, _, rfl, rfl, _, _, rfl, ?_⟩⟩
      have e50 : (10 : Int) ^ (50 : Int).toNat = 100000000000000000000000000000000000000000000000000 := by decide +kernel
      have e49 : (10 : Int) ^ (49 : Int).toNat = 10000000000000000000000000000000000000000000000000 := by decide +kernel
      rw [e50] at r1
      have S3 : Same H (upd H2 p (.lst [.int a3, .int b2, .int c3])) := same_put S2 npH
      have D3 : DicAt (upd H2 p (.lst [.int a3, .int b2, .int c3])) p := dic_upd
      generalize upd H2 p (.lst [.int a3, .int b2, .int c3]) = H3 at *
      refine ⟨_, rfl, n, rfl, g, fun H4 s4 => ⟨_, rfl, itF rfl ?_⟩⟩
      refine ⟨_, rfl, p, rfl, dic_same s4 D3, fun H5 k5 D5 => ⟨_, rfl, itF rfl ?_⟩⟩
      refine ⟨_, rfl, p, rfl, D5, fun H6 k6 D6 => ⟨_, rfl, itF rfl ?_⟩⟩
      refine ⟨_, rfl, p, rfl, D6, fun H7 k7 D7 => ⟨_, rfl, itF rfl ?_⟩⟩
      have S7 : Same H H7 := same_kq (same_kq (same_kq (Same.tr S3 s4) npH k5) npH k6) npH k7
      have n1 := g.1
      have n9 : n ≤ 1000000000 := by rcases g.2 with c | c <;> omega
      have fb : (r - 10 ^ (49 : Int).toNat).natAbs ≤ 100000000000000000000000000000000000000000000000000 := by rw [e49]; omega
      have nfb : (n * (r - 10 ^ (49 : Int).toNat)).natAbs ≤ 1000000000 * 100000000000000000000000000000000000000000000000000 := abs_mul_le (by omega) fb
      refine ⟨_, rfl, _, rfl, n, _, rfl, rfl, wide_mul (a := 200) (b := 200) (Nat.lt_of_le_of_lt (show n.natAbs ≤ 1000000000 by omega) (by decide)) (Nat.lt_of_le_of_lt fb (by decide)) (by decide) (by decide) (by decide), _, rfl, n, rfl, (by show 3 ≤ sizeLine; decide), fun t nt => ?_⟩
      refine ⟨t, [n * (r - 10 ^ (49 : Int).toNat), -n, 0], rfl, upd_same, (by show 3 < 1000; decide), fun m hm => ?_, fun H8 s8 => ⟨_, rfl, rfl, _, rfl, itF (by rw [gcd3 n1, decide_eq_true rfl]; rfl) ?_⟩⟩
      · simp only [List.mem_cons, List.not_mem_nil, or_false] at hm
        unfold LONG
        rcases hm with rfl | rfl | rfl
        · omega
        · omega
        · omega
      refine ⟨_, rfl, (by show 1 ≤ sizeLine; decide), fun t2 nt2 => ?_⟩
      refine ⟨t2, [r - 10 ^ (49 : Int).toNat], rfl, upd_same, (by show 1 < 1000; decide), fun m hm => ?_, fun H9 s9 => ?_⟩
      · rw [List.mem_singleton.mp hm]
        unfold LONG
        omega
      refine ⟨_, rfl, _, rfl, rfl, _, rfl, itF ?_ ?_⟩
      · rw [gcd1, abs_if, decide_eq_true rfl]; rfl
      have S9 : Same H7 H9 := Same.tr (same_new nt) (Same.tr s8 (Same.tr (same_new nt2) s9))
      obtain ⟨a4, b4, c4, h9⟩ := dic_same S9 D7
      have SH9 : Same H H9 := Same.tr S7 S9
      refine ⟨_, rfl, p, a4, b4, c4, 171, rfl, h9, by decide, by decide, fun q a5 c5 q0 q1 => ⟨_, _, rfl, rfl, ?_⟩⟩
      have S10 : Same H (upd H9 p (.lst [.int a5, .int b4, .int c5])) := same_put SH9 npH
      generalize upd H9 p (.lst [.int a5, .int b4, .int c5]) = H10 at *
      obtain ⟨m, em⟩ : ∃ m : Nat, 30 + q = (m : Int) := ⟨(30 + q).toNat, by omega⟩
      have m200 : m ≤ 200 := by omega
      have m30 : 30 ≤ m := by omega
      have em2 : (30 + q) - 30 = ((m - 30 : Nat) : Int) := by omega
      refine ⟨_, rfl, .int (30 + q), true, rfl, kd_short (by unfold LONG; omega) (by unfold LONG; omega), (fun z => nomatch z), fun i' ei _ => ?_⟩
      cases ei
      refine ⟨fun z => absurd z (by omega), fun m' e' _ H11 s11 => ?_⟩
      obtain rfl : m = m' := by omega
      refine ⟨_, rfl, m, (by show [V.int (30 + q)] ++ [] = _; rw [em]; rfl), m200, fun H12 w1 s12 _ hw1 => ?_⟩
      refine ⟨_, rfl, w1, _, m, _, rfl, congrArg V.int em, SqL.of hw1, atI_nat (getV (by rw [wAll_len]; omega)), rfl, _, rfl, itF (by rw [decide_eq_true rfl]; rfl) ?_⟩
      refine ⟨_, rfl, _, _, rfl, rfl, .int ((30 + q) - 30), true, rfl, kd_short (by unfold LONG; omega) (by unfold LONG; omega), (fun z => nomatch z), fun i' ei _ => ?_⟩
      cases ei
      refine ⟨fun z => absurd z (by omega), fun m' e' _ H13 s13 => ?_⟩
      obtain rfl : m - 30 = m' := by omega
      refine ⟨_, rfl, _, _, rfl, rfl, m - 30, (by show [V.int ((30 + q) - 30)] ++ [] = _; rw [em2]; rfl), by omega, fun H14 w2 s14 _ hw2 => ?_⟩
      refine ⟨_, rfl, _, _, rfl, rfl, w2, _, ((m - 30 : Nat) : Int), _, rfl, congrArg V.int em2, SqL.of hw2, atI_nat (getV (by rw [wAll_len]; omega)), rfl, _, rfl, itF (by rw [decide_eq_true rfl]; rfl) ?_⟩
      exact ⟨_, _, _, _, _, rfl, Same.tr S10 (Same.tr s11 (Same.tr s12 (Same.tr s13 s14)))⟩
    · rintro σ H0 ⟨u1, u2, u3, u4, u5, rfl, _⟩
      have e12 : ppd 12 = [((2 : Int), 2), (3, 1)].map kvOf := by decide +kernel
      have e360 : ppd 360 = [((2 : Int), 3), (3, 2), (5, 1)].map kvOf := by decide +kernel
      have e1 : ppd 1 = ([] : List (Int × Nat)).map kvOf := by decide +kernel
      have e30 : ppd 30 = [((2 : Int), 1), (3, 1), (5, 1)].map kvOf := by decide +kernel
      have e8 : ppd 8 = [((2 : Int), 3)].map kvOf := by decide +kernel
      have e6 : ppd 6 = [((2 : Int), 1), (3, 1)].map kvOf := by decide +kernel
      obtain ⟨pq12, pp12⟩ := ppd_at (n := 12) _ (by decide) (by decide) e12
      refine ⟨.int 12, rfl, .inr ⟨12, [(2, 2), (3, 1)], rfl, by decide, by decide, e12, prOk_of pq12 (by rw [pp12]; decide), fun H1 t1 ns1 s1 pe so h1 => ?_⟩⟩
      have en : ns1 = [1, 2, 3, 4, 6, 12] := divs_are pq12 pe so (by decide) (fun k => by
        rw [show dset (xs [((2 : Int), 2), (3, 1)]) = [1, 2, 2, 4, 3, 6, 6, 12] by decide +kernel]
        simp only [List.mem_cons, List.not_mem_nil, or_false]
        omega)
      subst en
      refine ⟨.int 360, true, rfl, kd_short (by decide +kernel) (by decide +kernel), (fun z => nomatch z), fun j ej _ => ?_⟩
      cases ej
      refine ⟨fun z => absurd z (by decide), fun z => absurd z (by decide), fun _ _ d nd => ?_⟩
      rw [e360]
      refine ⟨(by show 0 ≤ sizeLine; decide), fun t0 nt0 => ?_⟩
      refine ⟨t0, [], rfl, upd_same, (by show 0 < 1000; decide), (fun _ z => nomatch z), fun H3 s3 => ?_⟩
      refine ⟨1, [], rfl, by decide, by decide, e1, by decide, fun H4 s4 => ?_⟩
      refine ⟨12, [(2, 2), (3, 1)], rfl, by decide, by decide, e12, by decide, fun H5 s5 => ?_⟩
      refine ⟨30, [(2, 1), (3, 1), (5, 1)], rfl, by decide, by decide, e30, by decide, fun H6 s6 => ?_⟩
      refine ⟨.int 2, .int 3, true, true, rfl, kd_short (by decide +kernel) (by decide +kernel), kd_short (by decide +kernel) (by decide +kernel), fun z => ?_, fun i' _ ei _ _ => ⟨fun z => ?_, fun j' _ ej _ _ => ?_⟩⟩
      · rcases z with z | ⟨i', e, z⟩
        · cases z
        · cases e; omega
      · rcases z with z | ⟨i', e, z⟩
        · cases z
        · cases e; omega
      cases ei; cases ej
      refine ⟨(by show 7 ≤ sizeLine; decide), fun L nL => ?_⟩
      have s36 := Same.tr s3 (Same.tr s4 (Same.tr s5 s6))
      have hd6 : H6 d = some (.dK ([((2 : Int), 3), (3, 2), (5, 1)].map kvOf)) := s36 _ _ (same_new nt0 _ _ upd_same)
      have h16 : H6 t1 = some (.tup ([1, 2, 3, 4, 6, 12].map V.int)) := s36 _ _ (same_new nt0 _ _ (same_new nd _ _ h1))
      generalize H6 = H6 at *
      have hL : (upd H6 L (.lst [V.ref t1, V.ref d, V.int (gcdL []), V.int (mob []), V.int (mob [(2, 2), (3, 1)]), V.int (mob [(2, 1), (3, 1), (5, 1)]), V.int (PySem.W.mcComb 2 3)])) L = some (.lst [V.ref t1, V.ref d, V.int 0, V.int 1, V.int 0, V.int (-1), V.int 0]) := by
        rw [upd_same, show gcdL [] = 0 from rfl, show mob [] = 1 from rfl, show mob [((2 : Int), 2), (3, 1)] = 0 by decide, show mob [((2 : Int), 1), (3, 1), (5, 1)] = -1 by decide, show PySem.W.mcComb 2 3 = 0 by decide +kernel]
      have hd7 := same_new nL (o := .lst [V.ref t1, V.ref d, V.int (gcdL []), V.int (mob []), V.int (mob [(2, 2), (3, 1)]), V.int (mob [(2, 1), (3, 1), (5, 1)]), V.int (PySem.W.mcComb 2 3)]) _ _ hd6
      have h17 := same_new nL (o := .lst [V.ref t1, V.ref d, V.int (gcdL []), V.int (mob []), V.int (mob [(2, 2), (3, 1)]), V.int (mob [(2, 1), (3, 1), (5, 1)]), V.int (PySem.W.mcComb 2 3)]) _ _ h16
      generalize upd H6 L (.lst [V.ref t1, V.ref d, V.int (gcdL []), V.int (mob []), V.int (mob [(2, 2), (3, 1)]), V.int (mob [(2, 1), (3, 1), (5, 1)]), V.int (PySem.W.mcComb 2 3)]) = H7 at *
      refine ⟨_, rfl, (by show 6 ≤ sizeLine; decide), fun t2 nt2 => ?_⟩
      intro p2 np2
      refine ⟨upd_same, [(Sum.inl 2, .int 3), (Sum.inl 3, .int 2), (Sum.inl 5, .int 1)], rfl, by decide, ?_⟩
      rw [upd_upd]
      refine ⟨1, rfl, (by show 7 ≤ sizeLine; decide), fun L2 nL2 => ?_⟩
      have sA := Same.tr (same_new nt2 (o := .tup [V.int 1, V.int 2, V.int 3, V.int 4, V.int 6, V.int 12])) (Same.tr (same_new np2 (o := .dK (mergeK [] [(Sum.inl 2, .int 3), (Sum.inl 3, .int 2), (Sum.inl 5, .int 1)]))) (same_new nL2 (o := .lst [V.ref t2, V.ref p2, V.int 0, V.int 1, V.int 0, V.int (-1), V.int 0])))
      have sB := Same.tr (same_new np2 (o := .dK (mergeK [] [(Sum.inl 2, .int 3), (Sum.inl 3, .int 2), (Sum.inl 5, .int 1)]))) (same_new nL2 (o := .lst [V.ref t2, V.ref p2, V.int 0, V.int 1, V.int 0, V.int (-1), V.int 0]))
      have ht2 := sB _ _ (upd_same (H := H7) (a := t2) (o := .tup [V.int 1, V.int 2, V.int 3, V.int 4, V.int 6, V.int 12]))
      have hp2 := same_new nL2 (o := .lst [V.ref t2, V.ref p2, V.int 0, V.int 1, V.int 0, V.int (-1), V.int 0]) _ _ (upd_same (H := upd H7 t2 (.tup [V.int 1, V.int 2, V.int 3, V.int 4, V.int 6, V.int 12])) (a := p2) (o := .dK (mergeK [] [(Sum.inl 2, .int 3), (Sum.inl 3, .int 2), (Sum.inl 5, .int 1)])))
      refine ⟨L, L2, _, _, rfl, rfl, SqL.of (sA _ _ hL), SqL.of upd_same, .cons ?_ (.cons ?_ (.cons (.inl (eqT_flat rfl)) (.cons (.inl (eqT_flat rfl)) (.cons (.inl (eqT_flat rfl)) (.cons (.inl (eqT_flat rfl)) (.cons (.inl (eqT_flat rfl)) .nil)))))), ?_⟩
      · exact .inl (eqT_tup (SqT.of (sA _ _ h17)) (SqT.of ht2) (.cons (eqT_flat rfl) (.cons (eqT_flat rfl) (.cons (eqT_flat rfl) (.cons (eqT_flat rfl) (.cons (eqT_flat rfl) (.cons (eqT_flat rfl) .nil)))))))
      · refine .inr (.inr (.inr (.inr ⟨d, p2, _, _, rfl, rfl, sA _ _ hd7, hp2, rfl, fun pr hpr => ?_⟩)))
        simp only [List.map_cons, List.map_nil, List.mem_cons, List.not_mem_nil, or_false] at hpr
        rcases hpr with rfl | rfl | rfl
        · exact ⟨_, rfl, .inl ⟨rfl, rfl⟩⟩
        · exact ⟨_, rfl, .inl ⟨rfl, rfl⟩⟩
        · exact ⟨_, rfl, .inl ⟨rfl, rfl⟩⟩
      refine ⟨_, rfl, itF rfl ?_⟩
      generalize upd (upd (upd H7 t2 (.tup [V.int 1, V.int 2, V.int 3, V.int 4, V.int 6, V.int 12])) p2 (.dK (mergeK [] [(Sum.inl 2, .int 3), (Sum.inl 3, .int 2), (Sum.inl 5, .int 1)]))) L2 (.lst [V.ref t2, V.ref p2, V.int 0, V.int 1, V.int 0, V.int (-1), V.int 0]) = H8
      refine ⟨8, [(2, 3)], rfl, by decide, by decide, e8, fun H9 s9 => ?_⟩
      refine ⟨6, [(2, 1), (3, 1)], rfl, by decide, by decide, e6, fun Ha sa => ?_⟩
      refine ⟨.int 0, true, rfl, kd_short (by decide +kernel) (by decide +kernel), (fun z => nomatch z), fun i' ei _ => ?_⟩
      cases ei
      refine ⟨fun z => absurd z (by omega), fun m' e' _ Hb sb => ?_⟩
      obtain rfl : m' = 0 := by omega
      refine ⟨.int 10, true, rfl, kd_short (by decide +kernel) (by decide +kernel), (fun z => nomatch z), fun i' ei _ => ?_⟩
      cases ei
      refine ⟨fun z => absurd z (by omega), fun m' e' _ Hc sc => ?_⟩
      obtain rfl : m' = 10 := by omega
      refine fun x dx nx nd2 ne => ⟨x, dx, _, _, true, true, rfl, upd_same, kd_short (by decide +kernel) (by decide +kernel), kd_short (by decide +kernel) (by decide +kernel), (fun z => nomatch z), (fun _ z => nomatch z), fun t b et eb _ _ => ?_⟩
      cases et
      cases eb
      refine ⟨fun z => absurd z (by decide), fun _ He bu hxe => ⟨rfl, ?_⟩⟩
      have eT : lT 3 8 = 3 := by decide +kernel
      have eB : lB 3 8 = 8 := by decide +kernel
      refine ⟨V.int 2, .ref x, rfl, .inr ⟨2, rfl, by decide +kernel, by decide, .inr (.inr ⟨lT 3 8, lB 3 8, .inl ⟨x, rfl, dx, hxe⟩, by rw [eT]; decide, by rw [eB]; decide, fun Hf u v sf u1' u2' v1' v2' => ?_⟩)⟩⟩
      rw [eT] at u1' u2'
      rw [eB] at v1' v2'
      have eu : 0 = u := pow_uniq (g := 2) (n := 3) (by decide) (by decide) u1' u2'
      have ev : 3 = v := pow_uniq (g := 2) (n := 8) (by decide) (by decide) v1' v2'
      subst eu ev
      refine ⟨(by show 5 ≤ sizeLine; decide), fun L3 nL3 => ?_⟩
      refine ⟨3, rfl, (by show 5 ≤ sizeLine; decide), fun L4 nL4 => ?_⟩
      refine ⟨_, _, .lst (SqL.of (same_new nL4 _ _ (?_ : (upd Hf L3 (.lst [V.int (sdv [(2, 3)]), V.int (sdv [(2, 1), (3, 1)]), V.int ((wAll 0 0).getD 0 0), V.int ((wAll 10 10).getD 10 0), V.int (((0 : Nat) : Int) - (3 : Nat))])) L3 = some (.lst ([2, 1, 1, 42, -3].map V.int))))) (dp_ints [2, 1, 1, 42, -3]), .lst (SqL.of (upd_same (o := .lst ([2, 1, 1, 42, -3].map V.int)))) (dp_ints [2, 1, 1, 42, -3]), (sh_ints _).1, (sh_ints _).1, ?_⟩
      · rw [upd_same, show (wAll 10 10).getD 10 0 = 42 by decide +kernel]
        rfl
      rw [(sh_ints _).2]
      exact k _
end
end Lk

set_option Elab.async false
set_option linter.all false
set_option maxRecDepth 100000
set_option maxHeartbeats 8000000
set_option exponentiation.threshold 10000
namespace Lk
open PySem L2 Vx
theorem kit_no {K : PySem.W.Frag} {C : Addr} {t : Value} (h2 : PySem.W.isClsIn K C = true) (h3 : PySem.W.typeIn K (.ref C) = some (.type "type")) (h4 : PySem.W.subIn K t (.ref C) = some false) (hn : (t == .ref C) = false) :
    PySem.W.kitOne K t (.ref C) = some false := by
  have e2 : ((PySem.W.clsIn K C).isSome && PySem.W.typeIn K (.ref C) == some (.type "type")) = true := by
    have h2' : (PySem.W.clsIn K C).isSome = true := h2
    rw [h2', h3] <;> rfl
  unfold PySem.W.kitOne
  rw [hn, if_neg Bool.false_ne_true]
  show (if ((PySem.W.clsIn K C).isSome && PySem.W.typeIn K (.ref C) == some (.type "type")) = true then PySem.W.subIn K t (.ref C) else none) = some false
  rw [if_pos e2]
  exact h4
theorem bind3 {K : PySem.W.Frag} {f : Addr} {fd : FuncData} (FI : FunD K "__init__" "Ratio.__init__" (defArgs (sIn 0)) (defBody (sIn 0)) (defScope (sIn 0)) [V.int 1] [] f fd) : Binds K fd ["self", "top", "bottom"] [] := by
  obtain ⟨ds, v, bb⟩ := FI.binds1 (ps := ["self", "top", "bottom"]) 3 1 (by simp) rfl (fun T kV dc pm an cd ct us its l1 l2 => match us, its, l1, l2 with | [_, _, _], [_], _, _ => ⟨_, rfl, rfl⟩)
  cases v
  exact bb
theorem bind2 {K : PySem.W.Frag} {f : Addr} {fd : FuncData} (FI : FunD K "__init__" "Ratio.__init__" (defArgs (sIn 0)) (defBody (sIn 0)) (defScope (sIn 0)) [V.int 1] [] f fd) : ∃ ds, Vals [V.int 1] ds ∧ Binds K fd ["self", "top", "bottom"] ds :=
  FI.binds1 (ps := ["self", "top", "bottom"]) 2 0 (by simp) rfl (fun T kV dc pm an cd ct us its l1 l2 => match us, its, l1, l2 with | [_, _], [_], _, _ => ⟨_, rfl, rfl⟩)
theorem scGet (j : Nat) (h : j = 2 ∨ j = 3) : FnScope ["self"] ["self"] (defScope (sIn j)) := by
  rcases h with rfl | rfl
  · exact ⟨rfl, rfl, rfl, by decide +kernel, rfl, by decide +kernel, by decide +kernel⟩
  · exact ⟨rfl, rfl, rfl, by decide +kernel, rfl, by decide +kernel, by decide +kernel⟩
theorem too_long {p : Program} {mg : Str → Option Value} {h : Heap} (x : PySem.W.XL p [(Str.ofString "_TOO_LONG", PySem.W.WData.int 1000000000000000000000000000000000000000000000000000000000000), (Str.ofString "MAX_FACTORED", PySem.W.WData.int 1000000000)] mg h) : ∃ t, mg "_TOO_LONG" = some (.int LONG t) := by
  obtain ⟨v, e, r⟩ := x.2.val _ (List.Mem.head _)
  cases r with
  | int i t => exact ⟨t, e⟩
theorem max_factored {p : Program} {mg : Str → Option Value} {h : Heap} (x : PySem.W.XL p [(Str.ofString "_TOO_LONG", PySem.W.WData.int 1000000000000000000000000000000000000000000000000000000000000), (Str.ofString "MAX_FACTORED", PySem.W.WData.int 1000000000)] mg h) : ∃ t, mg "MAX_FACTORED" = some (.int 1000000000 t) := by
  obtain ⟨v, e, r⟩ := x.2.val _ (List.Mem.tail _ (List.Mem.head _))
  cases r with
  | int i t => exact ⟨t, e⟩
/-- a def's code object with its empty table -/
def CodeHere (c P : Addr) (h : Heap) : Prop := PySem.W.CodeHd h c P ∧ h.get? P = some { cls := .none, data := .fields #[] }
/-- as LawAtS, of any program -/
def LawAtC (prog : Program) (w : World) (K : PySem.W.Frag) (CX : CXT) (k : Nat) (x : Str) (mg : Str → Option Value) (fa : Addr) (h : Heap) : Prop :=
  ∃ (fd : FuncData) (cs : List (Addr × Addr)) (sp : Sp), (∀ p ∈ cs, h.get? p.2 = some { cls := .none, data := .fields #[] }) ∧ (∀ p ∈ cs, K.lookup p.2 = none) ∧ (∀ p ∈ cs, PySem.W.CodeHd h p.1 p.2) ∧ (∀ (s : Shared) (u : Value), BindsTo s fd ⟨[u], []⟩ [(x, u)]) ∧
    (∀ (H : Hp) (a : Addr) (ns : List Int), ns.length ≤ 63 → True → (∀ p ∈ cs, H p.2 = some (.tbl #[])) → SqL K H a (ns.map V.int) → sp [.ref a] H (fun v _ => v = .bl true) fun _ _ _ => False) ∧
    ∀ base : Heap, K.In base → base.Ns mainGlobals mg → (∀ p ∈ cs, LamX.TabB base mg p.1 p.2) → FnOk prog w K mg base CX k fa fd [x] sp
theorem tabIn_of {K : PySem.W.Frag} {x : Str} {f c P : Addr} {oc e : Value} {od dd : Option Addr} {fd : FuncData} {sl sl2 : Array (Option Value)} {vs : Array Value} (h1 : PySem.W.nsIn K mainGlobals x = some (some (.ref f))) (h2 : K.lookup f = some ⟨oc, od, .func fd, sl⟩) (h3 : fd.code = .ref c)
    (h4 : K.lookup c = some ⟨e, dd, .fields vs, sl2⟩) (h5 : vs[11]? = some (.ref P)) : PySem.W.tabIn K x = some (c, P) := by
  unfold PySem.W.tabIn
  rw [h1]
  dsimp only
  rw [h2]
  dsimp only
  rw [h3]
  dsimp only
  rw [h4]
  dsimp only
  rw [h5]
theorem walkT {l : PySem.W.OpenLaw} {q : Program} {loose : List Str} {XP : (Str → Option Value) → Heap → Prop} {YP : World → Heap → Prop} {d : DefRec} {K : Params → PySem.W.Frag} {k : Nat} (hn : l.most = some 63) (hdf : d.params.defaults = []) (hr : Room k callerA)
    (hY : ∀ (w : World) (h : Heap), YP w h → (K w.params).In h)
    (F : ∀ (w : World) (mg : Str → Option Value) (fa : Addr) (h : Heap), YP w h → (K w.params).In h → h.Ns mainGlobals mg → XP mg h → mg d.name = some (.ref fa) → LawAtC l.prog w (K w.params) CX0 k "_law_script" mg fa h) :
    PySem.W.WalkO q loose XP YP l.row.toRowW d [] (fun f vs => PySem.call f vs) := by
  refine Att.attach_call hn hdf fun w s₀ s₁ mg mb fa o pm cd doc a vs ns G Y ho hd hcd hmg hobj hints hlen hg => ?_
  have KX := hY w _ Y
  obtain ⟨fd, cs, sp, hT, nT, C, hb, hsp, hF⟩ := F w mg fa _ Y KX G.T.g G.X hmg
  exact LamX.law_callTs KX G.T.g G.T.b G.T.builtins G.T.nolimit hg hT nT C G.T.bmain hobj hints (Nat.le_trans hlen (by decide)) hr hF hb (fun H hH hS => hsp H a ns hlen trivial hH hS) fun H e s' z => z
theorem all_mk {P : Program} {w : World} {K : PySem.W.Frag} {h : Heap} {mg : Str → Option Value} {fa : Addr} (X : K.In h) (G : h.Ns mainGlobals mg) (hfa : mg "law" = some (.ref fa)) (hTL : ∃ t, mg "_TOO_LONG" = some (.int LONG t)) (hMF : ∃ t, mg "MAX_FACTORED" = some (.int 1000000000 t))
    {C fI0 TI q2 fp2 q3 fp3 fd14 fd15 fd17 fd26 fd27 fd28 fd29 fd30 fd31 fd32 fd33 fd34 fd35 fd36 fd37 fd38 fd39 fd40 fd41 fd43 fd44 fd45 fd46 fd47 fd48 fd49 fd50 fd51 fd52 fd53 fd54 fd55 CO CPr CR CE fE NE CT fT NT : Addr} {odI0 anI0 odT_ odp2 anp2 odp3 anp3 odd14 and14 odd15 and15 odd17 and17 odd26 and26 odd27 and27 odd28 and28 odd29 and29 odd30 and30 odd31 and31 odd32 and32 odd33 and33 odd34 and34 odd35 and35 odd36 and36 odd37 and37 odd38 and38 odd39 and39 odd40 and40 odd41 and41 odd43 and43 odd44 and44 odd45 and45 odd46 and46 odd47 and47 odd48 and48 odd49 and49 odd50 and50 odd51 and51 odd52 and52 odd53 and53 odd54 and54 odd55 and55 odE anE odT anT : Option Addr} {slI0 slT_ slp2 slp3 sld14 sld15 sld17 sld26 sld27 sld28 sld29 sld30 sld31 sld32 sld33 sld34 sld35 sld36 sld37 sld38 sld39 sld40 sld41 sld43 sld44 sld45 sld46 sld47 sld48 sld49 sld50 sld51 sld52 sld53 sld54 sld55 slE slT : Array (Option Value)} {ocI0 kVI0 dcI0 pmI0 ctI0 cdI0 ocT_ ocp2 kVp2 dcp2 pmp2 ctp2 cdp2 ocp3 kVp3 dcp3 pmp3 ctp3 cdp3 ocd14 kVd14 dcd14 pmd14 ctd14 cdd14 ocd15 kVd15 dcd15 pmd15 ctd15 cdd15 ocd17 kVd17 dcd17 pmd17 ctd17 cdd17 ocd26 kVd26 dcd26 pmd26 ctd26 cdd26 ocd27 kVd27 dcd27 pmd27 ctd27 cdd27 ocd28 kVd28 dcd28 pmd28 ctd28 cdd28 ocd29 kVd29 dcd29 pmd29 ctd29 cdd29 ocd30 kVd30 dcd30 pmd30 ctd30 cdd30 ocd31 kVd31 dcd31 pmd31 ctd31 cdd31 ocd32 kVd32 dcd32 pmd32 ctd32 cdd32 ocd33 kVd33 dcd33 pmd33 ctd33 cdd33 ocd34 kVd34 dcd34 pmd34 ctd34 cdd34 ocd35 kVd35 dcd35 pmd35 ctd35 cdd35 ocd36 kVd36 dcd36 pmd36 ctd36 cdd36 ocd37 kVd37 dcd37 pmd37 ctd37 cdd37 ocd38 kVd38 dcd38 pmd38 ctd38 cdd38 ocd39 kVd39 dcd39 pmd39 ctd39 cdd39 ocd40 kVd40 dcd40 pmd40 ctd40 cdd40 ocd41 kVd41 dcd41 pmd41 ctd41 cdd41 ocd43 kVd43 dcd43 pmd43 ctd43 cdd43 ocd44 kVd44 dcd44 pmd44 ctd44 cdd44 ocd45 kVd45 dcd45 pmd45 ctd45 cdd45 ocd46 kVd46 dcd46 pmd46 ctd46 cdd46 ocd47 kVd47 dcd47 pmd47 ctd47 cdd47 ocd48 kVd48 dcd48 pmd48 ctd48 cdd48 ocd49 kVd49 dcd49 pmd49 ctd49 cdd49 ocd50 kVd50 dcd50 pmd50 ctd50 cdd50 ocd51 kVd51 dcd51 pmd51 ctd51 cdd51 ocd52 kVd52 dcd52 pmd52 ctd52 cdd52 ocd53 kVd53 dcd53 pmd53 ctd53 cdd53 ocd54 kVd54 dcd54 pmd54 ctd54 cdd54 ocd55 kVd55 dcd55 pmd55 ctd55 cdd55 ocE kVE dcE pmE ctE cdE ocT kVT dcT pmT ctT cdT : Value}
    {dtT : Data} {rsp2 rsp3 : List Value} {tkMAX_NAME tkMAX_CHOSEN tkMAX_PRIME tk_MAX_PARTITIONED : Tok} {nmE qnE : Str} {bsE : List Value} {snE : List Str} {sbE : List Value} {abE : Bool} {coE : Option Bool} {ddE : Option Addr} {mE0 mE1 mE2 mE3 mE5 : Option Value} {peE1 peE2 qeE1 qeE2 qeE3 qeE4 : Pos} {nmT qnT : Str} {bsT : List Value} {snT : List Str} {sbT : List Value} {abT : Bool} {coT : Option Bool} {ddT : Option Addr} {mT0 mT1 mT2 mT3 mT5 : Option Value} {peT1 peT2 qeT1 qeT2 qeT3 qeT4 : Pos}
    (aC : PySem.W.nsIn K mainGlobals "Ratio" = some (some (.ref C)))
    (pg : PySem.W.plainGet K C Str.empty = true)
    (hd : PySem.W.hasDictIn K C = true)
    (po : PySem.W.plainOver K C = true)
    (sa : PySem.W.findIn K (.ref C) "__setattr__" = some (some (.builtin "object.__setattr__")))
    (mk : PySem.W.makesIn K C = true)
    (kC : PySem.W.keepIn K (.ref C) = true)
    (nT : PySem.W.findIn K (.ref C) "_top" = some none)
    (nB : PySem.W.findIn K (.ref C) "_bottom" = some none)
    (ca : PySem.W.findIn K (.ref C) "__class__" = some (some (.builtin "object.__class__")))
    (cn : PySem.W.specialIn K (.builtin "object.__class__") "__get__" = some (some (.builtin "getset_descriptor.__get__")))
    (ct0 : PySem.W.takesIn K (.builtin "object.__class__") = some true)
    (mo : PySem.W.mroIn K C (.type "object") = some true)
    (iC : PySem.W.isClsIn K C = true)
    (tC : PySem.W.typeIn K (.ref C) = some (.type "type"))
    (sKn : PySem.W.subIn K (.type "NoneType") (.ref C) = some false)
    (sKb : PySem.W.subIn K (.type "bool") (.ref C) = some false)
    (sKi : PySem.W.subIn K (.type "int") (.ref C) = some false)
    (sKs : PySem.W.subIn K (.type "str") (.ref C) = some false)
    (sKt : PySem.W.subIn K (.type "tuple") (.ref C) = some false)
    (sKl : PySem.W.subIn K (.type "list") (.ref C) = some false)
    (sKd : PySem.W.subIn K (.type "dict") (.ref C) = some false)
    (aI0 : PySem.W.findIn K (.ref C) "__init__" = some (some (.ref fI0)))
    (iI0 : PySem.W.isFn K (.ref fI0) = true)
    (lI0 : K.lookup fI0 = some ⟨ocI0, odI0, .func (PySem.W.fnOf "__init__" "Ratio.__init__" (defArgs (sIn 0)) (defBody (sIn 0)) (defScope (sIn 0)) (.ref TI) kVI0 dcI0 pmI0 anI0 cdI0 ctI0), slI0⟩)
    (cI0 : PySem.W.codeIn K cdI0 "Ratio.__init__" = true)
    (kI0 : PySem.W.keepIn K (.ref fI0) = true)
    (lT_ : K.lookup TI = some ⟨ocT_, odT_, dtT, slT_⟩)
    (ap2 : PySem.W.findIn K (.ref C) "top" = some (some (.ref q2)))
    (gp2 : PySem.W.specialIn K (.ref q2) "__get__" = some (some (.builtin "property.__get__")))
    (tp2 : PySem.W.takesIn K (.ref q2) = some true)
    (rp2 : PySem.W.recIn K q2 "property" = some (.ref fp2 :: rsp2))
    (lp2 : K.lookup fp2 = some ⟨ocp2, odp2, .func (PySem.W.fnOf "top" "Ratio.top" (defArgs (sIn 2)) (defBody (sIn 2)) (defScope (sIn 2)) .none kVp2 dcp2 pmp2 anp2 cdp2 ctp2), slp2⟩)
    (cp2 : PySem.W.codeIn K cdp2 "Ratio.top" = true)
    (kp2 : PySem.W.keepIn K (.ref fp2) = true)
    (ap3 : PySem.W.findIn K (.ref C) "bottom" = some (some (.ref q3)))
    (gp3 : PySem.W.specialIn K (.ref q3) "__get__" = some (some (.builtin "property.__get__")))
    (tp3 : PySem.W.takesIn K (.ref q3) = some true)
    (rp3 : PySem.W.recIn K q3 "property" = some (.ref fp3 :: rsp3))
    (lp3 : K.lookup fp3 = some ⟨ocp3, odp3, .func (PySem.W.fnOf "bottom" "Ratio.bottom" (defArgs (sIn 3)) (defBody (sIn 3)) (defScope (sIn 3)) .none kVp3 dcp3 pmp3 anp3 cdp3 ctp3), slp3⟩)
    (cp3 : PySem.W.codeIn K cdp3 "Ratio.bottom" = true)
    (kp3 : PySem.W.keepIn K (.ref fp3) = true)
    (ad14 : PySem.W.nsIn K mainGlobals "is_short_integer" = some (some (.ref fd14)))
    (ld14 : K.lookup fd14 = some ⟨ocd14, odd14, .func (PySem.W.fnOf "is_short_integer" "is_short_integer" (defArgs (sShort)) (defBody (sShort)) (defScope (sShort)) .none kVd14 dcd14 pmd14 and14 cdd14 ctd14), sld14⟩)
    (cd14 : PySem.W.codeIn K cdd14 "is_short_integer" = true)
    (kd14 : PySem.W.keepIn K (.ref fd14) = true)
    (ad15 : PySem.W.nsIn K mainGlobals "ratio_of" = some (some (.ref fd15)))
    (ld15 : K.lookup fd15 = some ⟨ocd15, odd15, .func (PySem.W.fnOf "ratio_of" "ratio_of" (defArgs (sOf)) (defBody (sOf)) (defScope (sOf)) .none kVd15 dcd15 pmd15 and15 cdd15 ctd15), sld15⟩)
    (cd15 : PySem.W.codeIn K cdd15 "ratio_of" = true)
    (kd15 : PySem.W.keepIn K (.ref fd15) = true)
    (ad17 : PySem.W.nsIn K mainGlobals "_lowest_terms" = some (some (.ref fd17)))
    (ld17 : K.lookup fd17 = some ⟨ocd17, odd17, .func (PySem.W.fnOf "_lowest_terms" "_lowest_terms" (defArgs (sLow)) (defBody (sLow)) (defScope (sLow)) .none kVd17 dcd17 pmd17 and17 cdd17 ctd17), sld17⟩)
    (cd17 : PySem.W.codeIn K cdd17 "_lowest_terms" = true)
    (kd17 : PySem.W.keepIn K (.ref fd17) = true)
    (ad26 : PySem.W.nsIn K mainGlobals "is_integer" = some (some (.ref fd26)))
    (ld26 : K.lookup fd26 = some ⟨ocd26, odd26, .func (PySem.W.fnOf "is_integer" "is_integer" (defArgs (sIsI)) (defBody (sIsI)) (defScope (sIsI)) .none kVd26 dcd26 pmd26 and26 cdd26 ctd26), sld26⟩)
    (cd26 : PySem.W.codeIn K cdd26 "is_integer" = true)
    (kd26 : PySem.W.keepIn K (.ref fd26) = true)
    (ad27 : PySem.W.nsIn K mainGlobals "is_name" = some (some (.ref fd27)))
    (ld27 : K.lookup fd27 = some ⟨ocd27, odd27, .func (PySem.W.fnOf "is_name" "is_name" (defArgs (sNm)) (defBody (sNm)) (defScope (sNm)) .none kVd27 dcd27 pmd27 and27 cdd27 ctd27), sld27⟩)
    (cd27 : PySem.W.codeIn K cdd27 "is_name" = true)
    (kd27 : PySem.W.keepIn K (.ref fd27) = true)
    (ad28 : PySem.W.nsIn K mainGlobals "is_prime" = some (some (.ref fd28)))
    (ld28 : K.lookup fd28 = some ⟨ocd28, odd28, .func (PySem.W.fnOf "is_prime" "is_prime" (defArgs (sPr)) (defBody (sPr)) (defScope (sPr)) .none kVd28 dcd28 pmd28 and28 cdd28 ctd28), sld28⟩)
    (cd28 : PySem.W.codeIn K cdd28 "is_prime" = true)
    (kd28 : PySem.W.keepIn K (.ref fd28) = true)
    (ad29 : PySem.W.nsIn K mainGlobals "check_prime" = some (some (.ref fd29)))
    (ld29 : K.lookup fd29 = some ⟨ocd29, odd29, .func (PySem.W.fnOf "check_prime" "check_prime" (defArgs (sCp)) (defBody (sCp)) (defScope (sCp)) .none kVd29 dcd29 pmd29 and29 cdd29 ctd29), sld29⟩)
    (cd29 : PySem.W.codeIn K cdd29 "check_prime" = true)
    (kd29 : PySem.W.keepIn K (.ref fd29) = true)
    (ad30 : PySem.W.nsIn K mainGlobals "check_count" = some (some (.ref fd30)))
    (ld30 : K.lookup fd30 = some ⟨ocd30, odd30, .func (PySem.W.fnOf "check_count" "check_count" (defArgs (sChk)) (defBody (sChk)) (defScope (sChk)) .none kVd30 dcd30 pmd30 and30 cdd30 ctd30), sld30⟩)
    (cd30 : PySem.W.codeIn K cdd30 "check_count" = true)
    (kd30 : PySem.W.keepIn K (.ref fd30) = true)
    (ad31 : PySem.W.nsIn K mainGlobals "common_divisor" = some (some (.ref fd31)))
    (ld31 : K.lookup fd31 = some ⟨ocd31, odd31, .func (PySem.W.fnOf "common_divisor" "common_divisor" (defArgs (sCd)) (defBody (sCd)) (defScope (sCd)) .none kVd31 dcd31 pmd31 and31 cdd31 ctd31), sld31⟩)
    (cd31 : PySem.W.codeIn K cdd31 "common_divisor" = true)
    (kd31 : PySem.W.keepIn K (.ref fd31) = true)
    (ad32 : PySem.W.nsIn K mainGlobals "divisors" = some (some (.ref fd32)))
    (ld32 : K.lookup fd32 = some ⟨ocd32, odd32, .func (PySem.W.fnOf "divisors" "divisors" (defArgs (sDv)) (defBody (sDv)) (defScope (sDv)) .none kVd32 dcd32 pmd32 and32 cdd32 ctd32), sld32⟩)
    (cd32 : PySem.W.codeIn K cdd32 "divisors" = true)
    (kd32 : PySem.W.keepIn K (.ref fd32) = true)
    (ad33 : PySem.W.nsIn K mainGlobals "prime_powers" = some (some (.ref fd33)))
    (ld33 : K.lookup fd33 = some ⟨ocd33, odd33, .func (PySem.W.fnOf "prime_powers" "prime_powers" (defArgs (sPp)) (defBody (sPp)) (defScope (sPp)) .none kVd33 dcd33 pmd33 and33 cdd33 ctd33), sld33⟩)
    (cd33 : PySem.W.codeIn K cdd33 "prime_powers" = true)
    (kd33 : PySem.W.keepIn K (.ref fd33) = true)
    (ad34 : PySem.W.nsIn K mainGlobals "moebius" = some (some (.ref fd34)))
    (ld34 : K.lookup fd34 = some ⟨ocd34, odd34, .func (PySem.W.fnOf "moebius" "moebius" (defArgs (sMo)) (defBody (sMo)) (defScope (sMo)) .none kVd34 dcd34 pmd34 and34 cdd34 ctd34), sld34⟩)
    (cd34 : PySem.W.codeIn K cdd34 "moebius" = true)
    (kd34 : PySem.W.keepIn K (.ref fd34) = true)
    (ad35 : PySem.W.nsIn K mainGlobals "valuation" = some (some (.ref fd35)))
    (ld35 : K.lookup fd35 = some ⟨ocd35, odd35, .func (PySem.W.fnOf "valuation" "valuation" (defArgs (sVal)) (defBody (sVal)) (defScope (sVal)) .none kVd35 dcd35 pmd35 and35 cdd35 ctd35), sld35⟩)
    (cd35 : PySem.W.codeIn K cdd35 "valuation" = true)
    (kd35 : PySem.W.keepIn K (.ref fd35) = true)
    (ad36 : PySem.W.nsIn K mainGlobals "binomial" = some (some (.ref fd36)))
    (ld36 : K.lookup fd36 = some ⟨ocd36, odd36, .func (PySem.W.fnOf "binomial" "binomial" (defArgs (sBin)) (defBody (sBin)) (defScope (sBin)) .none kVd36 dcd36 pmd36 and36 cdd36 ctd36), sld36⟩)
    (cd36 : PySem.W.codeIn K cdd36 "binomial" = true)
    (kd36 : PySem.W.keepIn K (.ref fd36) = true)
    (ad37 : PySem.W.nsIn K mainGlobals "step_divisor" = some (some (.ref fd37)))
    (ld37 : K.lookup fd37 = some ⟨ocd37, odd37, .func (PySem.W.fnOf "step_divisor" "step_divisor" (defArgs (sSd)) (defBody (sSd)) (defScope (sSd)) .none kVd37 dcd37 pmd37 and37 cdd37 ctd37), sld37⟩)
    (cd37 : PySem.W.codeIn K cdd37 "step_divisor" = true)
    (kd37 : PySem.W.keepIn K (.ref fd37) = true)
    (ad38 : PySem.W.nsIn K mainGlobals "partitions_of" = some (some (.ref fd38)))
    (ld38 : K.lookup fd38 = some ⟨ocd38, odd38, .func (PySem.W.fnOf "partitions_of" "partitions_of" (defArgs (sPo)) (defBody (sPo)) (defScope (sPo)) .none kVd38 dcd38 pmd38 and38 cdd38 ctd38), sld38⟩)
    (cd38 : PySem.W.codeIn K cdd38 "partitions_of" = true)
    (kd38 : PySem.W.keepIn K (.ref fd38) = true)
    (ad39 : PySem.W.nsIn K mainGlobals "_check_factored" = some (some (.ref fd39)))
    (ld39 : K.lookup fd39 = some ⟨ocd39, odd39, .func (PySem.W.fnOf "_check_factored" "_check_factored" (defArgs (sFct)) (defBody (sFct)) (defScope (sFct)) .none kVd39 dcd39 pmd39 and39 cdd39 ctd39), sld39⟩)
    (cd39 : PySem.W.codeIn K cdd39 "_check_factored" = true)
    (kd39 : PySem.W.keepIn K (.ref fd39) = true)
    (ad40 : PySem.W.nsIn K mainGlobals "_least_factor" = some (some (.ref fd40)))
    (ld40 : K.lookup fd40 = some ⟨ocd40, odd40, .func (PySem.W.fnOf "_least_factor" "_least_factor" (defArgs (sLf)) (defBody (sLf)) (defScope (sLf)) .none kVd40 dcd40 pmd40 and40 cdd40 ctd40), sld40⟩)
    (cd40 : PySem.W.codeIn K cdd40 "_least_factor" = true)
    (kd40 : PySem.W.keepIn K (.ref fd40) = true)
    (ad41 : PySem.W.nsIn K mainGlobals "_times_divided" = some (some (.ref fd41)))
    (ld41 : K.lookup fd41 = some ⟨ocd41, odd41, .func (PySem.W.fnOf "_times_divided" "_times_divided" (defArgs (sTd)) (defBody (sTd)) (defScope (sTd)) .none kVd41 dcd41 pmd41 and41 cdd41 ctd41), sld41⟩)
    (cd41 : PySem.W.codeIn K cdd41 "_times_divided" = true)
    (kd41 : PySem.W.keepIn K (.ref fd41) = true)
    (ad43 : PySem.W.nsIn K mainGlobals "_law_dice" = some (some (.ref fd43)))
    (ld43 : K.lookup fd43 = some ⟨ocd43, odd43, .func (PySem.W.fnOf "_law_dice" "_law_dice" (defArgs (sDic)) (defBody (sDic)) (defScope (sDic)) .none kVd43 dcd43 pmd43 and43 cdd43 ctd43), sld43⟩)
    (cd43 : PySem.W.codeIn K cdd43 "_law_dice" = true)
    (kd43 : PySem.W.keepIn K (.ref fd43) = true)
    (ad44 : PySem.W.nsIn K mainGlobals "_law_roll" = some (some (.ref fd44)))
    (ld44 : K.lookup fd44 = some ⟨ocd44, odd44, .func (PySem.W.fnOf "_law_roll" "_law_roll" (defArgs (sRoll)) (defBody (sRoll)) (defScope (sRoll)) .none kVd44 dcd44 pmd44 and44 cdd44 ctd44), sld44⟩)
    (cd44 : PySem.W.codeIn K cdd44 "_law_roll" = true)
    (kd44 : PySem.W.keepIn K (.ref fd44) = true)
    (ad45 : PySem.W.nsIn K mainGlobals "_law_pick" = some (some (.ref fd45)))
    (ld45 : K.lookup fd45 = some ⟨ocd45, odd45, .func (PySem.W.fnOf "_law_pick" "_law_pick" (defArgs (sPick)) (defBody (sPick)) (defScope (sPick)) .none kVd45 dcd45 pmd45 and45 cdd45 ctd45), sld45⟩)
    (cd45 : PySem.W.codeIn K cdd45 "_law_pick" = true)
    (kd45 : PySem.W.keepIn K (.ref fd45) = true)
    (ad46 : PySem.W.nsIn K mainGlobals "_law_gcd" = some (some (.ref fd46)))
    (ld46 : K.lookup fd46 = some ⟨ocd46, odd46, .func (PySem.W.fnOf "_law_gcd" "_law_gcd" (defArgs (sGcd)) (defBody (sGcd)) (defScope (sGcd)) .none kVd46 dcd46 pmd46 and46 cdd46 ctd46), sld46⟩)
    (cd46 : PySem.W.codeIn K cdd46 "_law_gcd" = true)
    (kd46 : PySem.W.keepIn K (.ref fd46) = true)
    (ad47 : PySem.W.nsIn K mainGlobals "_law_nu_factors" = some (some (.ref fd47)))
    (ld47 : K.lookup fd47 = some ⟨ocd47, odd47, .func (PySem.W.fnOf "_law_nu_factors" "_law_nu_factors" (defArgs (sNu)) (defBody (sNu)) (defScope (sNu)) .none kVd47 dcd47 pmd47 and47 cdd47 ctd47), sld47⟩)
    (cd47 : PySem.W.codeIn K cdd47 "_law_nu_factors" = true)
    (kd47 : PySem.W.keepIn K (.ref fd47) = true)
    (ad48 : PySem.W.nsIn K mainGlobals "_law_integer" = some (some (.ref fd48)))
    (ld48 : K.lookup fd48 = some ⟨ocd48, odd48, .func (PySem.W.fnOf "_law_integer" "_law_integer" (defArgs (sIn_)) (defBody (sIn_)) (defScope (sIn_)) .none kVd48 dcd48 pmd48 and48 cdd48 ctd48), sld48⟩)
    (cd48 : PySem.W.codeIn K cdd48 "_law_integer" = true)
    (kd48 : PySem.W.keepIn K (.ref fd48) = true)
    (ad49 : PySem.W.nsIn K mainGlobals "_law_is_parted" = some (some (.ref fd49)))
    (ld49 : K.lookup fd49 = some ⟨ocd49, odd49, .func (PySem.W.fnOf "_law_is_parted" "_law_is_parted" (defArgs (sIp)) (defBody (sIp)) (defScope (sIp)) .none kVd49 dcd49 pmd49 and49 cdd49 ctd49), sld49⟩)
    (cd49 : PySem.W.codeIn K cdd49 "_law_is_parted" = true)
    (kd49 : PySem.W.keepIn K (.ref fd49) = true)
    (ad50 : PySem.W.nsIn K mainGlobals "_law_many_in" = some (some (.ref fd50)))
    (ld50 : K.lookup fd50 = some ⟨ocd50, odd50, .func (PySem.W.fnOf "_law_many_in" "_law_many_in" (defArgs (sMany)) (defBody (sMany)) (defScope (sMany)) .none kVd50 dcd50 pmd50 and50 cdd50 ctd50), sld50⟩)
    (cd50 : PySem.W.codeIn K cdd50 "_law_many_in" = true)
    (kd50 : PySem.W.keepIn K (.ref fd50) = true)
    (ad51 : PySem.W.nsIn K mainGlobals "_law_are_valued" = some (some (.ref fd51)))
    (ld51 : K.lookup fd51 = some ⟨ocd51, odd51, .func (PySem.W.fnOf "_law_are_valued" "_law_are_valued" (defArgs (sAv)) (defBody (sAv)) (defScope (sAv)) .none kVd51 dcd51 pmd51 and51 cdd51 ctd51), sld51⟩)
    (cd51 : PySem.W.codeIn K cdd51 "_law_are_valued" = true)
    (kd51 : PySem.W.keepIn K (.ref fd51) = true)
    (ad52 : PySem.W.nsIn K mainGlobals "_law_rows_right" = some (some (.ref fd52)))
    (ld52 : K.lookup fd52 = some ⟨ocd52, odd52, .func (PySem.W.fnOf "_law_rows_right" "_law_rows_right" (defArgs (sRo)) (defBody (sRo)) (defScope (sRo)) .none kVd52 dcd52 pmd52 and52 cdd52 ctd52), sld52⟩)
    (cd52 : PySem.W.codeIn K cdd52 "_law_rows_right" = true)
    (kd52 : PySem.W.keepIn K (.ref fd52) = true)
    (ad53 : PySem.W.nsIn K mainGlobals "_law_ways" = some (some (.ref fd53)))
    (ld53 : K.lookup fd53 = some ⟨ocd53, odd53, .func (PySem.W.fnOf "_law_ways" "_law_ways" (defArgs (sWy)) (defBody (sWy)) (defScope (sWy)) .none kVd53 dcd53 pmd53 and53 cdd53 ctd53), sld53⟩)
    (cd53 : PySem.W.codeIn K cdd53 "_law_ways" = true)
    (kd53 : PySem.W.keepIn K (.ref fd53) = true)
    (ad54 : PySem.W.nsIn K mainGlobals "_law_judged" = some (some (.ref fd54)))
    (ld54 : K.lookup fd54 = some ⟨ocd54, odd54, .func (PySem.W.fnOf "_law_judged" "_law_judged" (defArgs (sJu)) (defBody (sJu)) (defScope (sJu)) .none kVd54 dcd54 pmd54 and54 cdd54 ctd54), sld54⟩)
    (cd54 : PySem.W.codeIn K cdd54 "_law_judged" = true)
    (kd54 : PySem.W.keepIn K (.ref fd54) = true)
    (ad55 : PySem.W.nsIn K mainGlobals "law" = some (some (.ref fd55)))
    (ld55 : K.lookup fd55 = some ⟨ocd55, odd55, .func (PySem.W.fnOf "law" "law" (defArgs (sLaw)) (defBody (sLaw)) (defScope (sLaw)) .none kVd55 dcd55 pmd55 and55 cdd55 ctd55), sld55⟩)
    (cd55 : PySem.W.codeIn K cdd55 "law" = true)
    (kd55 : PySem.W.keepIn K (.ref fd55) = true)
    (gO : PySem.W.nsIn K mainGlobals "InvalidOperation" = some (some (.ref CO)))
    (xO : PySem.W.excIn K CO [.type "ValueError", .type "Exception", .type "BaseException", .type "object"] "ValueError.__new__" = true)
    (kO : PySem.W.keepIn K (.ref CO) = true)
    (bO : PySem.W.subIn K (.ref CO) (.type "BaseException") = some true)
    (tO : PySem.W.typeIn K (.ref CO) = some (.type "type"))
    (iO : PySem.W.isClsIn K CO = true)
    (gPr : PySem.W.nsIn K mainGlobals "InvalidPrime" = some (some (.ref CPr)))
    (xPr : PySem.W.excIn K CPr [.type "ValueError", .type "Exception", .type "BaseException", .type "object"] "ValueError.__new__" = true)
    (kPr : PySem.W.keepIn K (.ref CPr) = true)
    (bPr : PySem.W.subIn K (.ref CPr) (.type "BaseException") = some true)
    (tPr : PySem.W.typeIn K (.ref CPr) = some (.type "type"))
    (iPr : PySem.W.isClsIn K CPr = true)
    (gR : PySem.W.nsIn K mainGlobals "InvalidRatio" = some (some (.ref CR)))
    (xR : PySem.W.excIn K CR [.type "ValueError", .type "Exception", .type "BaseException", .type "object"] "ValueError.__new__" = true)
    (kR : PySem.W.keepIn K (.ref CR) = true)
    (bR : PySem.W.subIn K (.ref CR) (.type "BaseException") = some true)
    (tR : PySem.W.typeIn K (.ref CR) = some (.type "type"))
    (iR : PySem.W.isClsIn K CR = true)
    (gE : PySem.W.nsIn K mainGlobals "InvalidCount" = some (some (.ref CE)))
    (xE : K.lookup CE = some (excClassObj nmE qnE CE NE bsE [.type "IndexError", .type "LookupError", .type "Exception", .type "BaseException", .type "object"] true snE sbE abE coE ddE mE0 mE1 mE2 mE3 mE5 "IndexError.__new__"))
    (saE : PySem.W.findIn K (.ref CE) "__setattr__" = some (some (.builtin "object.__setattr__")))
    (gaE : PySem.W.findIn K (.ref CE) "__getattribute__" = some (some (.builtin "BaseException.__getattribute__")))
    (ggE : PySem.W.findIn K (.ref CE) "__getattr__" = some none)
    (noE : PySem.W.findIn K (.ref CE) "value" = some none)
    (inE : PySem.W.findIn K (.ref CE) "__init__" = some (some (.ref fE)))
    (tiE : PySem.W.typeIn K (.ref fE) = some (.type "function"))
    (lE : K.lookup fE = some ⟨ocE, odE, .func (PySem.W.fnOf "__init__" "InvalidCount.__init__" (Vx.iArgs "value" peE1 peE2) (Vx.iBody "value" qeE1 qeE2 qeE3 qeE4) (Vx.iScope "value") .none kVE dcE pmE anE cdE ctE), slE⟩)
    (cE : PySem.W.codeIn K cdE "InvalidCount.__init__" = true)
    (kE : PySem.W.keepIn K (.ref CE) = true)
    (bE : PySem.W.subIn K (.ref CE) (.type "BaseException") = some true)
    (tE : PySem.W.typeIn K (.ref CE) = some (.type "type"))
    (hdE : PySem.W.hasDictIn K CE = true)
    (iE : PySem.W.isClsIn K CE = true)
    (gT : PySem.W.nsIn K mainGlobals "TooMany" = some (some (.ref CT)))
    (xT : K.lookup CT = some (excClassObj nmT qnT CT NT bsT [.type "OverflowError", .type "ArithmeticError", .type "Exception", .type "BaseException", .type "object"] true snT sbT abT coT ddT mT0 mT1 mT2 mT3 mT5 "OverflowError.__new__"))
    (saT : PySem.W.findIn K (.ref CT) "__setattr__" = some (some (.builtin "object.__setattr__")))
    (gaT : PySem.W.findIn K (.ref CT) "__getattribute__" = some (some (.builtin "BaseException.__getattribute__")))
    (ggT : PySem.W.findIn K (.ref CT) "__getattr__" = some none)
    (noT : PySem.W.findIn K (.ref CT) "limit" = some none)
    (inT : PySem.W.findIn K (.ref CT) "__init__" = some (some (.ref fT)))
    (tiT : PySem.W.typeIn K (.ref fT) = some (.type "function"))
    (lT : K.lookup fT = some ⟨ocT, odT, .func (PySem.W.fnOf "__init__" "TooMany.__init__" (Vx.iArgs "limit" peT1 peT2) (Vx.iBody "limit" qeT1 qeT2 qeT3 qeT4) (Vx.iScope "limit") .none kVT dcT pmT anT cdT ctT), slT⟩)
    (cT : PySem.W.codeIn K cdT "TooMany.__init__" = true)
    (kT : PySem.W.keepIn K (.ref CT) = true)
    (bT : PySem.W.subIn K (.ref CT) (.type "BaseException") = some true)
    (tT : PySem.W.typeIn K (.ref CT) = some (.type "type"))
    (hdT : PySem.W.hasDictIn K CT = true)
    (iT : PySem.W.isClsIn K CT = true)
    (wO_O : PySem.W.subIn K (.ref CO) (.ref CO) = some true)
    (wPr_O : PySem.W.subIn K (.ref CPr) (.ref CO) = some false)
    (wPr_Pr : PySem.W.subIn K (.ref CPr) (.ref CPr) = some true)
    (wR_O : PySem.W.subIn K (.ref CR) (.ref CO) = some false)
    (wR_Pr : PySem.W.subIn K (.ref CR) (.ref CPr) = some false)
    (wR_R : PySem.W.subIn K (.ref CR) (.ref CR) = some true)
    (wE_O : PySem.W.subIn K (.ref CE) (.ref CO) = some false)
    (wE_Pr : PySem.W.subIn K (.ref CE) (.ref CPr) = some false)
    (wE_R : PySem.W.subIn K (.ref CE) (.ref CR) = some false)
    (wE_E : PySem.W.subIn K (.ref CE) (.ref CE) = some true)
    (wT_O : PySem.W.subIn K (.ref CT) (.ref CO) = some false)
    (wT_Pr : PySem.W.subIn K (.ref CT) (.ref CPr) = some false)
    (wT_R : PySem.W.subIn K (.ref CT) (.ref CR) = some false)
    (wT_E : PySem.W.subIn K (.ref CT) (.ref CE) = some false)
    (wT_T : PySem.W.subIn K (.ref CT) (.ref CT) = some true)
    (g_MAX_NAME : PySem.W.nsIn K mainGlobals "MAX_NAME" = some (some (.int 8 tkMAX_NAME)))
    (g_MAX_CHOSEN : PySem.W.nsIn K mainGlobals "MAX_CHOSEN" = some (some (.int 1000 tkMAX_CHOSEN)))
    (g_MAX_PRIME : PySem.W.nsIn K mainGlobals "MAX_PRIME" = some (some (.int 997 tkMAX_PRIME)))
    (g__MAX_PARTITIONED : PySem.W.nsIn K mainGlobals "_MAX_PARTITIONED" = some (some (.int 200 tk_MAX_PARTITIONED)))
    (g_gcd : PySem.W.nsIn K mainGlobals "gcd" = some (some (.builtin "math.gcd")))
    (g_isqrt : PySem.W.nsIn K mainGlobals "isqrt" = some (some (.builtin "math.isqrt")))
    (g_comb : PySem.W.nsIn K mainGlobals "comb" = some (some (.builtin "math.comb")))
    (z_int : PySem.W.nsIn K mainGlobals "int" = some none)
    (z_len : PySem.W.nsIn K mainGlobals "len" = some none)
    (z_abs : PySem.W.nsIn K mainGlobals "abs" = some none)
    (z_max : PySem.W.nsIn K mainGlobals "max" = some none)
    (z_min : PySem.W.nsIn K mainGlobals "min" = some none)
    (z_isinstance : PySem.W.nsIn K mainGlobals "isinstance" = some none)
    (z_bool : PySem.W.nsIn K mainGlobals "bool" = some none)
    (z_str : PySem.W.nsIn K mainGlobals "str" = some none)
    (z_range : PySem.W.nsIn K mainGlobals "range" = some none)
    (z_list : PySem.W.nsIn K mainGlobals "list" = some none)
    (z_tuple : PySem.W.nsIn K mainGlobals "tuple" = some none)
    (z_sorted : PySem.W.nsIn K mainGlobals "sorted" = some none)
    (z_all : PySem.W.nsIn K mainGlobals "all" = some none)
    (z_any : PySem.W.nsIn K mainGlobals "any" = some none)
    (z_set : PySem.W.nsIn K mainGlobals "set" = some none)
    (z_zip : PySem.W.nsIn K mainGlobals "zip" = some none)
    (dT : ∃ tk n, dtT = .seq ([Value.int 1 tk] : List Value).toArray n) :
    LawAtC P w K CX0 10 "_law_script" mg fa h := by
  have e := hfa.symm.trans (PySem.W.mg_of X G ad55)
  cases e
  have F14 := fun_mk (st := sShort) ld14 cd14 kd14
  have b14 := F14.binds (ps := ["value"]) fun _ _ _ _ _ _ us hl => match us, hl with | [_], _ => rfl
  have g14 := PySem.W.mg_of X G ad14
  have F15 := fun_mk (st := sOf) ld15 cd15 kd15
  have b15 := F15.binds (ps := ["value"]) fun _ _ _ _ _ _ us hl => match us, hl with | [_], _ => rfl
  have g15 := PySem.W.mg_of X G ad15
  have F17 := fun_mk (st := sLow) ld17 cd17 kd17
  have b17 := F17.binds (ps := ["top", "bottom"]) fun _ _ _ _ _ _ us hl => match us, hl with | [_, _], _ => rfl
  have g17 := PySem.W.mg_of X G ad17
  have F26 := fun_mk (st := sIsI) ld26 cd26 kd26
  have b26 := F26.binds (ps := ["value"]) fun _ _ _ _ _ _ us hl => match us, hl with | [_], _ => rfl
  have g26 := PySem.W.mg_of X G ad26
  have F27 := fun_mk (st := sNm) ld27 cd27 kd27
  have b27 := F27.binds (ps := ["value"]) fun _ _ _ _ _ _ us hl => match us, hl with | [_], _ => rfl
  have g27 := PySem.W.mg_of X G ad27
  have F28 := fun_mk (st := sPr) ld28 cd28 kd28
  have b28 := F28.binds (ps := ["value"]) fun _ _ _ _ _ _ us hl => match us, hl with | [_], _ => rfl
  have g28 := PySem.W.mg_of X G ad28
  have F29 := fun_mk (st := sCp) ld29 cd29 kd29
  have b29 := F29.binds (ps := ["prime"]) fun _ _ _ _ _ _ us hl => match us, hl with | [_], _ => rfl
  have g29 := PySem.W.mg_of X G ad29
  have F30 := fun_mk (st := sChk) ld30 cd30 kd30
  have b30 := F30.binds (ps := ["value", "low", "high"]) fun _ _ _ _ _ _ us hl => match us, hl with | [_, _, _], _ => rfl
  have g30 := PySem.W.mg_of X G ad30
  have F31 := fun_mk (st := sCd) ld31 cd31 kd31
  have b31 := F31.binds (ps := ["numbers"]) fun _ _ _ _ _ _ us hl => match us, hl with | [_], _ => rfl
  have g31 := PySem.W.mg_of X G ad31
  have F32 := fun_mk (st := sDv) ld32 cd32 kd32
  have b32 := F32.binds (ps := ["number"]) fun _ _ _ _ _ _ us hl => match us, hl with | [_], _ => rfl
  have g32 := PySem.W.mg_of X G ad32
  have F33 := fun_mk (st := sPp) ld33 cd33 kd33
  have b33 := F33.binds (ps := ["number"]) fun _ _ _ _ _ _ us hl => match us, hl with | [_], _ => rfl
  have g33 := PySem.W.mg_of X G ad33
  have F34 := fun_mk (st := sMo) ld34 cd34 kd34
  have b34 := F34.binds (ps := ["number"]) fun _ _ _ _ _ _ us hl => match us, hl with | [_], _ => rfl
  have g34 := PySem.W.mg_of X G ad34
  have F35 := fun_mk (st := sVal) ld35 cd35 kd35
  have b35 := F35.binds (ps := ["prime", "number"]) fun _ _ _ _ _ _ us hl => match us, hl with | [_, _], _ => rfl
  have g35 := PySem.W.mg_of X G ad35
  have F36 := fun_mk (st := sBin) ld36 cd36 kd36
  have b36 := F36.binds (ps := ["top", "low"]) fun _ _ _ _ _ _ us hl => match us, hl with | [_, _], _ => rfl
  have g36 := PySem.W.mg_of X G ad36
  have F37 := fun_mk (st := sSd) ld37 cd37 kd37
  have b37 := F37.binds (ps := ["number"]) fun _ _ _ _ _ _ us hl => match us, hl with | [_], _ => rfl
  have g37 := PySem.W.mg_of X G ad37
  have F38 := fun_mk (st := sPo) ld38 cd38 kd38
  have b38 := F38.binds (ps := ["number"]) fun _ _ _ _ _ _ us hl => match us, hl with | [_], _ => rfl
  have g38 := PySem.W.mg_of X G ad38
  have F39 := fun_mk (st := sFct) ld39 cd39 kd39
  have b39 := F39.binds (ps := ["number"]) fun _ _ _ _ _ _ us hl => match us, hl with | [_], _ => rfl
  have g39 := PySem.W.mg_of X G ad39
  have F40 := fun_mk (st := sLf) ld40 cd40 kd40
  have b40 := F40.binds (ps := ["number", "start"]) fun _ _ _ _ _ _ us hl => match us, hl with | [_, _], _ => rfl
  have g40 := PySem.W.mg_of X G ad40
  have F41 := fun_mk (st := sTd) ld41 cd41 kd41
  have b41 := F41.binds (ps := ["prime", "number"]) fun _ _ _ _ _ _ us hl => match us, hl with | [_, _], _ => rfl
  have g41 := PySem.W.mg_of X G ad41
  have F43 := fun_mk (st := sDic) ld43 cd43 kd43
  have b43 := F43.binds (ps := ["_law_script", "_law_spot"]) fun _ _ _ _ _ _ us hl => match us, hl with | [_, _], _ => rfl
  have g43 := PySem.W.mg_of X G ad43
  have F44 := fun_mk (st := sRoll) ld44 cd44 kd44
  have b44 := F44.binds (ps := ["_law_dice_here", "_law_total"]) fun _ _ _ _ _ _ us hl => match us, hl with | [_, _], _ => rfl
  have g44 := PySem.W.mg_of X G ad44
  have F45 := fun_mk (st := sPick) ld45 cd45 kd45
  have b45 := F45.binds (ps := ["_law_dice_here", "_law_items"]) fun _ _ _ _ _ _ us hl => match us, hl with | [_, _], _ => rfl
  have g45 := PySem.W.mg_of X G ad45
  have F46 := fun_mk (st := sGcd) ld46 cd46 kd46
  have b46 := F46.binds (ps := ["_law_one", "_law_other"]) fun _ _ _ _ _ _ us hl => match us, hl with | [_, _], _ => rfl
  have g46 := PySem.W.mg_of X G ad46
  have F47 := fun_mk (st := sNu) ld47 cd47 kd47
  have b47 := F47.binds (ps := ["_law_number"]) fun _ _ _ _ _ _ us hl => match us, hl with | [_], _ => rfl
  have g47 := PySem.W.mg_of X G ad47
  have F48 := fun_mk (st := sIn_) ld48 cd48 kd48
  have b48 := F48.binds (ps := ["_law_dice_here"]) fun _ _ _ _ _ _ us hl => match us, hl with | [_], _ => rfl
  have g48 := PySem.W.mg_of X G ad48
  have F49 := fun_mk (st := sIp) ld49 cd49 kd49
  have b49 := F49.binds (ps := ["_law_number"]) fun _ _ _ _ _ _ us hl => match us, hl with | [_], _ => rfl
  have g49 := PySem.W.mg_of X G ad49
  have F50 := fun_mk (st := sMany) ld50 cd50 kd50
  have b50 := F50.binds (ps := ["_law_prime", "_law_number"]) fun _ _ _ _ _ _ us hl => match us, hl with | [_, _], _ => rfl
  have g50 := PySem.W.mg_of X G ad50
  have F51 := fun_mk (st := sAv) ld51 cd51 kd51
  have b51 := F51.binds (ps := ["_law_dice_here"]) fun _ _ _ _ _ _ us hl => match us, hl with | [_], _ => rfl
  have g51 := PySem.W.mg_of X G ad51
  have F52 := fun_mk (st := sRo) ld52 cd52 kd52
  have b52 := F52.binds (ps := ["_law_dice_here"]) fun _ _ _ _ _ _ us hl => match us, hl with | [_], _ => rfl
  have g52 := PySem.W.mg_of X G ad52
  have F53 := fun_mk (st := sWy) ld53 cd53 kd53
  have b53 := F53.binds (ps := ["_law_most"]) fun _ _ _ _ _ _ us hl => match us, hl with | [_], _ => rfl
  have g53 := PySem.W.mg_of X G ad53
  have F54 := fun_mk (st := sJu) ld54 cd54 kd54
  have b54 := F54.binds (ps := ["_law_dice_here"]) fun _ _ _ _ _ _ us hl => match us, hl with | [_], _ => rfl
  have g54 := PySem.W.mg_of X G ad54
  have F55 := fun_mk (st := sLaw) ld55 cd55 kd55
  have b55 := F55.binds (ps := ["_law_script"]) fun _ _ _ _ _ _ us hl => match us, hl with | [_], _ => rfl
  have g55 := PySem.W.mg_of X G ad55
  have P2 := fun_mk (st := sIn 2) lp2 cp2 kp2
  have w2 := P2.binds (ps := ["self"]) fun _ _ _ _ _ _ us hl => match us, hl with | [_], _ => rfl
  have P3 := fun_mk (st := sIn 3) lp3 cp3 kp3
  have w3 := P3.binds (ps := ["self"]) fun _ _ _ _ _ _ us hl => match us, hl with | [_], _ => rfl
  obtain ⟨tk1, nT1, rfl⟩ := dT
  have FI : FunD K "__init__" "Ratio.__init__" (defArgs (sIn 0)) (defBody (sIn 0)) (defScope (sIn 0)) [V.int 1] [] fI0 _ :=
    ⟨⟨_, _, _, _, _, _, _, _, _, _, rfl, lI0, cI0, .inr ⟨by simp, TI, _, [Value.int 1 tk1], nT1, rfl, lT_, rfl, .cons ⟨_, rfl⟩ .nil⟩, .inl rfl⟩, kI0⟩
  have bI3 := bind3 FI
  have bI2 := bind2 FI
  have cl : Cls K C := ⟨pg, hd, po, sa⟩
  have bl : Bl mg := ⟨PySem.W.mg_none_of X G z_int, PySem.W.mg_none_of X G z_len, PySem.W.mg_none_of X G z_abs, PySem.W.mg_none_of X G z_max⟩
  have gn : Gn K mg C :=
    { bl := bl, isi := PySem.W.mg_none_of X G z_isinstance, bool := PySem.W.mg_none_of X G z_bool, str := PySem.W.mg_none_of X G z_str, tl := hTL, gcd := PySem.W.mg_of X G g_gcd, mgC := PySem.W.mg_of X G aC, cl := cl, nT := nT, nB := nB,
      ca := ca, cn := cn, ct := ct0, mo := mo, kt := kit_no iC tC sKt rfl, ki := kit_no iC tC sKi rfl }
  have eO : Pln K mg "InvalidOperation" CO := ⟨PySem.W.mg_of X G gO, xO, kO, bO, tO⟩
  have ePr : Pln K mg "InvalidPrime" CPr := ⟨PySem.W.mg_of X G gPr, xPr, kPr, bPr, tPr⟩
  have eR : Pln K mg "InvalidRatio" CR := ⟨PySem.W.mg_of X G gR, xR, kR, bR, tR⟩
  have eE : Vx.ECls K mg "InvalidCount" "value" "IndexError" "IndexError.__new__" [.type "IndexError", .type "LookupError", .type "Exception", .type "BaseException", .type "object"] CE fE :=
    have cls0 : ∃ nm q N bs bm sn sub ab col dd k0 k1 k2 k3 k5, K.lookup CE = some (excClassObj nm q CE N bs bm true sn sub ab col dd k0 k1 k2 k3 k5 "IndexError.__new__") ∧ PySem.W.excTail [.type "IndexError", .type "LookupError", .type "Exception", .type "BaseException", .type "object"] bm = true :=
      ⟨_, _, _, _, _, _, _, _, _, _, _, _, _, _, _, xE, rfl⟩
    have ov : PySem.W.excOver K CE [.type "IndexError", .type "LookupError", .type "Exception", .type "BaseException", .type "object"] = true := by
      obtain ⟨_, _, _, _, _, _, _, _, _, _, _, _, _, _, _, e, t⟩ := cls0
      exact Vx.over_of e t
    { gC := PySem.W.mg_of X G gE, cls := cls0, base := ⟨_, _, PySem.F.excBase_IndexError⟩, hB := ⟨by decide +kernel, by decide +kernel, by decide +kernel⟩, ga := gaE, gg := ggE, no := noE, iC := inE, tI := tiE, kC := kE, exC := bE, tyC := tE, hd := hdE,
      init := Vx.init_value PySem.F.store_IndexError ov noE hdE saE lE cE }
  have eT : Vx.ECls K mg "TooMany" "limit" "OverflowError" "OverflowError.__new__" [.type "OverflowError", .type "ArithmeticError", .type "Exception", .type "BaseException", .type "object"] CT fT :=
    have cls0 : ∃ nm q N bs bm sn sub ab col dd k0 k1 k2 k3 k5, K.lookup CT = some (excClassObj nm q CT N bs bm true sn sub ab col dd k0 k1 k2 k3 k5 "OverflowError.__new__") ∧ PySem.W.excTail [.type "OverflowError", .type "ArithmeticError", .type "Exception", .type "BaseException", .type "object"] bm = true :=
      ⟨_, _, _, _, _, _, _, _, _, _, _, _, _, _, _, xT, rfl⟩
    have ov : PySem.W.excOver K CT [.type "OverflowError", .type "ArithmeticError", .type "Exception", .type "BaseException", .type "object"] = true := by
      obtain ⟨_, _, _, _, _, _, _, _, _, _, _, _, _, _, _, e, t⟩ := cls0
      exact Vx.over_of e t
    { gC := PySem.W.mg_of X G gT, cls := cls0, base := ⟨_, _, PySem.F.excBase_OverflowError⟩, hB := ⟨by decide +kernel, by decide +kernel, by decide +kernel⟩, ga := gaT, gg := ggT, no := noT, iC := inT, tI := tiT, kC := kT, exC := bT, tyC := tT, hd := hdT,
      init := Vx.init_limit PySem.F.store_OverflowError ov noT hdT saT lT cT }
  refine ⟨PySem.W.fnOf "law" "law" (defArgs sLaw) (defBody sLaw) (defScope sLaw) .none kVd55 dcd55 pmd55 and55 cdd55 ctd55, [], spLaw K, (fun _ z => nomatch z), (fun _ z => nomatch z), (fun _ z => nomatch z), fun s v => .of_eq rfl, (fun H a ns _ _ _ hS => ⟨a, ns, rfl, hS, fun _ => rfl⟩), fun base _ _ _ => ?_⟩
  have hR := PySem.W.mg_none_of X G z_range
  have hMC : ∃ t, mg "MAX_CHOSEN" = some (.int 1000 t) := ⟨_, PySem.W.mg_of X G g_MAX_CHOSEN⟩
  have hMP : ∃ t, mg "MAX_PRIME" = some (.int 997 t) := ⟨_, PySem.W.mg_of X G g_MAX_PRIME⟩
  have hM2 : ∃ t, mg "_MAX_PARTITIONED" = some (.int 200 t) := ⟨_, PySem.W.mg_of X G g__MAX_PARTITIONED⟩
  have hM8 : ∃ t, mg "MAX_NAME" = some (.int 8 t) := ⟨_, PySem.W.mg_of X G g_MAX_NAME⟩
  have nl := PySem.W.mg_none_of X G z_list
  have nlen := PySem.W.mg_none_of X G z_len
  have ntup := PySem.W.mg_none_of X G z_tuple
  have nisi := PySem.W.mg_none_of X G z_isinstance
  have hSh : HShK P w K mg base := ⟨_, _, ok_shortK F14 gn, g14, kd14, b14⟩
  have hLow : Has P w K mg base "_lowest_terms" 1 ["top", "bottom"] spLow := ⟨_, _, ok_low F17 gn, g17, kd17, b17⟩
  have hInit := ok_initK (P := P) (w := w) (mg := mg) (base := base) (C := C) (CE := CE) FI gn eE hSh hLow
  have hRat : HRatioK P w K mg base C CE := ⟨_, _, hInit, ⟨mk, aI0, iI0, kC⟩, bI3, bI2⟩
  have hOf : HOfK P w K mg base C CR := ⟨_, _, ok_ofK F15 gn eR hSh hRat, g15, kd15, b15⟩
  have hTop : HasP P w K mg base C "top" 1 (spTop C) := ⟨_, _, _, ⟨ap2, gp2, tp2, _, rp2⟩, fn_getter lp2 cp2 (scGet 2 (by first | exact .inl rfl | exact .inr rfl)) rfl rfl cl nT, w2⟩
  have hBot : HasP P w K mg base C "bottom" 1 (spBot C) := ⟨_, _, _, ⟨ap3, gp3, tp3, _, rp3⟩, fn_getter lp3 cp3 (scGet 3 (by first | exact .inl rfl | exact .inr rfl)) rfl rfl cl nB, w3⟩
  have hIsI : HIsI P w K mg base := ⟨_, _, ok_isI F26 hSh, g26, kd26, b26⟩
  have hLf : HLf P w K mg base := ⟨_, _, ok_lf F40 (PySem.W.mg_of X G g_isqrt) hR, g40, kd40, b40⟩
  have hTd : HTd P w K mg base := ⟨_, _, ok_td F41, g41, kd41, b41⟩
  have oPr := ok_pr (P := P) (w := w) (base := base) F28 hIsI hLf hMF
  have hPr : HPr P w K mg base := ⟨_, _, oPr, g28, kd28, b28⟩
  have hPrH : Has P w K mg base "is_prime" 3 ["value"] (spPr K) := ⟨_, _, oPr, g28, kd28, b28⟩
  have hCp : HCp P w K mg base CPr := ⟨_, _, ok_cp F29 ePr hPr hMP, g29, kd29, b29⟩
  have hChk : HChk P w K mg base CE := ⟨_, _, ok_chk F30 eE hIsI, g30, kd30, b30⟩
  have hFct : HFct P w K mg base CE CT := ⟨_, _, ok_fct F39 eE eT hIsI hMF, g39, kd39, b39⟩
  have hPp : HPp P w K mg base CE CT := ⟨_, _, ok_pp F33 hFct hLf hTd, g33, kd33, b33⟩
  have hDv : HasX P w K mg base "divisors" 6 ["number"] (spDv K CE CT) := ⟨_, _, ok_dv F32 hPp hR ntup (PySem.W.mg_none_of X G z_sorted), g32, kd32, b32⟩
  have hMo : HasX P w K mg base "moebius" 6 ["number"] (spMo K) := ⟨_, _, ok_mo F34 hPp nl (PySem.W.mg_none_of X G z_any) nlen, g34, kd34, b34⟩
  have hBi : HasX P w K mg base "binomial" 5 ["top", "low"] (spBin K CE) := ⟨_, _, ok_bin F36 hChk (PySem.W.mg_of X G g_comb) hMC, g36, kd36, b36⟩
  have hSd : HasX P w K mg base "step_divisor" 6 ["number"] (spSd K) := ⟨_, _, ok_sd F37 hChk hPp hMC nl nlen, g37, kd37, b37⟩
  have hPo : HasX P w K mg base "partitions_of" 5 ["number"] (spPo K CE) := ⟨_, _, ok_po F38 hChk hR hM2, g38, kd38, b38⟩
  have hCd : Has P w K mg base "common_divisor" 3 ["numbers"] (spCd K) := ⟨_, _, ok_cd F31 hIsI nisi ntup (PySem.W.mg_none_of X G z_all) (PySem.W.mg_of X G g_gcd), g31, kd31, b31⟩
  have hNm : Has P w K mg base "is_name" 1 ["value"] (spNm K) := ⟨_, _, ok_nm F27 nisi (PySem.W.mg_none_of X G z_str) nlen hM8, g27, kd27, b27⟩
  have hVa : HasX P w K mg base "valuation" 6 ["prime", "number"] (spVal K C CR CO CPr) := ⟨_, _, ok_val F35 gn hCp hOf eO hTop hBot hTd, g35, kd35, b35⟩
  have oRoll := ok_roll (P := P) (w := w) (base := base) F44 bl
  have hRoll : HRoll P w K mg base := ⟨_, _, oRoll, g44, kd44, b44⟩
  have hPick : HPick P w K mg base := ⟨_, _, ok_pick F45 bl g44 kd44 b44 oRoll, g45, kd45, b45⟩
  have hDic : Has P w K mg base "_law_dice" 1 ["_law_script", "_law_spot"] (spDic K) := ⟨_, _, ok_dic F43 bl, g43, kd43, b43⟩
  have hGcd : Has P w K mg base "_law_gcd" 1 ["_law_one", "_law_other"] spGcd := ⟨_, _, ok_gcd F46 bl, g46, kd46, b46⟩
  have hNu : HNu P w K mg base := ⟨_, _, ok_nu F47 hR, g47, kd47, b47⟩
  have hIn : Has P w K mg base "_law_integer" 3 ["_law_dice_here"] spInt := ⟨_, _, ok_int F48 hRoll hPick, g48, kd48, b48⟩
  have hIp : HasX P w K mg base "_law_is_parted" 7 ["_law_number"] spIp := ⟨_, _, ok_ip F49 hNu hDv hPp hPrH hMo (PySem.W.mg_none_of X G z_sorted) (PySem.W.mg_none_of X G z_set) nl nlen, g49, kd49, b49⟩
  have hMany : Has P w K mg base "_law_many_in" 1 ["_law_prime", "_law_number"] spMany := ⟨_, _, ok_many F50 hR, g50, kd50, b50⟩
  have hAv : HasX P w K mg base "_law_are_valued" 7 ["_law_dice_here"] spDc := ⟨_, _, ok_av F51 gn hRoll hPick hMany hRat hVa, g51, kd51, b51⟩
  have hRo : HasX P w K mg base "_law_rows_right" 7 ["_law_dice_here"] spDc := ⟨_, _, ok_ro F52 hRoll hGcd hNu hBi hSd hCd hR (PySem.W.mg_none_of X G z_zip) ntup nlen, g52, kd52, b52⟩
  have hWy : Has P w K mg base "_law_ways" 1 ["_law_most"] spWy := ⟨_, _, ok_wy F53 hR, g53, kd53, b53⟩
  have hJu : Has P w K mg base "_law_judged" 4 ["_law_dice_here"] spDc := ⟨_, _, ok_ju F54 hRoll hPick hIsI hNm hPrH hR nlen, g54, kd54, b54⟩
  exact ok_law F55 bl gn hR (PySem.W.mg_none_of X G z_min) hDic hRoll hIn hIp hAv hRo hJu hWy hDv hPp hCd hMo hBi hSd hPo hVa hRat
end Lk

set_option Elab.async false
set_option maxRecDepth 100000
open PySem PySem.W PyProof.Rows in
set_option maxRecDepth 100000 in
set_option maxHeartbeats 0 in
theorem PySem.Challenge.cw_lawseries_k02_whole_numbers_of_primes_an_holds : PySem.Challenge.rw_lawseries_k02_whole_numbers_of_primes_an.Holds := by
  w_on; o_law; k_head; (case hw => w_witness2)
  k_fill
  refine Lk.walkT (l := PySem.Challenge.rw_lawseries_k02_whole_numbers_of_primes_an) (k := 10) rfl rfl ⟨rfl, by decide, by decide⟩ (fun w h Y => PySem.W.kIn_of Y) ?F
  case F =>
    intro w mg fa h Y KX G XX hmg
    refine' Lk.all_mk KX G hmg (Lk.too_long XX) (Lk.max_factored XX) ?aC ?pg ?hd ?po ?sa ?mk ?kC ?nT ?nB ?ca ?cn ?ct0 ?mo ?iC ?tC ?sKn ?sKb ?sKi ?sKs ?sKt ?sKl ?sKd ?aI0 ?iI0 ?lI0 ?cI0 ?kI0 ?lT_ ?ap2 ?gp2 ?tp2 ?rp2 ?lp2 ?cp2 ?kp2 ?ap3 ?gp3 ?tp3 ?rp3 ?lp3 ?cp3 ?kp3 ?ad14 ?ld14 ?cd14 ?kd14 ?ad15 ?ld15 ?cd15 ?kd15 ?ad17 ?ld17 ?cd17 ?kd17 ?ad26 ?ld26 ?cd26 ?kd26 ?ad27 ?ld27 ?cd27 ?kd27 ?ad28 ?ld28 ?cd28 ?kd28 ?ad29 ?ld29 ?cd29 ?kd29 ?ad30 ?ld30 ?cd30 ?kd30 ?ad31 ?ld31 ?cd31 ?kd31 ?ad32 ?ld32 ?cd32 ?kd32 ?ad33 ?ld33 ?cd33 ?kd33 ?ad34 ?ld34 ?cd34 ?kd34 ?ad35 ?ld35 ?cd35 ?kd35 ?ad36 ?ld36 ?cd36 ?kd36 ?ad37 ?ld37 ?cd37 ?kd37 ?ad38 ?ld38 ?cd38 ?kd38 ?ad39 ?ld39 ?cd39 ?kd39 ?ad40 ?ld40 ?cd40 ?kd40 ?ad41 ?ld41 ?cd41 ?kd41 ?ad43 ?ld43 ?cd43 ?kd43 ?ad44 ?ld44 ?cd44 ?kd44 ?ad45 ?ld45 ?cd45 ?kd45 ?ad46 ?ld46 ?cd46 ?kd46 ?ad47 ?ld47 ?cd47 ?kd47 ?ad48 ?ld48 ?cd48 ?kd48 ?ad49 ?ld49 ?cd49 ?kd49 ?ad50 ?ld50 ?cd50 ?kd50 ?ad51 ?ld51 ?cd51 ?kd51 ?ad52 ?ld52 ?cd52 ?kd52 ?ad53 ?ld53 ?cd53 ?kd53 ?ad54 ?ld54 ?cd54 ?kd54 ?ad55 ?ld55 ?cd55 ?kd55 ?gO ?xO ?kO ?bO ?tO ?iO ?gPr ?xPr ?kPr ?bPr ?tPr ?iPr ?gR ?xR ?kR ?bR ?tR ?iR ?gE ?xE ?saE ?gaE ?ggE ?noE ?inE ?tiE ?lE ?cE ?kE ?bE ?tE ?hdE ?iE ?gT ?xT ?saT ?gaT ?ggT ?noT ?inT ?tiT ?lT ?cT ?kT ?bT ?tT ?hdT ?iT ?wO_O ?wPr_O ?wPr_Pr ?wR_O ?wR_Pr ?wR_R ?wE_O ?wE_Pr ?wE_R ?wE_E ?wT_O ?wT_Pr ?wT_R ?wT_E ?wT_T ?g_MAX_NAME ?g_MAX_CHOSEN ?g_MAX_PRIME ?g__MAX_PARTITIONED ?g_gcd ?g_isqrt ?g_comb ?z_int ?z_len ?z_abs ?z_max ?z_min ?z_isinstance ?z_bool ?z_str ?z_range ?z_list ?z_tuple ?z_sorted ?z_all ?z_any ?z_set ?z_zip ?dT
    (case aC => k_is)
    (case pg => k_is)
    (case hd => k_is)
    (case po => k_is)
    (case sa => k_is)
    (case mk => k_is)
    (case kC => k_is)
    (case nT => k_is)
    (case nB => k_is)
    (case ca => k_is)
    (case cn => k_is)
    (case ct0 => k_is)
    (case mo => k_is)
    (case iC => k_is)
    (case tC => k_is)
    (case sKn => k_is)
    (case sKb => k_is)
    (case sKi => k_is)
    (case sKs => k_is)
    (case sKt => k_is)
    (case sKl => k_is)
    (case sKd => k_is)
    (case aI0 => k_is)
    (case iI0 => k_is)
    (case lI0 => k_is)
    (case cI0 => k_is)
    (case kI0 => k_is)
    (case lT_ => k_is)
    (case ap2 => k_is)
    (case gp2 => k_is)
    (case tp2 => k_is)
    (case rp2 => k_is)
    (case lp2 => k_is)
    (case cp2 => k_is)
    (case kp2 => k_is)
    (case ap3 => k_is)
    (case gp3 => k_is)
    (case tp3 => k_is)
    (case rp3 => k_is)
    (case lp3 => k_is)
    (case cp3 => k_is)
    (case kp3 => k_is)
    (case ad14 => k_is)
    (case ld14 => k_is)
    (case cd14 => k_is)
    (case kd14 => k_is)
    (case ad15 => k_is)
    (case ld15 => k_is)
    (case cd15 => k_is)
    (case kd15 => k_is)
    (case ad17 => k_is)
    (case ld17 => k_is)
    (case cd17 => k_is)
    (case kd17 => k_is)
    (case ad26 => k_is)
    (case ld26 => k_is)
    (case cd26 => k_is)
    (case kd26 => k_is)
    (case ad27 => k_is)
    (case ld27 => k_is)
    (case cd27 => k_is)
    (case kd27 => k_is)
    (case ad28 => k_is)
    (case ld28 => k_is)
    (case cd28 => k_is)
    (case kd28 => k_is)
    (case ad29 => k_is)
    (case ld29 => k_is)
    (case cd29 => k_is)
    (case kd29 => k_is)
    (case ad30 => k_is)
    (case ld30 => k_is)
    (case cd30 => k_is)
    (case kd30 => k_is)
    (case ad31 => k_is)
    (case ld31 => k_is)
    (case cd31 => k_is)
    (case kd31 => k_is)
    (case ad32 => k_is)
    (case ld32 => k_is)
    (case cd32 => k_is)
    (case kd32 => k_is)
    (case ad33 => k_is)
    (case ld33 => k_is)
    (case cd33 => k_is)
    (case kd33 => k_is)
    (case ad34 => k_is)
    (case ld34 => k_is)
    (case cd34 => k_is)
    (case kd34 => k_is)
    (case ad35 => k_is)
    (case ld35 => k_is)
    (case cd35 => k_is)
    (case kd35 => k_is)
    (case ad36 => k_is)
    (case ld36 => k_is)
    (case cd36 => k_is)
    (case kd36 => k_is)
    (case ad37 => k_is)
    (case ld37 => k_is)
    (case cd37 => k_is)
    (case kd37 => k_is)
    (case ad38 => k_is)
    (case ld38 => k_is)
    (case cd38 => k_is)
    (case kd38 => k_is)
    (case ad39 => k_is)
    (case ld39 => k_is)
    (case cd39 => k_is)
    (case kd39 => k_is)
    (case ad40 => k_is)
    (case ld40 => k_is)
    (case cd40 => k_is)
    (case kd40 => k_is)
    (case ad41 => k_is)
    (case ld41 => k_is)
    (case cd41 => k_is)
    (case kd41 => k_is)
    (case ad43 => k_is)
    (case ld43 => k_is)
    (case cd43 => k_is)
    (case kd43 => k_is)
    (case ad44 => k_is)
    (case ld44 => k_is)
    (case cd44 => k_is)
    (case kd44 => k_is)
    (case ad45 => k_is)
    (case ld45 => k_is)
    (case cd45 => k_is)
    (case kd45 => k_is)
    (case ad46 => k_is)
    (case ld46 => k_is)
    (case cd46 => k_is)
    (case kd46 => k_is)
    (case ad47 => k_is)
    (case ld47 => k_is)
    (case cd47 => k_is)
    (case kd47 => k_is)
    (case ad48 => k_is)
    (case ld48 => k_is)
    (case cd48 => k_is)
    (case kd48 => k_is)
    (case ad49 => k_is)
    (case ld49 => k_is)
    (case cd49 => k_is)
    (case kd49 => k_is)
    (case ad50 => k_is)
    (case ld50 => k_is)
    (case cd50 => k_is)
    (case kd50 => k_is)
    (case ad51 => k_is)
    (case ld51 => k_is)
    (case cd51 => k_is)
    (case kd51 => k_is)
    (case ad52 => k_is)
    (case ld52 => k_is)
    (case cd52 => k_is)
    (case kd52 => k_is)
    (case ad53 => k_is)
    (case ld53 => k_is)
    (case cd53 => k_is)
    (case kd53 => k_is)
    (case ad54 => k_is)
    (case ld54 => k_is)
    (case cd54 => k_is)
    (case kd54 => k_is)
    (case ad55 => k_is)
    (case ld55 => k_is)
    (case cd55 => k_is)
    (case kd55 => k_is)
    (case gO => k_is)
    (case xO => k_exc)
    (case kO => k_is)
    (case bO => k_is)
    (case tO => k_is)
    (case iO => k_is)
    (case gPr => k_is)
    (case xPr => k_exc)
    (case kPr => k_is)
    (case bPr => k_is)
    (case tPr => k_is)
    (case iPr => k_is)
    (case gR => k_is)
    (case xR => k_exc)
    (case kR => k_is)
    (case bR => k_is)
    (case tR => k_is)
    (case iR => k_is)
    (case gE => k_is)
    (case xE => k_is)
    (case saE => k_is)
    (case gaE => k_is)
    (case ggE => k_is)
    (case noE => k_is)
    (case inE => k_is)
    (case tiE => k_is)
    (case lE => k_is)
    (case cE => k_is)
    (case kE => k_is)
    (case bE => k_is)
    (case tE => k_is)
    (case hdE => k_is)
    (case iE => k_is)
    (case gT => k_is)
    (case xT => k_is)
    (case saT => k_is)
    (case gaT => k_is)
    (case ggT => k_is)
    (case noT => k_is)
    (case inT => k_is)
    (case tiT => k_is)
    (case lT => k_is)
    (case cT => k_is)
    (case kT => k_is)
    (case bT => k_is)
    (case tT => k_is)
    (case hdT => k_is)
    (case iT => k_is)
    (case wO_O => k_is)
    (case wPr_O => k_is)
    (case wPr_Pr => k_is)
    (case wR_O => k_is)
    (case wR_Pr => k_is)
    (case wR_R => k_is)
    (case wE_O => k_is)
    (case wE_Pr => k_is)
    (case wE_R => k_is)
    (case wE_E => k_is)
    (case wT_O => k_is)
    (case wT_Pr => k_is)
    (case wT_R => k_is)
    (case wT_E => k_is)
    (case wT_T => k_is)
    (case g_MAX_NAME => k_is)
    (case g_MAX_CHOSEN => k_is)
    (case g_MAX_PRIME => k_is)
    (case g__MAX_PARTITIONED => k_is)
    (case g_gcd => k_is)
    (case g_isqrt => k_is)
    (case g_comb => k_is)
    (case z_int => k_is)
    (case z_len => k_is)
    (case z_abs => k_is)
    (case z_max => k_is)
    (case z_min => k_is)
    (case z_isinstance => k_is)
    (case z_bool => k_is)
    (case z_str => k_is)
    (case z_range => k_is)
    (case z_list => k_is)
    (case z_tuple => k_is)
    (case z_sorted => k_is)
    (case z_all => k_is)
    (case z_any => k_is)
    (case z_set => k_is)
    (case z_zip => k_is)
    (case dT => exact ⟨_, _, rfl⟩)

