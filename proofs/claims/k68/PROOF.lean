import PyProof.Rows.All
import Flt.RightSqrt
import HandS.AnyAll
import HandS.ClsMeth
import HandS.Defaults
import HandS.Dict
import HandS.EndTab
import HandS.Ends
import HandS.ForExc
import HandS.ForMost
import HandS.Gcd
import HandS.HotCalls
import HandS.IsInst
import HandS.Iter
import HandS.ListItems
import HandS.OwnEq
import HandS.Property
import HandS.SlotsOwn
import HandS.SortInts
import HandS.Style
import HandS.TupAny
import HandS.TupMul
import HandS.Walk
import HandS.Wide
import HandS.WideBits
import HandS.Zip
import KE.KCallOwn
import KE.KFmtOwn
import KE.KMathG
import KE.KMathGC
import KE.KNest
import OpenK.AllK
import PyProof.InstNe
import PyProof.InstStoreFacts
import PyProof.Rows.ChunkLeaf
import Wide.All
import Wide.FinOn
import PySem.Challenge.RW_lawseries_k68_whole_rests_of_coordinates
set_option Elab.async false
set_option linter.all false
set_option maxRecDepth 100000
set_option maxHeartbeats 4000000
/-! math.isqrt and math.comb, as rules for a call (with pe_callBfun, as cr_gcd) -/
namespace Lk
open PySem PySem.Spec PyProof.Rows L2
section
variable {X : Cx}
def rSqrt : List V → Hp → VK → Prop := fun vs H Q => ∃ a : Int, vs = [.int a] ∧ 0 ≤ a ∧ a < 2 ^ 64 ∧ Q (.int ((Float64.isqrt a.toNat : Nat) : Int)) H
theorem cr_isqrt : CallR X (.builtin "math.isqrt") rSqrt := by
  intro pins s σ H vs us Q I r h
  obtain ⟨a, rfl, h0, h1, q⟩ := h
  obtain ⟨u, rfl, t, rfl⟩ := vals1 r
  exact PySem.W.mg_isqrt h0 h1 ⟨.int _, H, I.tok _, ⟨_, rfl⟩, q⟩
def rComb : List V → Hp → VK → Prop := fun vs H Q => ∃ a b : Int, vs = [.int a, .int b] ∧ 0 ≤ a ∧ 0 ≤ b ∧ a ≤ 18000 ∧ Q (.int (PySem.W.mcComb a b)) H
theorem cr_comb : CallR X (.builtin "math.comb") rComb := by
  intro pins s σ H vs us Q I r h
  obtain ⟨a, b, rfl, ha, hb, hk, q⟩ := h
  obtain ⟨t, u, rfl⟩ := Vals.int2 r
  exact PySem.W.mc_comb ha hb (by omega) (.inr hk) fun _ => ⟨.int _, H, I.tok _, ⟨_, rfl⟩, q⟩
end
end Lk

set_option Elab.async false
set_option linter.all false
set_option maxRecDepth 100000
set_option maxHeartbeats 4000000
namespace Lk
open PySem PySem.Spec L2
section
variable {X : Cx}
/-- // by any divisor but 0, below 2 ^ 9000 in size -/
def CDivG (_ j : Int) : Prop := j ≠ 0 ∧ j.natAbs.log2 < 9000
theorem divG {i j : Int} {b : Nat} (h : j ≠ 0) (hb : j.natAbs < 2 ^ b) (h0 : 0 < b) (h9 : b ≤ 9000) : CDivG i j :=
  ⟨h, Nat.lt_of_lt_of_le (PySem.Flt.log2_lt_of h0 hb) h9⟩
theorem op_fdivG : OpR X (binaryOp .FloorDiv) (rI CDivG fun i j => .int (i.fdiv j)) := opI fun i j _ _ _ _ _ hc q =>
  PyProof.Rows.floordiv_int hc.1 q (.inl (PyProof.noPylong_of_log2 hc.2))
/-- o.f as a target -/
def gFld (K : PySem.W.Frag) (to : TE) (f : Str) : TG := fun v σ H Q => to σ H fun x H1 =>
  ∃ a C dx fs, x = .ref a ∧ H1 a = some (.ins C dx fs) ∧ Cls K C ∧ NoAttr K C f ∧ fs.length < 1000 ∧ Q σ (upd H1 a (.ins C dx (putF f v fs)))
theorem pg_fld {o : Expr} {to : TE} {f : Str} {pos : Pos} (ho : PE X o to) : PG X (.Attribute o f pos) (gFld X.K to f) := by
  refine ⟨fun pins s σ H v u Q I r h => ?_⟩
  rw [assign_Attribute]
  refine wpAny_bind (wpAny_holding (thn (ho.run pins s σ H _ I h) fun ov s1 ⟨x, H1, I1, rx, a, C, dx, fs, ex, ea, c, n, l, q⟩ => ?_))
  subst ex
  obtain rfl : ov = Value.ref a := rx
  refine wpAny_bind (wpAny_standAt (wpAny_bind (wpAny_holding (setattr_ok I1 ea c n l r fun s3 I3 => wpAny_release ?_))))
  exact ⟨σ, _, I3, q⟩
/-- how a promise's call comes back as a value of a comparison or a text -/
theorem strback {P : Value → Shared → Prop} {y : Str} {v : Value} {s' : Shared} (r : RelV (.str y) v) (h : P v s') : PySem.W.StrBack P v s' := by
  obtain ⟨t, rfl⟩ := (show ∃ t, v = Value.str y t from r)
  exact h
/-- str(x), x an instance whose class has its own __str__ -/
def rStrOwn (C : Addr) (sp : Sp) (E : XK) : List V → Hp → VK → Prop := fun xs H Q =>
  ∃ a dx fs, xs = [.ref a] ∧ H a = some (.ins C dx fs) ∧ sp [.ref a] H (fun z H' => ∃ y, z = .str y ∧ Q z H') E
section
variable {CX : CXT} {C g : Addr} {k : Nat} {fd : FuncData} {ps : List Str} {sp : Sp} {E : XK}
theorem call_strOwn (hs : PySem.W.findIn X.K (.ref C) "__str__" = some (some (.ref g))) (hf : PySem.W.isFn X.K (.ref g) = true)
    (F : FnOk X.prog X.w X.K X.mg X.base CX k g fd ps sp) (hr : Room (k + 2) X.A) (hb : Binds X.K fd ps [])
    (hx : Passes CX X E) : CallR X (.type "str") (rStrOwn C sp E) := by
  intro pins s σ H xs us Q I r h
  obtain ⟨a, dx, fs, rfl, ea, q⟩ := h
  cases r with
  | cons rx rr =>
    cases rr
    cases rx
    obtain ⟨mA, O, _, _, _, _⟩ := ins_get I.hok ea
    obtain ⟨od, J, _⟩ := O.look
    have r2 : Room k X.A.in1.in1 := (show Room (k + 1) X.A.in1 from Room.in1 hr).in1
    have hl : ([Value.ref a] ++ []).length = ps.length := (F.len _ _ _ _ q) ▸ rfl
    refine PySem.W.kso_call (by have := r2.un; omega) I.kIn J hs hf (wpAny_call (codeAny_mono (F.run X.A.in1.in1 X.stack s H ⟨[.ref a], []⟩ [.ref a] [.ref a] _ E r2 I.env0.in1.in1 (hb s [.ref a] I.kIn hl) (.cons rfl .nil) q) fun r s' hq => ?_))
    cases r with
    | error e => exact hx pins σ H s e s' I hq
    | ok fl =>
      cases fl with
      | ret u =>
        obtain ⟨v, H', I2, rv, y, ey, q2⟩ := I.after hq
        subst ey
        exact strback rv ⟨.str y, H', I2, rv, q2⟩
      | next => exact False.elim hq
      | brk => exact False.elim hq
      | cont => exact False.elim hq
/-- what stands on the right of an own ==: an instance of the same class, a tuple, a whole number -/
inductive Rgt (H : Hp) (C : Addr) : V → Prop where
  | own {b dx fs} : H b = some (.ins C dx fs) → Rgt H C (.ref b)
  | tup {b xs} : H b = some (.tup xs) → Rgt H C (.ref b)
  | int (i : Int) : Rgt H C (.int i)
theorem rgt_type {pins : List (Addr × Obj)} {σ : L2.St} {H : Hp} {s : Shared} {y : V} {u : Value} (I : Inv X pins σ H s) (h : Rgt H C y) (r : RelV y u) (M : Model)
    (nt : PySem.W.notFirst X.K C (.ref C) = true) (n1 : PySem.W.notFirst X.K C (.type "tuple") = true) (n2 : PySem.W.notFirst X.K C (.type "int") = true) :
    ∃ tb, PySem.W.Looks M s.heap (typeOf u) tb ∧ PySem.W.notFirst X.K C tb = true := by
  cases h with
  | own e =>
    cases r
    obtain ⟨mA, O, _, _, _, _⟩ := ins_get I.hok e
    obtain ⟨od, J, _⟩ := O.look
    exact ⟨.ref C, J.type, nt⟩
  | tup e =>
    cases r
    obtain ⟨_, us, _, o, ho, hc, _⟩ := (show ObjOk X.prog X.w H s.heap _ (.tup _) from I.hok _ _ e)
    exact ⟨.type "tuple", fun A Q E s k q => wpAny_typeOf_ref (k _ _ ho) (by rw [hc]; exact q), n1⟩
  | int i =>
    obtain ⟨t, rfl⟩ := (show ∃ t, u = Value.int i t from r)
    exact ⟨.type "int", fun A Q E s k q => wpAny_typeOf (typeIs_int s i t) q, n2⟩
structure OwnEq (K : PySem.W.Frag) (C g : Addr) : Prop where
  eq : PySem.W.findIn K (.ref C) "__eq__" = some (some (.ref g))
  ne : PySem.W.findIn K (.ref C) "__ne__" = some (some (.builtin "object.__ne__"))
  fn : PySem.W.isFn K (.ref g) = true
  n0 : PySem.W.notFirst K C (.ref C) = true
  n1 : PySem.W.notFirst K C (.type "tuple") = true
  n2 : PySem.W.notFirst K C (.type "int") = true
  mo : PySem.W.mroIn K C (.type "object") = some true
/-- x == y by an own __eq__ -/
def rEqOwn (C : Addr) (sp : Sp) (E : XK) : R2 := fun x y H Q => ∃ a dx fs, x = .ref a ∧ H a = some (.ins C dx fs) ∧ Rgt H C y ∧ sp [x, y] H Q E
theorem op_eqOwn (T : OwnEq X.K C g) (F : FnOk X.prog X.w X.K X.mg X.base CX k g fd ps sp) (hr : Room k X.A) (hb : Binds X.K fd ps [])
    (hx : Passes CX X E) : OpR X (compareOp .Eq) (rEqOwn C sp E) := by
  intro pins s σ H x y v u Q I rx ry h
  obtain ⟨a, dx, fs, rfl, ea, hy, q⟩ := h
  cases (show v = Value.ref a from rx)
  obtain ⟨mA, O, _, _, _, _⟩ := ins_get I.hok ea
  obtain ⟨od, J, _⟩ := O.look
  obtain ⟨tb, hb1, hb2⟩ := rgt_type I hy ry (model X.prog X.w) T.n0 T.n1 T.n2
  obtain ⟨m, hF⟩ := I.fr
  show wpAny _ _ (richCompare .Eq (.ref a) u) _ _ _
  refine PySem.W.cmp_K (op := .Eq) (tb := tb) hr.units0 hF I.ok.mod.kin J hb1 hb2 T.eq T.fn ?_
  refine wpAny_mono (run_fn (us := [.ref a, u]) (vs := [.ref a, y]) (dvs := []) (ds := []) F hr hb .nil hx I (.cons rfl (.cons ry .nil)) q) (fun w s' z => ?_) fun _ _ x => x
  obtain ⟨z', H', I', rz, qz⟩ := z
  exact SlX.cmpback rz ⟨z', H', I', rz, qz⟩
/-- x != y, where the class has an own __eq__ and object's __ne__ -/
def rNeOwn (C : Addr) (sp : Sp) (E : XK) : R2 := fun x y H Q => ∃ a dx fs, x = .ref a ∧ H a = some (.ins C dx fs) ∧ Rgt H C y ∧
  sp [x, y] H (fun z H' => ∃ b, z = .bl b ∧ Q (.bl (!b)) H') E
theorem ifB {M : Model} {A : Around} {E' : Value → Shared → Prop} {s : Shared} {K : PySem.W.Frag} {x : Addr} {ox : Obj} {od : Option Obj} {name : Str} {id : String} {args : List Value} {Q : Option Value → Shared → Prop}
    (Y : K.In s.heap) (J : PySem.W.InstAt s.heap x ox C od) (hs : PySem.W.findIn K (.ref C) name = some (some (.builtin id)))
    (hb : ∀ self, bindSpecial (.builtin id) self = pure (.builtin id, [self]))
    (h : wpAny M A (call (.builtin id) (.ref x :: args)) (fun v => Q (some v)) E' s) : wpAny M A (callSpecialIfBound? (.ref x) name args) Q E' s := by
  have fin : wpAny M A (call (.builtin id) ([.ref x] ++ args) >>= fun v => pure (some v)) Q E' s :=
    wpAny_bind (wpAny_mono h (fun v s' z => wpAny_pure z) fun _ _ z => z)
  simp only [callSpecialIfBound?, bindSpecialIfBound?]
  refine wpAny_holding (wpAny_bind (wpAny_bind (wpAny_bind (J.type.here ((PySem.W.looks_findIn Y hs).here (wpAny_bind (wpAny_askSetting (wpAny_ite ?_))))))))
  split
  · exact wpAny_bind ((PySem.W.Looks.of_pure (hb _)).here (wpAny_pure (by exact fin)))
  · exact wpAny_tryCatch (wpAny_bind ((PySem.W.Looks.of_pure (hb _)).here (wpAny_pure (by exact fin))))
theorem op_neOwn (T : OwnEq X.K C g) (F : FnOk X.prog X.w X.K X.mg X.base CX k g fd ps sp) (hr : Room (k + 1) X.A) (hb : Binds X.K fd ps [])
    (hx : Passes CX X E) : OpR X (compareOp .NotEq) (rNeOwn C sp E) := by
  intro pins s σ H x y v u Q I rx ry h
  obtain ⟨a, dx, fs, rfl, ea, hy, q⟩ := h
  cases (show v = Value.ref a from rx)
  obtain ⟨mA, O, _, _, _, _⟩ := ins_get I.hok ea
  obtain ⟨od, J, _⟩ := O.look
  obtain ⟨tb, hb1, hb2⟩ := rgt_type I hy ry (model X.prog X.w) T.n0 T.n1 T.n2
  have Y := I.kIn
  have r1 : Room k X.A.in1 := Room.in1 hr
  have hl : ([Value.ref a, u] ++ []).length = ps.length := (F.len _ _ _ _ q) ▸ rfl
  have one : wpAny (model X.prog X.w) X.A (tryCompare (.ref a) (cmpInfo .NotEq).2.1 u) (fun r s' => ∃ v, r = some v ∧ EP X pins σ Q v s') X.xe s := by
    unfold tryCompare
    refine wpAny_bind (ifB Y J T.ne PySem.F.slot_object_ne.bind ?_)
    refine wpAny_call (codeAny_call_builtin PySem.F.slot_object_ne.plain PySem.F.entry_object_ne (PySem.W.check_slot (i := "object.__ne__") (owner := "object") (n := "__ne__") (by decide +kernel) (by decide +kernel) (J.type.andThen (PySem.W.looks_mroIn Y T.mo)) (PySem.F.args_object_ne_2 _ _) ?_))
    unfold Builtin.«object.__ne__»
    refine wpAny_bind (m := slotArgs "__ne__" 1 _) (wpAny_pure ?_)
    refine wpAny_bind (m := cRoomFor _ _) (wpAny_cRoomFor r1.units0 ?_)
    refine wpAny_bind (m := callSpecialIfBound? (.ref a) (Str.ofString "__eq__") _) (PySem.W.ifBound_K Y J T.eq T.fn ?_)
    refine wpAny_call (codeAny_mono (F.run X.A.in1 X.stack s H ⟨[.ref a, u], []⟩ [.ref a, u] [.ref a, y] _ E r1 I.env0.in1 (hb s [.ref a, u] Y hl) (.cons rfl (.cons ry .nil)) q) fun r s' hq => ?_)
    cases r with
    | error e => exact hx pins σ H s e s' I hq
    | ok fl =>
      cases fl with
      | ret z =>
        obtain ⟨zv, H', I2, rz, b, ez, q2⟩ := I.after hq
        subst ez
        cases (show z = Value.bool b from rz)
        refine wpAny_bind (m := truthy (.bool b)) (wpAny_truthy_bool (wpAny_pure ?_))
        exact wpAny_pure ⟨_, rfl, .bl (!b), H', I2, rfl, q2⟩
      | next => exact False.elim hq
      | brk => exact False.elim hq
      | cont => exact False.elim hq
  show wpAny _ _ (richCompare .NotEq (.ref a) u) _ _ _
  unfold richCompare
  simp only [oneThing_ref]
  refine wpAny_holding (wpAny_bind (wpAny_cRoomFor hr.units0 ?_))
  refine wpAny_bind (J.type.here (wpAny_bind (hb1.here ?_)))
  split
  · rename_i z
    have e : PySem.W.subIn X.K tb (.ref C) = some false := by
      rcases Bool.or_eq_true_iff.mp hb2 with e | e
      · rw [beq_iff_eq.mp e] at z; simp at z
      · exact beq_iff_eq.mp e
    refine wpAny_bind ((PySem.W.looks_subIn Y e).here ?_)
    simp only [Bool.false_eq_true, if_false]
    refine wpAny_bind (wpAny_mono one (fun r s' w => ?_) fun _ _ e => e)
    obtain ⟨v, rfl, hq⟩ := w
    exact wpAny_pure hq
  · refine wpAny_bind (wpAny_pure ?_)
    simp only [Bool.false_eq_true, if_false]
    refine wpAny_bind (wpAny_mono one (fun r s' w => ?_) fun _ _ e => e)
    obtain ⟨v, rfl, hq⟩ := w
    exact wpAny_pure hq
end
end
end Lk

set_option Elab.async false
set_option linter.all false
set_option maxRecDepth 100000
set_option maxHeartbeats 4000000
set_option exponentiation.threshold 10000
namespace Lk
open PySem L2
/-! helpers -/
/-- all that stood stands, but for p -/
def But (p : Addr) (H H' : Hp) : Prop := ∀ a o, a ≠ p → H a = some o → H' a = some o
theorem same_new {H : Hp} {p : Addr} {o : HO} (h : H p = none) : Same H (upd H p o) := fun b u e => by
  rw [upd_ne (ne_of_none e h)]
  exact e
theorem Same.tr {H H1 H2 : Hp} (a : Same H H1) (b : Same H1 H2) : Same H H2 := fun c o h => b c o (a c o h)
theorem same_refl (H : Hp) : Same H H := fun _ _ h => h
theorem itT {c : Bool} {A B : Prop} (hc : c = true) (h : A) : if c = true then A else B := by
  rw [if_pos hc]; exact h
theorem itF {c : Bool} {A B : Prop} (hc : c = false) (h : B) : if c = true then A else B := by
  rw [hc, if_neg Bool.false_ne_true]; exact h
/-- a def of the module, as its callers have it -/
def Has (P : Program) (w : World) (K : PySem.W.Frag) (mg : Str → Option Value) (base : Heap) (nm : Str) (k : Nat) (ps : List Str) (sp : Sp) : Prop :=
  ∃ f fd, FnOk P w K mg base CX0 k f fd ps sp ∧ mg nm = some (.ref f) ∧ PySem.W.keepIn K (.ref f) = true ∧ Binds K fd ps []
/-- a method -/
def HasM (P : Program) (w : World) (K : PySem.W.Frag) (mg : Str → Option Value) (base : Heap) (C : Addr) (nm : Str) (k : Nat) (ps : List Str) (sp : Sp) : Prop :=
  ∃ f fd, FnOk P w K mg base CX0 k f fd ps sp ∧ Meth K C nm f ∧ Binds K fd ps []
/-- a property -/
def HasP (P : Program) (w : World) (K : PySem.W.Frag) (mg : Str → Option Value) (base : Heap) (C : Addr) (nm : Str) (k : Nat) (sp : Sp) : Prop :=
  ∃ p g fd, PropOf K C nm p g ∧ FnOk P w K mg base CX0 k g fd ["self"] sp ∧ Binds K fd ["self"] []
def Kq (p : Addr) (H H' : Hp) : Prop := ∀ b o, b ≠ p → H b = some o → H' b = some o
theorem Kq.refl {p : Addr} {H : Hp} : Kq p H H := fun _ _ _ e => e
theorem Kq.trans {p : Addr} {H H1 H2 : Hp} (a : Kq p H H1) (b : Kq p H1 H2) : Kq p H H2 := fun c o n e => b c o n (a c o n e)
theorem kq_same {p : Addr} {H H' : Hp} (s : Same H H') : Kq p H H' := fun b o _ e => s b o e
theorem kq_upd {p : Addr} {H : Hp} {o : HO} : Kq p H (upd H p o) := fun b u n e => by rw [upd_ne n]; exact e
theorem kq_new {p L : Addr} {H H1 H2 : Hp} (a : Kq p H H1) (n : H1 L = none) (b : Kq L H1 H2) : Kq p H H2 := fun c o nc e => b c o (ne_of_none (a c o nc e) n) (a c o nc e)
theorem none_of {H H' : Hp} {a : Addr} (s : Same H H') (n : H' a = none) : H a = none := by
  cases e : H a with
  | none => rfl
  | some o => rw [s a o e] at n; cases n
theorem same_put {H H' : Hp} {t : Addr} {o : HO} (s : Same H H') (n : H t = none) : Same H (upd H' t o) := fun a u e => by
  rw [upd_ne (ne_of_none e n)]
  exact s a u e
theorem same_kq {H H1 H2 : Hp} {p : Addr} (s : Same H H1) (n : H p = none) (k : Kq p H1 H2) : Same H H2 := fun b o e => k b o (ne_of_none e n) (s b o e)
def DicAt (H : Hp) (p : Addr) : Prop := ∃ a b c : Int, H p = some (.lst [.int a, .int b, .int c])
theorem dic_upd {H : Hp} {p : Addr} {a b c : Int} : DicAt (upd H p (.lst [.int a, .int b, .int c])) p := ⟨a, b, c, upd_same⟩
theorem dic_same {H H' : Hp} {p : Addr} (s : Same H H') (h : DicAt H p) : DicAt H' p := let ⟨a, b, c, e⟩ := h; ⟨a, b, c, s _ _ e⟩
theorem sqL_same {K : PySem.W.Frag} {H H' : Hp} {a : Addr} {xs : List V} (s : Same H H') (h : SqL K H a xs) : SqL K H' a xs := by
  unfold SqL Rd at h ⊢
  rcases h with (h | ⟨o, h⟩) | h
  · exact .inl (.inl (s _ _ h))
  · exact .inl (.inr ⟨o, s _ _ h⟩)
  · exact .inr h
def LONG : Int := 1000000000000000000000000000000000000000000000000000000000000
theorem long_lt {x : Int} (h1 : -LONG < x) (h2 : x < LONG) : x.natAbs < 2 ^ 200 := by
  have e : LONG < 2 ^ 200 := by decide
  have : x.natAbs < LONG.natAbs := by unfold LONG at *; omega
  exact Nat.lt_trans this (by decide)
theorem both {x : Int} (h1 : -LONG < x) (h2 : x < LONG) : (decide (-LONG < x) && decide (x < LONG)) = true := by
  rw [decide_eq_true h1, decide_eq_true h2]; rfl
/-! bounds by inference -/
class Wd (x : Int) (n : outParam Nat) : Prop where
  h : x.natAbs < 2 ^ n
theorem pow_mono2 {a b : Nat} (h : a ≤ b) : 2 ^ a ≤ 2 ^ b := Nat.pow_le_pow_right (by decide) h
instance wdAdd {x y : Int} {a b : Nat} [hx : Wd x a] [hy : Wd y b] : Wd (x + y) (max a b + 1) := ⟨by
  have := hx.h; have := hy.h
  have h1 := pow_mono2 (Nat.le_max_left a b)
  have h2 := pow_mono2 (Nat.le_max_right a b)
  rw [Nat.pow_succ]; omega⟩
instance wdSub {x y : Int} {a b : Nat} [hx : Wd x a] [hy : Wd y b] : Wd (x - y) (max a b + 1) := ⟨by
  have := hx.h; have := hy.h
  have h1 := pow_mono2 (Nat.le_max_left a b)
  have h2 := pow_mono2 (Nat.le_max_right a b)
  rw [Nat.pow_succ]; omega⟩
instance wdNeg {x : Int} {a : Nat} [hx : Wd x a] : Wd (-x) a := ⟨by rw [Int.natAbs_neg]; exact hx.h⟩
instance wdMul {x y : Int} {a b : Nat} [hx : Wd x a] [hy : Wd y b] : Wd (x * y) (a + b) := ⟨by
  rw [Int.natAbs_mul, Nat.pow_add]
  exact Nat.mul_lt_mul'' hx.h hy.h⟩
instance wdLit {k : Nat} : Wd (no_index (OfNat.ofNat k : Int)) (k.log2 + 1) := ⟨by
  show k < 2 ^ (k.log2 + 1)
  exact Nat.lt_log2_self⟩
theorem mI {x y : Int} {a b : Nat} [hx : Wd x a] [hy : Wd y b] (h : a + b + 2 ≤ 1000000 := by decide) : CMulW x y :=
  wide_mul (a := a + 1) (b := b + 1) (Nat.lt_of_lt_of_le hx.h (pow_mono2 (by omega))) (Nat.lt_of_lt_of_le hy.h (pow_mono2 (by omega))) (by omega) (by omega) (by omega)
theorem wd_of {x : Int} (n : Nat) (h : x.natAbs < 2 ^ n) : Wd x n := ⟨h⟩
/-! lists that a comprehension makes -/
def Acc (H1 : Hp) (D : Addr) (f : Nat → List V) (i : Nat) (H : Hp) : Prop := Same H1 H ∧ H D = some (.lst (f i))
theorem Acc.zero {H1 : Hp} {D : Addr} {f : Nat → List V} (hD : H1 D = none) (e : f 0 = []) : Acc H1 D f 0 (upd H1 D (.lst [])) := ⟨same_new hD, by rw [e, upd_same]⟩
theorem Acc.put {H1 H H4 : Hp} {D : Addr} {f : Nat → List V} {i : Nat} {y : V} (a : Acc H1 D f i H) (hD : H1 D = none) (s : Same H H4) (l : (f i).length < sizeLine) (e : f (i + 1) = f i ++ [y]) :
    ∃ acc, H4 D = some (.lst acc) ∧ acc.length < sizeLine ∧ Acc H1 D f (i + 1) (upd H4 D (.lst (acc ++ [y]))) :=
  ⟨f i, s _ _ a.2, l, same_put (Same.tr a.1 s) hD, by rw [upd_same, e]⟩
theorem Acc.skip {H1 H H4 : Hp} {D : Addr} {f : Nat → List V} {i : Nat} (a : Acc H1 D f i H) (s : Same H H4) (e : f (i + 1) = f i) : Acc H1 D f (i + 1) H4 :=
  ⟨Same.tr a.1 s, by rw [e]; exact s _ _ a.2⟩
theorem dp_ints {K : PySem.W.Frag} {H : Hp} : ∀ ns : List Int, DpAll K H (ns.map V.int) (ns.map PyData.int)
  | [] => .nil
  | n :: ns => .cons (.int n) (dp_ints ns)
theorem d_ints : ∀ ns : List Int, PyData.canLayAll0 (ns.map PyData.int) = true ∧ PyData.depthAll (ns.map PyData.int) ≤ 1
  | [] => ⟨rfl, by simp [PyData.depthAll]⟩
  | n :: ns => by
    obtain ⟨a, b⟩ := d_ints ns
    refine ⟨by rw [List.map_cons, PyData.canLayAll0, a]; rfl, ?_⟩
    rw [List.map_cons, PyData.depthAll]
    simp only [PyData.depth]
    omega
theorem sh_ints (ns : List Int) : SeqAt.shaped (.list (ns.map PyData.int)) = true ∧ PyData.eqv (.list (ns.map PyData.int)) (.list (ns.map PyData.int)) = true := by
  obtain ⟨a, b⟩ := d_ints ns
  have c : PyData.canLay0 (.list (ns.map PyData.int)) = true := by rw [PyData.canLay0]; exact a
  refine ⟨?_, SeqAt.eqv_refl _ c⟩
  unfold SeqAt.shaped
  rw [c, Bool.true_and]
  refine decide_eq_true ?_
  simp only [PyData.depth]
  omega

/-- a comprehension's list of whole numbers that dice at p tell -/
def AccR (p : Addr) (H1 : Hp) (D : Addr) (B : Int → Prop) (i : Nat) (H : Hp) : Prop := Kq p H1 H ∧ DicAt H p ∧ ∃ xs : List Int, xs.length = i ∧ (∀ x ∈ xs, B x) ∧ H D = some (.lst (xs.map V.int))
theorem AccR.zero {p : Addr} {H1 : Hp} {D : Addr} {B : Int → Prop} (h : DicAt H1 p) (hD : H1 D = none) : AccR p H1 D B 0 (upd H1 D (.lst [])) :=
  ⟨kq_same (same_new hD), dic_same (same_new hD) h, [], rfl, (fun _ z => nomatch z), upd_same⟩
theorem AccR.put {p : Addr} {H1 H H4 : Hp} {D : Addr} {B : Int → Prop} {i : Nat} {y : Int} (a : AccR p H1 D B i H) (h1 : DicAt H1 p) (hD : H1 D = none) (k : Kq p H H4) (d : DicAt H4 p) (hy : B y) (l : i < 1000) :
    ∃ acc, H4 D = some (.lst acc) ∧ acc.length < sizeLine ∧ AccR p H1 D B (i + 1) (upd H4 D (.lst (acc ++ [.int y]))) := by
  obtain ⟨k1, _, xs, e, hb, hx⟩ := a
  obtain ⟨_, _, _, hp⟩ := h1
  have nD : D ≠ p := fun z => by rw [z, hp] at hD; cases hD
  obtain ⟨a1, b1, c1, h4⟩ := d
  refine ⟨_, k D _ nD hx, ?_, fun b o nb eb => ?_, ⟨a1, b1, c1, by rw [upd_ne (fun z => nD z.symm)]; exact h4⟩, xs ++ [y], ?_, ?_, ?_⟩
  · rw [List.length_map, e]; exact Nat.lt_of_lt_of_le l (by decide)
  · rw [upd_ne (fun z => by rw [z, hD] at eb; cases eb)]
    exact k b o nb (k1 b o nb eb)
  · rw [List.length_append, e]; rfl
  · intro x hx
    rcases List.mem_append.mp hx with z | z
    · exact hb x z
    · rw [List.mem_singleton.mp z]; exact hy
  · rw [upd_same, List.map_append]; rfl
theorem sh_tup (ns : List Int) : SeqAt.shaped (.tuple (ns.map PyData.int)) = true ∧ PyData.eqv (.tuple (ns.map PyData.int)) (.tuple (ns.map PyData.int)) = true := by
  obtain ⟨a, b⟩ := d_ints ns
  have c : PyData.canLay0 (.tuple (ns.map PyData.int)) = true := by rw [PyData.canLay0]; exact a
  refine ⟨?_, SeqAt.eqv_refl _ c⟩
  unfold SeqAt.shaped
  rw [c, Bool.true_and]
  refine decide_eq_true ?_
  simp only [PyData.depth]
  omega
theorem sqT_same {K : PySem.W.Frag} {H H' : Hp} {a : Addr} {xs : List V} (s : Same H H') (h : SqT K H a xs) : SqT K H' a xs := by
  unfold SqT Rd at h ⊢
  rcases h with (h | ⟨o, h⟩) | h
  · exact .inl (.inl (s _ _ h))
  · exact .inl (.inr ⟨o, s _ _ h⟩)
  · exact .inr h
theorem five {xs : List Int} {B : Int → Prop} (l : xs.length = 5) (h : ∀ x ∈ xs, B x) : ∃ a1 a2 a3 a4 a6, xs = [a1, a2, a3, a4, a6] ∧ B a1 ∧ B a2 ∧ B a3 ∧ B a4 ∧ B a6 := by
  match xs, l, h with
  | [a, b, c, d, e], _, h => exact ⟨a, b, c, d, e, rfl, h _ (by simp), h _ (by simp), h _ (by simp), h _ (by simp), h _ (by simp)⟩
/-- turns of any body -/
theorem turns {J : It} {n : Nat} {G : Hp → Prop} {Y : Nat → Hp → V → Hp → Prop} (w : Walk J n G Y) {B : V → Hp → (Hp → Prop) → Prop} {Qd : Hp → Prop} {H0 : Hp} (Pv : Nat → Hp → Prop) (h0 : Pv 0 H0) (hG : ∀ i H, i ≤ n → Pv i H → G H)
    (hs : ∀ i x H H', i < n → Pv i H → Y i H x H' → B x H' (Pv (i + 1))) (hd : ∀ H, Pv n H → Qd H) :
    ∃ W : Nat → Nat → Hp → Prop, (∃ m, W 0 m H0) ∧ ∀ i m H, W i m H →
      (J.stop i H ∧ Qd H) ∨ (J.go i H ∧ ∃ Nx : Hp → Prop, (∀ H', Nx H' → ∃ m', m' < m ∧ W (i + 1) m' H') ∧ ∀ x H', J.yld i H x H' → B x H' Nx) := by
  refine ⟨fun i m H => m = n - i ∧ i ≤ n ∧ Pv i H, ⟨n, by simp, Nat.zero_le _, h0⟩, ?_⟩
  rintro i m H ⟨rfl, hi, p⟩
  have q := hG i H hi p
  by_cases hlt : i < n
  · exact .inr ⟨w.goes i H hlt q, Pv (i + 1), fun H' p' => ⟨n - (i + 1), by omega, rfl, hlt, p'⟩, fun x H' y => hs i x H H' hlt p (w.yields i H x H' hlt q y)⟩
  · have e : i = n := by omega
    subst e
    exact .inl ⟨w.stops H q, hd H p⟩
theorem atI_last {xs : List V} {n : Nat} {v : V} (hl : xs.length = n + 1) (h : xs[n]? = some v) : atI xs (-1) = some v := by
  have e : ixN xs.length (-1) = some n := by
    unfold ixN
    rw [hl, if_neg (by decide), if_pos (by omega)]
    exact congrArg some (by omega)
  unfold atI; rw [e]; exact h

/-- dice at p: the rest stands -/
theorem fm {a : Int} {n : Nat} : a.fmod (n : Int) = a % (n : Int) := Int.fmod_eq_emod_of_nonneg _ (by omega)
theorem V_int_eq {a b : Int} : decide (V.int a = V.int b) = decide (a = b) := decide_eq_decide.mpr ⟨fun z => V.int.inj z, fun z => by rw [z]⟩
end Lk

set_option Elab.async false
set_option linter.all false
set_option maxRecDepth 100000
set_option maxHeartbeats 4000000
/-! slices with a step; a range object walked; zip of tuples -/
namespace Lk
open PySem PySem.Spec PyProof.Rows L2 HT
/-- the items of xs[lo:hi:c] -/
def stepV (xs : List V) (lo hi : Option Int) (c : Int) : List V :=
  (List.range (Builtin.Slice.slicePlaces (Builtin.Slice.sliceAdjust lo hi c (xs.length : Int)).1 (Builtin.Slice.sliceAdjust lo hi c (xs.length : Int)).2 c)).filterMap fun (k : Nat) => xs[((Builtin.Slice.sliceAdjust lo hi c (xs.length : Int)).1 + (k : Int) * c).toNat]?
theorem vals_pick {xs : List V} {us : List Value} (r : Vals xs us) (f : Nat → Nat) : ∀ ks : List Nat, Vals (ks.filterMap fun k => xs[f k]?) (ks.filterMap fun k => us[f k]?)
  | [] => .nil
  | k :: ks => by
    have ih := vals_pick r f ks
    cases e : xs[f k]? with
    | none =>
      rw [List.filterMap_cons_none (by exact e), List.filterMap_cons_none (by exact r.none_of e)]
      exact ih
    | some x =>
      obtain ⟨u, eu, ru⟩ := r.get e
      rw [List.filterMap_cons_some (b := x) (by exact e), List.filterMap_cons_some (b := u) (by exact eu)]
      exact .cons ru ih
section
variable {prog : Program} {w : World} {A : Around} {E : Value → Shared → Prop} {s : Shared}
theorem sliceApplied_step {sl : Addr} {vl vu vk : Value} {lo hi : Option Int} {c : Int} {n : Nat} {Q : Int × Int × Nat → Shared → Prop} (hs : s.heap.IsSliceOf sl vl vu vk) (pl : IsPart vl lo) (pu : IsPart vu hi) (pk : IsPart vk (some c)) (c0 : c ≠ 0)
    (h : Q ((Builtin.Slice.sliceAdjust lo hi c (n : Int)).1, c, Builtin.Slice.slicePlaces (Builtin.Slice.sliceAdjust lo hi c (n : Int)).1 (Builtin.Slice.sliceAdjust lo hi c (n : Int)).2 c) s) : wpAny (model prog w) A (Builtin.Slice.sliceApplied (.ref sl) (pure (n : Int))) Q E s := by
  obtain ⟨os, hos, hcs, hds⟩ := id hs
  unfold Builtin.Slice.sliceApplied Builtin.Slice.sliceFields
  refine wpAny_bind (wpAny_bind (wpAny_field hos hds (x := vl) rfl (wpAny_bind (wpAny_field hos hds (x := vu) rfl (wpAny_bind (wpAny_field hos hds (x := vk) rfl (wpAny_pure ?_)))))))
  refine wpAny_bind (slicePart_ pk ?_)
  show wpAny _ _ (if (c == 0) = true then _ else _) _ _ s
  rw [if_neg (by simpa using c0)]
  refine wpAny_bind (slicePart_ pl (wpAny_bind (slicePart_ pu (wpAny_bind (wpAny_pure ?_)))))
  exact wpAny_pure h
theorem getItem_tuple_step {t sl : Addr} {items : Array Value} {vl vu vk : Value} {lo hi : Option Int} {c : Int} {Q : Value → Shared → Prop} (ht : IsTup s.heap t items) (hs : s.heap.IsSliceOf sl vl vu vk) (pl : IsPart vl lo) (pu : IsPart vu hi) (pk : IsPart vk (some c))
    (c0 : c ≠ 0) (c1 : c ≠ 1) (hsz : ((List.range (Builtin.Slice.slicePlaces (Builtin.Slice.sliceAdjust lo hi c (items.size : Int)).1 (Builtin.Slice.sliceAdjust lo hi c (items.size : Int)).2 c)).filterMap fun (k : Nat) => items[((Builtin.Slice.sliceAdjust lo hi c (items.size : Int)).1 + (k : Int) * c).toNat]?).length ≤ sizeLine)
    (h : Q (.ref s.heap.objs.size) { s with heap := s.heap.push { cls := .type "tuple", data := .seq ((List.range (Builtin.Slice.slicePlaces (Builtin.Slice.sliceAdjust lo hi c (items.size : Int)).1 (Builtin.Slice.sliceAdjust lo hi c (items.size : Int)).2 c)).filterMap fun (k : Nat) => items[((Builtin.Slice.sliceAdjust lo hi c (items.size : Int)).1 + (k : Int) * c).toNat]?).toArray } }) :
    wpAny (model prog w) A (getItem (.ref t) (.ref sl)) Q E s := by
  have htake : sizeOk (.seq ((List.range (Builtin.Slice.slicePlaces (Builtin.Slice.sliceAdjust lo hi c (items.size : Int)).1 (Builtin.Slice.sliceAdjust lo hi c (items.size : Int)).2 c)).filterMap fun (k : Nat) => items[((Builtin.Slice.sliceAdjust lo hi c (items.size : Int)).1 + (k : Int) * c).toNat]?).toArray) := by
    show Array.size _ ≤ sizeLine
    rw [List.size_toArray]
    exact hsz
  obtain ⟨os, hos, hcs, hds⟩ := id hs
  have hTs : s.TypeIs (.ref sl) "slice" := ⟨os, hos, hcs⟩
  unfold getItem
  try with_reducible refine wpAny_holding ?_
  first | refine wpAny_bind (wpAny_pure ?_) | skip
  refine wpAny_bind (wpAny_sequenceKey ht.typeIs (by decide) ?_)
  refine wpAny_bind (wpAny_callSpecial?_slot (name := Str.ofString "__getitem__") ht.typeIs PyProof.Rows.slot_tuple_getitem
    (wpAny_call_entry PyProof.Rows.slot_tuple_getitem ht.typeIs entry_tuple_getitem ?_ (args_tuple_getitem _ _)))
  show wpAny _ _ (Builtin.Tuple.tupleItemsOf (.ref t) >>= _) _ _ s
  refine wpAny_bind (tupleItemsOf_ ht ?_)
  refine wpAny_bind (wpAny_typeOf hTs ?_)
  rw [if_pos (by decide)]
  refine wpAny_bind (sliceApplied_step hs pl pu pk c0 ?_)
  generalize (Builtin.Slice.sliceAdjust lo hi c (items.size : Int)).1 = lo1 at *
  generalize Builtin.Slice.slicePlaces lo1 (Builtin.Slice.sliceAdjust lo hi c (items.size : Int)).2 c = m at *
  have hno : ¬ ((lo1 == 0 && c == 1 && m == items.size) = true) := by
    intro q
    rw [Bool.and_eq_true, Bool.and_eq_true] at q
    exact c1 (eq_of_beq q.1.2)
  show wpAny _ _ (if (lo1 == 0 && c == 1 && m == items.size) = true then _ else _) _ _ s
  rw [if_neg hno]
  first
    | exact wpAny_bind (m := Builtin.Tuple.tupleExact _) (wpAny_newObj_type (wpAny_pure ⟨_, rfl, wpAny_pure h⟩) htake)
    | exact wpAny_bind (m := Builtin.Tuple.tupleExact _) (wpAny_newObj_type (wpAny_bind (wpAny_pure (wpAny_pure ⟨_, rfl, wpAny_pure h⟩))) htake)
    | exact wpAny_bind (wpAny_bind (m := Builtin.Tuple.tupleExact _) (wpAny_newObj_type (wpAny_pure (wpAny_pure ⟨_, rfl, wpAny_pure h⟩)) htake))
    | exact wpAny_bind (wpAny_bind (m := Builtin.Tuple.tupleExact _) (wpAny_newObj_type (wpAny_pure ⟨_, rfl, wpAny_pure h⟩) htake))
end
section
variable {X : Cx} {e : Expr} {te : TE} {lo hi : Option Expr} {st : Expr} {tl th : TO} {tk : TO} {pos p2 : Pos}
/-- what a slice with a step is, by values -/
def SlR3 (X : Cx) (r : V → Option Int → Option Int → Int → Hp → VK → Prop) : Prop :=
  ∀ (pins : List (Addr × Obj)) (s : Shared) (σ : L2.St) (H : Hp) (x : V) (v vl vu vk : Value) (lo hi : Option Int) (c : Int) (sl : Addr) (Q : VK), Inv X pins σ H s → RelV x v → s.heap.IsSliceOf sl vl vu vk → IsPart vl lo → IsPart vu hi → IsPart vk (some c) → r x lo hi c H Q →
    ∃ T id, typeLookup (.type T) "__getitem__" = pure (some (.builtin id)) ∧ s.TypeIs v T ∧ wpAny (model X.prog X.w) X.A (getItem v (.ref sl)) (EP X pins σ Q) X.xe s
def tSl3 (r : V → Option Int → Option Int → Int → Hp → VK → Prop) (te : TE) (tl th tk : TO) : TE := fun σ H Q => te σ H fun x H1 => tl σ H1 fun l H2 => th σ H2 fun u H3 => tk σ H3 fun k H4 => ∃ c, k = some c ∧ r x l u c H4 Q
theorem pe_slice3 {r : V → Option Int → Option Int → Int → Hp → VK → Prop} (hr : SlR3 X r) (he : PE X e te) (hl : PO X lo tl) (hu : PO X hi th) (hk : PO X (some st) tk) : PE X (.Subscript e (.Slice lo hi (some st) p2) pos) (tSl3 r te tl th tk) := by
  refine ⟨fun pins s σ H Q I h => ?_⟩
  refine Subscript_ (thn (he.run pins s σ H _ I h) fun v s1 ⟨x, H1, I1, r1, q1⟩ => ?_)
  refine wpAny_Slice (thn (hl.run pins s1 σ H1 _ I1 q1) fun vl s2 ⟨l, H2, I2, pl, q2⟩ => thn (hu.run pins s2 σ H2 _ I2 q2) fun vu s3 ⟨u, H3, I3, pu, q3⟩ => thn (hk.run pins s3 σ H3 _ I3 q3) fun vk s4 ⟨k, H4, I4, pk, c, ek, q4⟩ => ?_)
  subst ek
  have I5 : Inv X pins σ H4 { s4 with heap := s4.heap.push { cls := .type "slice", data := .fields #[vl, vu, vk] } } := I4.kept (t' := s4.toks) fun b ob q => Heap.get?_push_of_some _ q
  obtain ⟨T, id, hT, ht, hg⟩ := hr pins { s4 with heap := s4.heap.push { cls := .type "slice", data := .fields #[vl, vu, vk] } } σ H4 x v vl vu vk l u c s4.heap.objs.size Q I5 r1 (Heap.IsSliceOf.new ..) pl pu pk q4
  show wpAny (model X.prog X.w) X.A (subscriptTail e (.Slice lo hi (some st) p2) v (.ref s4.heap.objs.size)) (EP X pins σ Q) X.xe { s4 with heap := s4.heap.push { cls := .type "slice", data := .fields #[vl, vu, vk] } }
  exact tail_any (ops := [v, .ref s4.heap.objs.size]) ht hT hg (by with_unfolding_all rfl)
/-- t[lo:hi:c] of a tuple, c neither 0 nor 1 -/
def rSlT3 (K : PySem.W.Frag) : V → Option Int → Option Int → Int → Hp → VK → Prop := fun x lo hi c H Q => ∃ a xs, x = .ref a ∧ SqT K H a xs ∧ c ≠ 0 ∧ c ≠ 1 ∧ (stepV xs lo hi c).length ≤ sizeLine ∧ ∀ p, H p = none → Q (.ref p) (upd H p (.tup (stepV xs lo hi c)))
theorem sl_tup3 : SlR3 X (rSlT3 X.K) := by
  intro pins s σ H x v vl vu vk lo hi c sl Q I rx hs pl pu pk h
  obtain ⟨a, xs, rfl, hx, c0, c1, hz0, q⟩ := h
  cases rx
  obtain ⟨its, r, ht, hz⟩ := I.tuple hx
  have hlen : its.toArray.size = xs.length := by rw [List.size_toArray]; exact r.length.symm
  refine ⟨"tuple", _, PyProof.Rows.slot_tuple_getitem.lookup, ht.typeIs, ?_⟩
  have pick := vals_pick r (fun k => ((Builtin.Slice.sliceAdjust lo hi c (xs.length : Int)).1 + (k : Int) * c).toNat) (List.range (Builtin.Slice.slicePlaces (Builtin.Slice.sliceAdjust lo hi c (xs.length : Int)).1 (Builtin.Slice.sliceAdjust lo hi c (xs.length : Int)).2 c))
  have pl2 : (List.filterMap (fun (k : Nat) => its[((Builtin.Slice.sliceAdjust lo hi c (xs.length : Int)).1 + (k : Int) * c).toNat]?) (List.range (Builtin.Slice.slicePlaces (Builtin.Slice.sliceAdjust lo hi c (xs.length : Int)).1 (Builtin.Slice.sliceAdjust lo hi c (xs.length : Int)).2 c))).length ≤ sizeLine := by rw [← pick.length]; exact hz0
  have earr : (fun (k : Nat) => its.toArray[((Builtin.Slice.sliceAdjust lo hi c (xs.length : Int)).1 + (k : Int) * c).toNat]?) = fun (k : Nat) => its[((Builtin.Slice.sliceAdjust lo hi c (xs.length : Int)).1 + (k : Int) * c).toNat]? := by
    funext k
    exact List.getElem?_toArray
  refine getItem_tuple_step ht hs pl pu pk c0 c1 (by rw [hlen, earr]; exact pl2) ?_
  rw [hlen, earr]
  refine ⟨.ref s.heap.objs.size, _, I.laid (t' := s.toks) (o := .tup (stepV xs lo hi c)) (fun b ob q => Heap.get?_push_of_some _ q) (Nat.le_refl _) ?_, rfl, q _ (I.hok.fresh (Nat.le_refl _))⟩
  exact ⟨hz0, _, pick, IsTup.new _ _⟩
/-- a range that a name holds, walked -/
def iRngV (te : TE) : TI := fun σ H R => te σ H fun x H1 => ∃ a lo hi, x = .ref a ∧ H1 a = some (.rng lo hi) ∧ (-(2 ^ 62) ≤ lo ∧ lo < 2 ^ 62 ∧ -(2 ^ 62) ≤ hi ∧ hi < 2 ^ 62) ∧ R (Itr lo (hi - lo).toNat) H1
theorem pi_rng {tg l : Expr} {tl : TE} (hl : PE X l tl) : PI X tg l (iRngV tl) := by
  refine ⟨fun pins s σ H R I h => ?_⟩
  refine thn (hl.run pins s σ H _ I h) fun v s1 ⟨x, H1, I1, r1, q1⟩ => ?_
  obtain ⟨a, lo, hi, rfl, ha, ⟨h1, h2, h3, h4⟩, q⟩ := q1
  cases r1
  obtain ⟨t, u, v, ho⟩ := (show ObjOk X.prog X.w H1 s1.heap _ (.rng lo hi) from I1.hok _ _ ha)
  refine wpAny_pyIter_range ho (small_one h1 h2 h3 h4) ?_
  refine ⟨s1.heap.objs.size, [s1.heap.objs.size], _, _, H1, rfl, I1.kept (t' := s1.toks) fun b o e => Heap.get?_push_of_some _ e, turn_range _ lo (hi - lo).toNat, ?_, fun b hb => ?_, q⟩
  · have e1 : lo + ((0 : Nat) : Int) * 1 = lo := by simp
    have e2 : (((hi - lo).toNat : Nat) : Int) - ((0 : Nat) : Int) = Builtin.Range.rangeSize lo hi 1 := by rw [rangeSize_one]; split <;> omega
    show IsRangeIter _ _ (lo + ((0 : Nat) : Int) * 1) ((((hi - lo).toNat : Nat) : Int) - ((0 : Nat) : Int)) 1
    rw [e1, e2]
    exact Heap.get?_push_size _ rfl
  · have e : b = s1.heap.objs.size := by simpa using hb
    subst e
    exact I1.fpOk (Nat.le_refl _) (I1.hok.fresh (Nat.le_refl _))
end
end Lk

set_option Elab.async false
set_option linter.all false
set_option maxRecDepth 100000
set_option maxHeartbeats 4000000
/-! tuple * 1: the tuple itself -/
namespace Lk
open PySem PySem.Spec PyProof.Rows L2
theorem tuple_mul1 (l : Addr) (items : Array Value) (n : Nat) (dd : Option Addr) (sl : Array (Option Value)) (u : Tok) :
    Meets (Builtin.«tuple.__mul__» ⟨[.ref l, .int 1 u], []⟩) (fun _ R s => s.heap.get? l = some { cls := .type "tuple", dict := dd, data := .seq items n, slots := sl } ∧ R (.ok (.ret (Value.ref l))) s) :=
  .of_wp fun prog w A R s h => by
    obtain ⟨hp, g, d, tk, os⟩ := s
    obtain ⟨hl, h⟩ := h
    have f1 := AutoSeq1.idx_int
    have c1 : (items.isEmpty || (1 : Int) == 1) = true := by simp
    wp_walk using wpAny_loadPart' hl
    exact ⟨_, rfl, h⟩
/-- t * k, t not empty: k = 1 gives t itself -/
def rRepA (K : PySem.W.Frag) : R2 := fun x y H Q => ∃ l k xs, x = .ref l ∧ y = .int k ∧ SqT K H l xs ∧ xs ≠ [] ∧ 1 ≤ k ∧ k ≤ 1000 ∧ xs.length ≤ 1000 ∧ (k = 1 → Q (.ref l) H) ∧ (k ≠ 1 → ∀ p, H p = none → Q (.ref p) (upd H p (.tup (List.replicate k.toNat xs).flatten)))
section
variable {X : Cx}
theorem op_repA : OpR X (binaryOp .Mult) (rRepA X.K) := by
  intro pins s σ H x y v u Q I rx ry h
  obtain ⟨l, k, xs, rfl, rfl, hT, hne, h1, h2, hz, q1, q2⟩ := h
  by_cases hk : k = 1
  · subst hk
    cases rx
    obtain ⟨t, rfl⟩ := ry
    obtain ⟨its, r, ⟨⟨cls, dd, data, sl⟩, ho, hc, n, hd⟩, hs⟩ := I.tuple hT
    simp only at hc hd
    subst hc hd
    exact wpAny_binaryOp_repeat_ref (T := "tuple") (U := "int") (by decide) ⟨_, ho, rfl⟩ (fun s' => typeIs_int s' 1 t) noFill_tuple_mul F.fills_int_mul F.slot_int_rmul repeat_tuple F.slot_int_index.lookup
      (call_meets F.slot_int_rmul (typeIs_int s 1 t) F.entry_int_rmul (F.args_int_rmul_2 _ _) (int_rmul_tuple 1 t l its.toArray n dd sl)
        ⟨ho, rfl, ⟨_, ho, rfl⟩, call_meets F.slot_tuple_mul ⟨_, ho, rfl⟩ F.entry_tuple_mul (F.args_tuple_mul_2 _ _) (tuple_mul1 l its.toArray n dd sl t) ⟨ho, ⟨.ref l, H, I, rfl, q1 rfl⟩⟩⟩)
  · exact op_repT pins s σ H _ _ v u Q I rx ry ⟨l, k, xs, rfl, rfl, hT, hne, by omega, h2, hz, q2 hk⟩
/-- (x,) * k, k from 1 on: some tuple of k x's -/
def rRepZ (_ : PySem.W.Frag) : R2 := fun x y H Q => ∃ (l : Addr) (k : Int) (v : V), x = .ref l ∧ y = .int k ∧ H l = some (.tup [v]) ∧ 1 ≤ k ∧ k ≤ 1000 ∧
  ∀ (t : Addr) (H' : Hp), (∀ b o, H b = some o → H' b = some o) → H' t = some (.tup (List.replicate k.toNat v)) → Q (.ref t) H'
theorem flat_rep1 (v : V) : ∀ n : Nat, (List.replicate n [v]).flatten = List.replicate n v
  | 0 => rfl
  | n + 1 => by rw [List.replicate_succ, List.flatten_cons, flat_rep1 v n, List.replicate_succ]; rfl
theorem op_repZ : OpR X (binaryOp .Mult) (rRepZ X.K) := by
  intro pins s σ H x y v u Q I rx ry h
  obtain ⟨l, k, z, rfl, rfl, hl, k1, k9, q⟩ := h
  refine op_repA pins s σ H _ _ v u Q I rx ry ⟨l, k, [z], rfl, rfl, .inl (.inl hl), by simp, k1, k9, by simp, fun e => ?_, fun e p np => ?_⟩
  · subst e
    exact q l H (fun _ _ h => h) hl
  · rw [flat_rep1]
    refine q p _ (fun b o e => ?_) upd_same
    have : b ≠ p := fun z => by rw [z, np] at e; cases e
    rw [upd_ne this]
    exact e
end
end Lk

set_option Elab.async false
set_option linter.all false
set_option maxRecDepth 100000
set_option maxHeartbeats 4000000
namespace Lk
open PySem PySem.Spec PyProof.Rows L2
theorem walk_zipT {K : PySem.W.Frag} {a b : Addr} {xs ys : List V} {n : Nat} (hn : n = min xs.length ys.length) : Walk (RZ.ItzT K a b) n (fun H => SqT K H a xs ∧ SqT K H b ys) (YPair (fun i => xs[i]?) (fun i => ys[i]?)) := by
  subst hn
  refine ⟨fun i _ hi q => ?_, fun _ q => ⟨xs, ys, q.1, q.2, by omega⟩, fun i H v H' _ q y => ?_⟩
  · have h1 : i < xs.length := by omega
    have h2 : i < ys.length := by omega
    exact ⟨xs, ys, xs[i], ys[i], q.1, q.2, by simp [h1], by simp [h2]⟩
  · obtain ⟨T, x, z, h1, h2, h3, h4, h5⟩ := y
    exact ⟨T, x, z, h1, h2, h3, h4 xs q.1, h5 ys q.2⟩
/-- a list or a tuple -/
def Sq (K : PySem.W.Frag) (H : Hp) (a : Addr) (xs : List V) : Prop := SqL K H a xs ∨ SqT K H a xs
theorem sq_same {K : PySem.W.Frag} {H H' : Hp} {a : Addr} {xs : List V} (s : Same H H') (h : Sq K H a xs) : Sq K H' a xs := h.imp (sqL_same s) (sqT_same s)
def rIxSq (K : PySem.W.Frag) : R2 := fun x y H Q => ∃ p xs i v, x = .ref p ∧ y = .int i ∧ Sq K H p xs ∧ atI xs i = some v ∧ Q v H
section
variable {X : Cx}
theorem ix_sq : IxR X (rIxSq X.K) := by
  intro value slice pins s σ H x y v u Q I rx ry h hs
  obtain ⟨p, xs, i, z, e1, e2, hq | hq, he, q⟩ := h
  · exact ix_list value slice pins s σ H x y v u Q I rx ry ⟨p, xs, i, z, e1, e2, hq, he, q⟩ hs
  · exact ix_tup value slice pins s σ H x y v u Q I rx ry ⟨p, xs, i, z, e1, e2, hq, he, q⟩ hs
end
theorem fdiv_nat (a b : Nat) : (a : Int).fdiv (b : Int) = ((a / b : Nat) : Int) := by rw [Int.fdiv_eq_ediv_of_nonneg _ (by omega)]; rfl
end Lk

set_option Elab.async false
set_option linter.all false
set_option maxRecDepth 100000
set_option maxHeartbeats 4000000
namespace Lk
open PySem L2
def top (i : Nat) : Stmt := PySem.Challenge.pw_lawseries_k68_whole_rests_of_coordinates.main.body.getD i (.Pass ⟨0, 0, 0, 0⟩)
/-- what the module's name space leaves of built-in names -/
structure Bl (mg : Str → Option Value) : Prop where
  int : mg "int" = none
  len : mg "len" = none
  abs : mg "abs" = none
  max : mg "max" = none
/-- the three numbers of a law's dice, at p -/
def DiceAt (H : Hp) (p : Addr) : Prop := ∃ a b c : Int, H p = some (.lst [.int a, .int b, .int c])
section
variable {P : Program} {w : World} {K : PySem.W.Frag} {mg : Str → Option Value} {base : Heap}
theorem sqL_upd {K : PySem.W.Frag} {H : Hp} {a p : Addr} {xs : List V} {o : HO} (ne : a ≠ p) (h : SqL K H a xs) : SqL K (upd H p o) a xs := by
  unfold SqL Rd at h ⊢
  rw [upd_ne ne]
  exact h
/-! ### roll -/
def spRoll : Sp := fun vs H Q _ => ∃ (p : Addr) (a b c t : Int), vs = [.ref p, .int t] ∧ H p = some (.lst [.int a, .int b, .int c]) ∧
  0 < t ∧ t < 1606938044258990275541962092341162602522202993782792835301376 ∧ ∀ (r a' c' : Int), 0 ≤ r → r < t → Q (.int r) (upd H p (.lst [.int a', .int b, .int c']))
abbrev sRoll : Stmt := top 40
theorem scRoll : FnScope ["_law_dice_here", "_law_total", "_law_found", "_law_one", "_law_two"] ["_law_dice_here", "_law_total"] (defScope sRoll) :=
  ⟨rfl, rfl, rfl, by decide +kernel, rfl, by decide +kernel, by decide +kernel⟩
theorem upd_upd {H : Hp} {p : Addr} {o o' : HO} : upd (upd H p o) p o' = upd H p o' := by
  funext b
  by_cases h : b = p
  · subst h; rw [upd_same, upd_same]
  · rw [upd_ne h, upd_ne h, upd_ne h]
theorem upd_self {H : Hp} {p : Addr} {o : HO} (h : H p = some o) : upd H p o = H := by
  funext b
  by_cases e : b = p
  · subst e; rw [upd_same, h]
  · rw [upd_ne e]
theorem mod_lo {i j : Int} (h : 0 < j) : 0 ≤ i.fmod j := by
  rw [Int.fmod_eq_emod_of_nonneg _ (Int.le_of_lt h)]; exact Int.emod_nonneg _ (by omega)
theorem mod_hi {i j : Int} (h : 0 < j) : i.fmod j < j := by
  rw [Int.fmod_eq_emod_of_nonneg _ (Int.le_of_lt h)]; exact Int.emod_lt_of_pos _ h
theorem ok_roll {f : Addr} {fd : FuncData} (F : Fun K "_law_roll" "_law_roll" sRoll f fd) (B : Bl mg) :
    FnOk P w K mg base CX0 1 f fd ["_law_dice_here", "_law_total"] spRoll := by
  refine F.ok scRoll (fun vs H Q E h => ?_) (fun cdv A outer s H vs Q E hr h => ?_)
  · obtain ⟨p, a, b, c, t, rfl, _⟩ := h
    rfl
  · obtain ⟨p, a, b, c, t, rfl, hp, t0, t1, k⟩ := h
    refine ⟨_, pss_cons (ps_if (pt_cmpR op_gt (pe_ix ix_list (pv 0) pe_int (fun _ _ => rfl)) pe_int (nomark _))
        (pss_cons (ps_set (i := 2) scRoll.nd rfl (.inl rfl) (pe_op op_modN (pe_callTy call_int1 (by rfl) B.int PyProof.Rows.boot_int (pa_cons (pe_ix ix_list (pv 0) pe_int (fun _ _ => rfl)) pa_nil)) (pv 1)))
          (pss_cons (ps_asg (pe_op op_fdivW (pe_ix ix_list (pv 0) pe_int (fun _ _ => rfl)) (pv 1)) (pg_sub (pv 0) pe_int set_list)) (pss_one (ps_ret (pv 2)))))
        pss_nil)
      (pss_cons (ps_asg (pe_op op_add (pe_ix ix_list (pv 0) pe_int (fun _ _ => rfl)) pe_int) (pg_sub (pv 0) pe_int set_list))
      (pss_cons (ps_set (i := 3) scRoll.nd rfl (.inl rfl) (pe_op op_modN (pe_callTy call_int1 (by rfl) B.int PyProof.Rows.boot_int (pa_cons (pe_op op_add (pe_ix ix_list (pv 0) pe_int (fun _ _ => rfl)) (pe_op op_mul pe_int (pe_ix ix_list (pv 0) pe_int (fun _ _ => rfl)))) pa_nil)) pe_int))
      (pss_cons (ps_set (i := 4) scRoll.nd rfl (.inl rfl) (pe_op op_add (pe_op op_mul (pe_op op_modN (pe_callTy call_int1 (by rfl) B.int PyProof.Rows.boot_int (pa_cons (pe_op op_add (pe_op op_mul (pv 3) (pv 3)) (pe_op op_mul pe_int (pe_ix ix_list (pv 0) pe_int (fun _ _ => rfl)))) pa_nil)) pe_int) pe_int) (pv 3)))
      (pss_one (ps_ret (pe_op op_modN (pe_callTy call_int1 (by rfl) B.int PyProof.Rows.boot_int (pa_cons (pe_op op_fdivN (pv 4) pe_int) pa_nil)) (pv 1))))))), ?_⟩
    refine ⟨_, rfl, p, _, 0, _, rfl, rfl, SqL.of hp, rfl, _, _, rfl, rfl, _, rfl, ?_⟩
    refine ite2 (fun _ => ?_) (fun _ => ?_)
    · refine ⟨_, rfl, p, _, 0, _, rfl, rfl, SqL.of hp, rfl, .inl ⟨_, rfl, _, rfl, _, _, rfl, rfl, by show t ≠ 0; omega, ?_⟩⟩
      refine ⟨_, rfl, p, _, 0, _, rfl, rfl, SqL.of hp, rfl, _, rfl, _, _, rfl, rfl, wide_div t0 (b := 200) (by omega) (by decide) (by decide), ?_⟩
      refine ⟨_, rfl, p, _, 0, 0, rfl, rfl, hp, rfl, ?_⟩
      exact ⟨_, rfl, k _ _ _ (mod_lo t0) (mod_hi t0)⟩
    · refine ⟨_, rfl, p, _, 2, _, rfl, rfl, SqL.of hp, rfl, _, _, rfl, rfl, _, rfl, p, _, 2, 2, rfl, rfl, hp, rfl, ?_⟩
      have hp1 : upd H p (.lst [.int a, .int b, .int (c + 1)]) p = some (.lst [.int a, .int b, .int (c + 1)]) := upd_same
      refine ⟨_, rfl, p, _, 1, _, rfl, rfl, SqL.of hp1, rfl, _, rfl, p, _, 2, _, rfl, rfl, SqL.of hp1, rfl, _, _, rfl, rfl, .inl (by decide), _, _, rfl, rfl, .inl ⟨_, rfl, _, _, rfl, rfl, (by show (_ : Int) ≠ 0; exact (by decide : (2305843009213693613 : Int) ≠ 0)), ?_⟩⟩
      have l0 : 0 ≤ (b + 86028157 * (c + 1)).fmod 2305843009213693613 := mod_lo (by decide)
      have l1 : (b + 86028157 * (c + 1)).fmod 2305843009213693613 < 2305843009213693613 := mod_hi (by decide)
      refine ⟨_, rfl, _, rfl, _, _, rfl, rfl, .inl ⟨by omega, by omega⟩, _, rfl, p, _, 2, _, rfl, rfl, SqL.of hp1, rfl, _, _, rfl, rfl, .inl (by decide), _, _, rfl, rfl, .inl ⟨_, rfl, _, _, rfl, rfl, (by show (_ : Int) ≠ 0; exact (by decide : (2305843009213693669 : Int) ≠ 0)), ?_⟩⟩
      have m0 := mod_lo (i := (b + 86028157 * (c + 1)).fmod 2305843009213693613 * (b + 86028157 * (c + 1)).fmod 2305843009213693613 + 97 * (c + 1)) (j := 2305843009213693669) (by decide)
      have m1 := mod_hi (i := (b + 86028157 * (c + 1)).fmod 2305843009213693613 * (b + 86028157 * (c + 1)).fmod 2305843009213693613 + 97 * (c + 1)) (j := 2305843009213693669) (by decide)
      refine ⟨_, _, rfl, rfl, .inl ⟨by omega, by omega⟩, _, rfl, _, _, rfl, rfl, ?_⟩
      refine ⟨_, rfl, _, _, rfl, rfl, ⟨by decide, by decide⟩, .inl ⟨_, rfl, _, rfl, _, _, rfl, rfl, by show t ≠ 0; omega, k _ _ _ (mod_lo t0) (mod_hi t0)⟩⟩
/-! ### pick -/
def spPick (K : PySem.W.Frag) : Sp := fun vs H Q _ => ∃ (p q : Addr) (a b c : Int) (xs : List V), vs = [.ref p, .ref q] ∧ H p = some (.lst [.int a, .int b, .int c]) ∧
  SqL K H q xs ∧ q ≠ p ∧ 0 < xs.length ∧ xs.length < 1000 ∧ ∀ (i : Nat) (x : V) (a' c' : Int), xs[i]? = some x → Q x (upd H p (.lst [.int a', .int b, .int c']))
abbrev sPick : Stmt := top 41
theorem scPick : FnScope ["_law_dice_here", "_law_items"] ["_law_dice_here", "_law_items"] (defScope sPick) :=
  ⟨rfl, rfl, rfl, by decide +kernel, rfl, by decide +kernel, by decide +kernel⟩
theorem ok_pick {f fR : Addr} {fd fdR : FuncData} (F : Fun K "_law_pick" "_law_pick" sPick f fd) (B : Bl mg) (mR : mg "_law_roll" = some (.ref fR))
    (kR : PySem.W.keepIn K (.ref fR) = true) (bR : Binds K fdR ["_law_dice_here", "_law_total"] [])
    (GR : FnOk P w K mg base CX0 1 fR fdR ["_law_dice_here", "_law_total"] spRoll) :
    FnOk P w K mg base CX0 2 f fd ["_law_dice_here", "_law_items"] (spPick K) := by
  refine F.ok scPick (fun vs H Q E h => ?_) (fun cdv A outer s H vs Q E hr h => ?_)
  · obtain ⟨p, q, a, b, c, xs, rfl, _⟩ := h
    rfl
  · obtain ⟨p, q, a, b, c, xs, rfl, hp, hq, ne, x0, x1, k⟩ := h
    refine ⟨_, pss_one (ps_ret (pe_ix ix_list (pv 1) (pe_call GR hr rfl mR kR bR .nil pass0 (pa_cons (pv 0) (pa_cons (pe_callB call_len_seq (by rfl) B.len PySem.boot_len (pa_cons (pv 1) pa_nil)) pa_nil))) (fun _ _ => rfl))), ?_⟩
    refine ⟨_, rfl, _, rfl, _, rfl, q, _, rfl, .inl hq, p, a, b, c, _, rfl, hp, by omega, by omega, fun r a' c' r0 r1 => ?_⟩
    obtain ⟨n, rfl⟩ : ∃ n : Nat, r = (n : Int) := ⟨r.toNat, by omega⟩
    have hn : n < xs.length := by omega
    have hq' : SqL K (upd H p (.lst [.int a', .int b, .int c'])) q xs := sqL_upd ne hq
    exact ⟨q, _, _, _, rfl, rfl, hq', atI_nat (List.getElem?_eq_getElem hn), k n _ a' c' (List.getElem?_eq_getElem hn)⟩
end
end Lk

set_option linter.all false
set_option maxRecDepth 100000
set_option maxHeartbeats 4000000
set_option exponentiation.threshold 10000
namespace C68
/-! the part of e that powers of m make -/
def pt : Nat → Nat → Nat → Nat
  | 0, _, _ => 1
  | f + 1, m, e => if Nat.gcd e m ≤ 1 then 1 else Nat.gcd e m * pt f m (e / Nat.gcd e m)
/-- x - y divided by a multiple M of m: x ^ e - y ^ e divided by M * k -/
def Ok (m e k : Nat) : Prop := ∀ (M x y : Int), (m : Int) ∣ M → M ∣ x - y → M * k ∣ x ^ e - y ^ e
theorem ok_one (m : Nat) : Ok m 1 1 := fun M x y _ h => by rw [Int.pow_one, Int.pow_one]; simpa using h
theorem sub_dvd_pow (x y : Int) : ∀ e : Nat, x - y ∣ x ^ e - y ^ e
  | 0 => by simp
  | e + 1 => by
    obtain ⟨c, hc⟩ := sub_dvd_pow x y e
    refine ⟨x ^ e + y * c, ?_⟩
    have : x ^ (e + 1) - y ^ (e + 1) = (x - y) * x ^ e + y * (x ^ e - y ^ e) := by
      rw [Int.pow_succ, Int.pow_succ]; grind
    rw [this, hc]
    grind
theorem ok_mul {m e k : Nat} (h : Ok m e k) (u : Nat) : Ok m (e * u) k := fun M x y hm hd => by
  have := h M x y hm hd
  rw [Int.pow_mul, Int.pow_mul]
  exact Int.dvd_trans this (sub_dvd_pow _ _ u)
/-- sum of x ^ i * y ^ (g - 1 - i) -/
def sm (x y : Int) : Nat → Int
  | 0 => 0
  | g + 1 => x * sm x y g + y ^ g
theorem sm_eq (x y : Int) : ∀ g, (x - y) * sm x y g = x ^ g - y ^ g
  | 0 => by simp [sm]
  | g + 1 => by
    have ih := sm_eq x y g
    unfold sm
    rw [Int.pow_succ, Int.pow_succ]
    grind
theorem sm_mod (x y d : Int) (h : d ∣ x - y) : ∀ g : Nat, d ∣ sm x y (g + 1) - ((g + 1 : Nat) : Int) * y ^ g
  | 0 => by simp [sm]
  | g + 1 => by
    obtain ⟨c, hc⟩ := sm_mod x y d h g
    obtain ⟨b, hb⟩ := h
    refine ⟨x * c + b * ((g + 1 : Nat) : Int) * y ^ g, ?_⟩
    have e : sm x y (g + 1 + 1) = x * sm x y (g + 1) + y ^ (g + 1) := rfl
    have e2 : sm x y (g + 1) = ((g + 1 : Nat) : Int) * y ^ g + d * c := by omega
    rw [e, e2]
    have e3 : x = y + d * b := by omega
    have e4 : ((g + 1 + 1 : Nat) : Int) = ((g + 1 : Nat) : Int) + 1 := by omega
    rw [e4, Int.pow_succ]
    generalize ((g + 1 : Nat) : Int) = G
    rw [e3]
    grind
theorem ok_step {m e k : Nat} (h : Ok m e k) {g : Nat} (hg : g ∣ m) : Ok m (e * g) (k * g) := fun M x y hm hd => by
  have h1 := h M x y hm hd
  rw [Int.pow_mul, Int.pow_mul]
  generalize x ^ e = X at *
  generalize y ^ e = Y at *
  rw [← sm_eq]
  have gM : (g : Int) ∣ M * k := Int.dvd_trans (Int.dvd_trans (Int.natCast_dvd_natCast.mpr hg) hm) (Int.dvd_mul_right M k)
  have gs : (g : Int) ∣ sm X Y g := by
    cases g with
    | zero => exact Int.dvd_refl 0
    | succ g =>
      have z := sm_mod X Y ((g + 1 : Nat) : Int) (Int.dvd_trans gM h1) g
      have z2 : ((g + 1 : Nat) : Int) ∣ ((g + 1 : Nat) : Int) * Y ^ g := Int.dvd_mul_right _ _
      have := Int.dvd_add z z2
      rwa [Int.sub_add_cancel] at this
  have : M * ((k * g : Nat) : Int) = M * k * g := by rw [Int.natCast_mul, Int.mul_assoc]
  rw [this]
  exact Int.mul_dvd_mul h1 gs
theorem ok_pt (m : Nat) : ∀ (f e : Nat), 0 < e → Ok m e (pt f m e)
  | 0, e, _ => by
    have := ok_mul (ok_one m) e
    rwa [Nat.one_mul] at this
  | f + 1, e, he => by
    unfold pt
    split
    · have := ok_mul (ok_one m) e
      rwa [Nat.one_mul] at this
    · rename_i h
      have hd := Nat.gcd_dvd_left e m
      have hm := Nat.gcd_dvd_right e m
      generalize Nat.gcd e m = g at *
      have g0 : 0 < g := by omega
      obtain ⟨q, rfl⟩ := hd
      rw [Nat.mul_div_cancel_left q g0]
      have q0 : 0 < q := Nat.pos_of_ne_zero (fun z => by subst z; simp at he)
      have := ok_step (ok_pt m f q q0) hm
      rw [Nat.mul_comm q g, Nat.mul_comm (pt f m q) g] at this
      exact this
abbrev P (m n : Nat) : Nat := pt 5 m n
/-! sums -/
def S : Nat → (Nat → Int) → Int
  | 0, _ => 0
  | n + 1, f => S n f + f (n + 1)
theorem S_congr {n : Nat} {f g : Nat → Int} (h : ∀ d, 1 ≤ d → d ≤ n → f d = g d) : S n f = S n g := by
  induction n with
  | zero => rfl
  | succ n ih => unfold S; rw [ih (fun d a b => h d a (by omega)), h (n + 1) (by omega) (by omega)]
theorem S_sub (n : Nat) (f g : Nat → Int) : S n f - S n g = S n fun d => f d - g d := by
  induction n with
  | zero => rfl
  | succ n ih =>
    show S n f + f (n + 1) - (S n g + g (n + 1)) = (S n fun d => f d - g d) + (f (n + 1) - g (n + 1))
    rw [← ih]; omega
theorem S_dvd {n : Nat} {f : Nat → Int} {m : Int} (h : ∀ d, 1 ≤ d → d ≤ n → m ∣ f d) : m ∣ S n f := by
  induction n with
  | zero => exact Int.dvd_zero m
  | succ n ih => unfold S; exact Int.dvd_add (ih (fun d a b => h d a (by omega))) (h (n + 1) (by omega) (by omega))
theorem S_zero {n : Nat} {f : Nat → Int} (h : ∀ d, 1 ≤ d → d ≤ n → f d = 0) : S n f = 0 := by
  induction n with
  | zero => rfl
  | succ n ih => unfold S; rw [ih (fun d a b => h d a (by omega)), h (n + 1) (by omega) (by omega)]; rfl
theorem S_mul (n : Nat) (k : Int) (f : Nat → Int) : k * S n f = S n fun d => k * f d := by
  induction n with
  | zero => simp [S]
  | succ n ih => unfold S; rw [← ih]; grind
/-- the sum to more, the rest 0 -/
theorem S_more {n m : Nat} {f : Nat → Int} (h : n ≤ m) (z : ∀ d, n < d → f d = 0) : S m f = S n f := by
  induction m with
  | zero => have : n = 0 := by omega
            rw [this]
  | succ m ih =>
    rcases Nat.lt_succ_iff_lt_or_eq.mp (Nat.lt_succ_of_le h) with q | q
    · show S m f + f (m + 1) = S n f
      rw [ih (by omega), z (m + 1) (by omega)]; omega
    · rw [q]
/-! ghosts -/
def tm (c : Nat → Int) (n d : Nat) : Int := if n % d = 0 then (d : Int) * c d ^ (n / d) else 0
/-- the ghost at n, n at most 24 -/
def gh (c : Nat → Int) (n : Nat) : Int := S 24 (tm c n)
theorem tm_big {c : Nat → Int} {n d : Nat} (n0 : 0 < n) (h : n < d) : tm c n d = 0 := by
  unfold tm; rw [if_neg (by rw [Nat.mod_eq_of_lt h]; omega)]
theorem gh_n {c : Nat → Int} {n : Nat} (n0 : 0 < n) (h : n ≤ 24) : gh c n = S n (tm c n) := S_more h fun d hd => tm_big n0 hd
theorem gh_congr {c e : Nat → Int} {n : Nat} (n0 : 0 < n) (h : n ≤ 24) (k : ∀ d, 1 ≤ d → d ≤ n → c d = e d) : gh c n = gh e n := by
  rw [gh_n n0 h, gh_n n0 h]
  exact S_congr fun d a b => by unfold tm; rw [k d a b]
/-- all but the last -/
def kn (c : Nat → Int) (n : Nat) : Int := S (n - 1) (tm c n)
theorem gh_last {c : Nat → Int} {n : Nat} (n0 : 0 < n) (h : n ≤ 24) : gh c n = kn c n + n * c n := by
  rw [gh_n n0 h]
  obtain ⟨k, rfl⟩ : ∃ k, n = k + 1 := ⟨n - 1, by omega⟩
  show S k (tm c (k + 1)) + tm c (k + 1) (k + 1) = S k (tm c (k + 1)) + _
  unfold tm
  rw [Nat.mod_self, if_pos rfl, Nat.div_self n0, Int.pow_succ, Int.pow_zero, Int.one_mul]
/-- two tuples of coordinates with one tuple of ghosts are one -/
theorem gh_inj {c e : Nat → Int} {N : Nat} (hN : N ≤ 24) (h : ∀ n, 1 ≤ n → n ≤ N → gh c n = gh e n) : ∀ n, 1 ≤ n → n ≤ N → c n = e n := by
  intro n
  induction n using Nat.strongRecOn with
  | ind n ih =>
    intro n1 nN
    have z := h n n1 nN
    rw [gh_last n1 (by omega), gh_last n1 (by omega)] at z
    have k : kn c n = kn e n := S_congr fun d a b => by unfold tm; rw [ih d (by omega) a (by omega)]
    rw [k] at z
    have : (n : Int) * c n = n * e n := by omega
    exact Int.eq_of_mul_eq_mul_left (by omega) this
/-! what is divided -/
def ch : Nat → (Nat → Bool) → Bool
  | 0, _ => true
  | n + 1, f => ch n f && f (n + 1)
theorem ch_at {n : Nat} {f : Nat → Bool} (h : ch n f = true) {d : Nat} (a : 1 ≤ d) (b : d ≤ n) : f d = true := by
  induction n with
  | zero => omega
  | succ n ih =>
    unfold ch at h
    rw [Bool.and_eq_true] at h
    rcases Nat.lt_succ_iff_lt_or_eq.mp (Nat.lt_succ_of_le b) with q | q
    · exact ih h.1 (by omega)
    · rw [q]; exact h.2
/-- the part of n divides d times that of n / d -/
def cB (m : Nat) : Bool := ch 12 fun n => ch n fun d => n % d != 0 || (d * P m (n / d)) % P m n == 0
/-- n over its part has no common divisor with m -/
def cC (m : Nat) : Bool := ch 12 fun n => n % P m n == 0 && Nat.gcd (n / P m n) m == 1 && decide (0 < P m n)
theorem same_ghosts {m : Nat} (hB : cB m = true) {c e : Nat → Int} {n : Nat} (n1 : 1 ≤ n) (n12 : n ≤ 12) (h : ∀ d, 1 ≤ d → d ≤ n → (m : Int) ∣ c d - e d) : ((m * P m n : Nat) : Int) ∣ gh c n - gh e n := by
  rw [gh_n n1 (by omega), gh_n n1 (by omega), S_sub]
  refine S_dvd fun d d1 dn => ?_
  unfold tm
  by_cases z : n % d = 0
  · rw [if_pos z, if_pos z, ← Int.mul_sub]
    have b := ch_at (ch_at hB n1 n12) d1 dn
    rw [Bool.or_eq_true] at b
    have b : (d * P m (n / d)) % P m n = 0 := by
      rcases b with b | b
      · exact absurd z (by simpa using b)
      · simpa using b
    have q0 : 0 < n / d := Nat.div_pos dn d1
    have o := ok_pt m 5 (n / d) q0 m (c d) (e d) (Int.dvd_refl _) (h d d1 dn)
    have o2 : (d : Int) * ((m : Int) * (P m (n / d) : Nat)) ∣ (d : Int) * (c d ^ (n / d) - e d ^ (n / d)) := Int.mul_dvd_mul (Int.dvd_refl _) o
    refine Int.dvd_trans ?_ o2
    have : (d : Int) * ((m : Int) * (P m (n / d) : Nat)) = ((m * (d * P m (n / d)) : Nat) : Int) := by
      rw [Int.natCast_mul, Int.natCast_mul]; grind
    rw [this]
    exact Int.natCast_dvd_natCast.mpr (Nat.mul_dvd_mul (Nat.dvd_refl m) (Nat.dvd_of_mod_eq_zero b))
  · rw [if_neg z, if_neg z]; simp
theorem same_coords {m : Nat} (hB : cB m = true) (hC : cC m = true) {c e : Nat → Int} {N : Nat} (hN : N ≤ 12) (h : ∀ n, 1 ≤ n → n ≤ N → ((m * P m n : Nat) : Int) ∣ gh c n - gh e n) : ∀ n, 1 ≤ n → n ≤ N → (m : Int) ∣ c n - e n := by
  intro n
  induction n using Nat.strongRecOn with
  | ind n ih =>
    intro n1 nN
    -- the same but at n
    have k : ((m * P m n : Nat) : Int) ∣ kn c n - kn e n := by
      have e1 : kn c n = gh (fun d => if d < n then c d else 0) n := by
        rw [gh_last n1 (by omega)]
        have : (if n < n then c n else 0) = 0 := by rw [if_neg (by omega)]
        rw [this, Int.mul_zero, Int.add_zero]
        exact S_congr fun d a b => by unfold tm; simp only [if_pos (show d < n by omega)]
      have e2 : kn e n = gh (fun d => if d < n then e d else 0) n := by
        rw [gh_last n1 (by omega)]
        have : (if n < n then e n else 0) = 0 := by rw [if_neg (by omega)]
        rw [this, Int.mul_zero, Int.add_zero]
        exact S_congr fun d a b => by unfold tm; simp only [if_pos (show d < n by omega)]
      rw [e1, e2]
      refine same_ghosts hB n1 (by omega) fun d a b => ?_
      by_cases q : d < n
      · simp only [if_pos q]; exact ih d q a (by omega)
      · simp only [if_neg q]; simp
    have g := h n n1 nN
    rw [gh_last n1 (by omega), gh_last n1 (by omega)] at g
    have z := Int.dvd_sub g k
    have e0 : kn c n + n * c n - (kn e n + n * e n) - (kn c n - kn e n) = (n : Int) * (c n - e n) := by rw [Int.mul_sub]; omega
    rw [e0] at z
    have cc := ch_at hC n1 (by omega)
    simp only [Bool.and_eq_true, beq_iff_eq, decide_eq_true_eq] at cc
    obtain ⟨⟨c1, c2⟩, c3⟩ := cc
    obtain ⟨u, hu⟩ := Nat.dvd_of_mod_eq_zero c1
    have hu2 : n / P m n = u := Nat.div_eq_of_eq_mul_right c3 hu
    rw [hu2] at c2
    generalize P m n = q at *
    have z2 : (q : Int) * m ∣ (q : Int) * ((u : Int) * (c n - e n)) := by
      have a1 : ((m * q : Nat) : Int) = (q : Int) * m := by rw [Int.natCast_mul, Int.mul_comm]
      have a2 : (n : Int) * (c n - e n) = (q : Int) * ((u : Int) * (c n - e n)) := by
        have : (n : Int) = (q : Int) * u := by rw [← Int.natCast_mul, ← hu]
        rw [this, Int.mul_assoc]
      rw [← a1, ← a2]; exact z
    have z3 := Int.dvd_of_mul_dvd_mul_left (show (q : Int) ≠ 0 by omega) z2
    have z4 : m ∣ u * (c n - e n).natAbs := by
      have := Int.natAbs_dvd_natAbs.mpr z3
      rw [Int.natAbs_mul] at this
      simpa using this
    have z5 : m ∣ (c n - e n).natAbs := Nat.Coprime.dvd_of_dvd_mul_left (show Nat.Coprime m u by rw [Nat.coprime_iff_gcd_eq_one, Nat.gcd_comm]; exact c2) z4
    exact Int.natAbs_dvd_natAbs.mp (by simpa using z5)

/-! Dwork: when whole numbers are ghosts -/
def PR : List Nat := [2, 3, 5, 7, 11]
theorem fermat {p : Nat} (h : p ∈ PR) (x : Int) : (p : Int) ∣ x ^ p - x := by
  have key : ∀ p ∈ PR, 0 < p ∧ (List.range p).all (fun r => decide (((r : Int) ^ p - r) % (p : Nat) = 0)) = true := by decide +kernel
  obtain ⟨p0, k⟩ := key p h
  obtain ⟨r, hr, hx⟩ : ∃ r : Nat, r < p ∧ (p : Int) ∣ x - r := by
    refine ⟨(x % (p : Nat)).toNat, ?_, ?_⟩
    · have := Int.emod_lt_of_pos x (show (0 : Int) < p by omega)
      omega
    · have := Int.emod_nonneg x (show (p : Int) ≠ 0 by omega)
      rw [Int.toNat_of_nonneg this]
      exact ⟨x / (p : Nat), by rw [Int.emod_def]; omega⟩
  have k1 := of_decide_eq_true (List.all_eq_true.mp k r (List.mem_range.mpr hr))
  have d1 := Int.dvd_trans hx (sub_dvd_pow x r p)
  have d2 := Int.dvd_of_emod_eq_zero k1
  have : x ^ p - x = (x ^ p - (r : Int) ^ p) + ((r : Int) ^ p - r) - (x - r) := by omega
  rw [this]
  exact Int.dvd_sub (Int.dvd_add d1 d2) hx
def cE (p : Nat) : Bool := ch 12 fun n => ch n fun d => n % p != 0 || n % d != 0 || (n / p) % d == 0 || d % P p n == 0
theorem pr_checks : ∀ p ∈ PR, cB p = true ∧ cC p = true ∧ cE p = true ∧ 2 ≤ p := by decide +kernel
theorem term_dvd {p : Nat} (hp : p ∈ PR) (c : Nat → Int) {n d : Nat} (n1 : 1 ≤ n) (n12 : n ≤ 12) (d1 : 1 ≤ d) (dn : d ≤ n) (hn : n % p = 0) : ((P p n : Nat) : Int) ∣ tm c n d - tm c (n / p) d := by
  obtain ⟨hB, hC, hE, p2⟩ := pr_checks p hp
  obtain ⟨q, rfl⟩ := Nat.dvd_of_mod_eq_zero hn
  have p0 : 0 < p := by omega
  have q0 : 0 < q := Nat.pos_of_ne_zero (fun z => by subst z; simp at n1)
  rw [Nat.mul_div_cancel_left q p0]
  unfold tm
  by_cases z : q % d = 0
  · obtain ⟨e, rfl⟩ := Nat.dvd_of_mod_eq_zero z
    have e0 : 0 < e := Nat.pos_of_ne_zero (fun z => by subst z; simp at q0)
    have z2 : p * (d * e) % d = 0 := by rw [← Nat.mul_assoc, Nat.mul_comm p d, Nat.mul_assoc]; exact Nat.mul_mod_right _ _
    rw [if_pos z, if_pos z2]
    have e1 : p * (d * e) / d = p * e := by rw [← Nat.mul_assoc, Nat.mul_comm p d, Nat.mul_assoc]; exact Nat.mul_div_cancel_left _ d1
    have e2 : d * e / d = e := Nat.mul_div_cancel_left _ d1
    rw [e1, e2, ← Int.mul_sub, Int.pow_mul]
    have o := ok_pt p 5 e e0 p (c d ^ p) (c d) (Int.dvd_refl _) (fermat hp (c d))
    have o2 : (d : Int) * ((p : Int) * (P p e : Nat)) ∣ (d : Int) * ((c d ^ p) ^ e - c d ^ e) := Int.mul_dvd_mul (Int.dvd_refl _) o
    refine Int.dvd_trans ?_ o2
    have dpn : d * p ≤ p * (d * e) := by rw [← Nat.mul_assoc, Nat.mul_comm p d]; exact Nat.le_mul_of_pos_right _ e0
    have b := ch_at (ch_at hB n1 n12) (show 1 ≤ d * p from Nat.mul_pos d1 p0) dpn
    rw [Bool.or_eq_true] at b
    have e3 : p * (d * e) = (d * p) * e := by rw [← Nat.mul_assoc, Nat.mul_comm p d]
    have b : (d * p * P p (p * (d * e) / (d * p))) % P p (p * (d * e)) = 0 := by
      rcases b with b | b
      · refine absurd ?_ (by simpa using b)
        rw [e3]; exact Nat.mul_mod_right _ _
      · simpa using b
    have e4 : p * (d * e) / (d * p) = e := by rw [e3]; exact Nat.mul_div_cancel_left _ (Nat.mul_pos d1 p0)
    rw [e4] at b
    have : (d : Int) * ((p : Int) * (P p e : Nat)) = ((d * p * P p e : Nat) : Int) := by
      rw [Int.natCast_mul, Int.natCast_mul, Int.mul_assoc]
    rw [this]
    exact Int.natCast_dvd_natCast.mpr (Nat.dvd_of_mod_eq_zero b)
  · rw [if_neg z]
    by_cases y : p * q % d = 0
    · rw [if_pos y]
      have b := ch_at (ch_at hE n1 n12) d1 dn
      simp only [Bool.or_eq_true, bne_iff_ne, ne_eq, beq_iff_eq, Nat.mul_div_cancel_left q p0] at b
      have b : d % P p (p * q) = 0 := by
        rcases b with ((b | b) | b) | b
        · exact absurd hn b
        · exact absurd y b
        · exact absurd b z
        · exact b
      rw [Int.sub_zero]
      exact Int.dvd_trans (Int.natCast_dvd_natCast.mpr (Nat.dvd_of_mod_eq_zero b)) (Int.dvd_mul_right _ _)
    · rw [if_neg y]; simp
def G (N : Nat) (a : Nat → Int) : Prop := ∀ p ∈ PR, ∀ n, 1 ≤ n → n ≤ N → n % p = 0 → ((P p n : Nat) : Int) ∣ a n - a (n / p)
theorem gh_G (c : Nat → Int) {N : Nat} (hN : N ≤ 12) : G N (gh c) := by
  intro p hp n n1 nN hn
  have p2 := (pr_checks p hp).2.2.2
  have q0 : 0 < n / p := Nat.div_pos (Nat.le_of_dvd n1 (Nat.dvd_of_mod_eq_zero hn)) (by omega)
  have qn : n / p ≤ n := Nat.div_le_self n p
  rw [gh_n n1 (by omega), gh_n q0 (by omega), ← S_more qn (fun d hd => tm_big q0 hd), S_sub]
  exact S_dvd fun d a b => term_dvd hp c n1 (by omega) a b hn
theorem G.add {N : Nat} {a b : Nat → Int} (ha : G N a) (hb : G N b) : G N fun n => a n + b n := fun p hp n n1 nN hn => by
  have := Int.dvd_add (ha p hp n n1 nN hn) (hb p hp n n1 nN hn)
  rwa [show a n - a (n / p) + (b n - b (n / p)) = a n + b n - (a (n / p) + b (n / p)) by omega] at this
theorem G.sub {N : Nat} {a b : Nat → Int} (ha : G N a) (hb : G N b) : G N fun n => a n - b n := fun p hp n n1 nN hn => by
  have := Int.dvd_sub (ha p hp n n1 nN hn) (hb p hp n n1 nN hn)
  rwa [show a n - a (n / p) - (b n - b (n / p)) = a n - b n - (a (n / p) - b (n / p)) by omega] at this
theorem G.mul {N : Nat} {a b : Nat → Int} (ha : G N a) (hb : G N b) : G N fun n => a n * b n := fun p hp n n1 nN hn => by
  have := Int.dvd_add (Int.dvd_trans (hb p hp n n1 nN hn) (Int.dvd_mul_left (a n) _)) (Int.dvd_trans (ha p hp n n1 nN hn) (Int.dvd_mul_right _ (b (n / p))))
  rwa [show a n * (b n - b (n / p)) + (a n - a (n / p)) * b (n / p) = a n * b n - a (n / p) * b (n / p) by grind] at this
def cT : Bool := PR.all fun p => ch 12 fun n => ch 12 fun k => decide (12 < k * n) || P p (k * n) % P p n == 0
theorem cT_ok : cT = true := by decide +kernel
theorem G.take {N : Nat} {a : Nat → Int} (hN : N ≤ 12) (ha : G N a) {k : Nat} (k1 : 1 ≤ k) (kN : k ≤ N) : G (N / k) fun n => a (k * n) := fun p hp n n1 nN hn => by
  have kn : k * n ≤ N := Nat.le_trans (Nat.mul_le_mul_left k nN) (Nat.mul_div_le N k)
  have n12 : n ≤ 12 := Nat.le_trans (Nat.le_trans (Nat.le_mul_of_pos_left n k1) kn) hN
  have knm : (k * n) % p = 0 := Nat.mod_eq_zero_of_dvd (Nat.dvd_trans (Nat.dvd_of_mod_eq_zero hn) (Nat.dvd_mul_left n k))
  have h := ha p hp (k * n) (Nat.mul_pos k1 n1) kn knm
  have e : k * n / p = k * (n / p) := Nat.mul_div_assoc k (Nat.dvd_of_mod_eq_zero hn)
  rw [e] at h
  have c := ch_at (ch_at (List.all_eq_true.mp cT_ok p hp) n1 n12) k1 (show k ≤ 12 by omega)
  rw [Bool.or_eq_true] at c
  have c : P p (k * n) % P p n = 0 := by
    rcases c with c | c
    · exact absurd (of_decide_eq_true c) (by omega)
    · simpa using c
  exact Int.dvd_trans (Int.natCast_dvd_natCast.mpr (Nat.dvd_of_mod_eq_zero c)) h
/-- n from its parts at primes -/
theorem from_parts {n : Nat} (n1 : 1 ≤ n) (n12 : n ≤ 12) {x : Int} (h : ∀ p ∈ PR, n % p = 0 → ((P p n : Nat) : Int) ∣ x) : (n : Int) ∣ x := by
  have h2 := h 2 (by decide)
  have h3 := h 3 (by decide)
  have h5 := h 5 (by decide)
  have h7 := h 7 (by decide)
  have h11 := h 11 (by decide)
  have c : n = 1 ∨ n = 2 ∨ n = 3 ∨ n = 4 ∨ n = 5 ∨ n = 6 ∨ n = 7 ∨ n = 8 ∨ n = 9 ∨ n = 10 ∨ n = 11 ∨ n = 12 := by omega
  rcases c with rfl | rfl | rfl | rfl | rfl | rfl | rfl | rfl | rfl | rfl | rfl | rfl
  · exact Int.one_dvd x
  · exact h2 (by decide)
  · exact h3 (by decide)
  · exact h2 (by decide)
  · exact h5 (by decide)
  · have a : ((2 : Nat) : Int) ∣ x := h2 (by decide)
    have b : ((3 : Nat) : Int) ∣ x := h3 (by decide)
    omega
  · exact h7 (by decide)
  · exact h2 (by decide)
  · exact h3 (by decide)
  · have a : ((2 : Nat) : Int) ∣ x := h2 (by decide)
    have b : ((5 : Nat) : Int) ∣ x := h5 (by decide)
    omega
  · exact h11 (by decide)
  · have a : ((4 : Nat) : Int) ∣ x := h2 (by decide)
    have b : ((3 : Nat) : Int) ∣ x := h3 (by decide)
    omega
theorem kn_dvd {N : Nat} (hN : N ≤ 12) {a c : Nat → Int} (ha : G N a) {n : Nat} (n1 : 1 ≤ n) (nN : n ≤ N) (h : ∀ k, 1 ≤ k → k < n → gh c k = a k) : (n : Int) ∣ a n - kn c n := by
  refine from_parts n1 (by omega) fun p hp hn => ?_
  have p2 := (pr_checks p hp).2.2.2
  have q0 : 0 < n / p := Nat.div_pos (Nat.le_of_dvd n1 (Nat.dvd_of_mod_eq_zero hn)) (by omega)
  have qn : n / p < n := Nat.div_lt_self n1 (by omega)
  have h1 := ha p hp n n1 nN hn
  have e1 : a (n / p) = S (n - 1) (tm c (n / p)) := by
    rw [← h (n / p) q0 qn, gh_n q0 (by omega)]
    exact (S_more (by omega) (fun d hd => tm_big q0 hd)).symm
  have h2 : ((P p n : Nat) : Int) ∣ kn c n - a (n / p) := by
    rw [e1]
    unfold kn
    rw [S_sub]
    exact S_dvd fun d d1 dn => term_dvd hp c n1 (by omega) d1 (by omega) hn
  have := Int.dvd_sub h1 h2
  rwa [show a n - a (n / p) - (kn c n - a (n / p)) = a n - kn c n by omega] at this
theorem dwork {N : Nat} (hN : N ≤ 12) {a : Nat → Int} (ha : G N a) : ∃ c : Nat → Int, ∀ n, 1 ≤ n → n ≤ N → gh c n = a n := by
  have step : ∀ M, M ≤ N → ∃ c : Nat → Int, ∀ n, 1 ≤ n → n ≤ M → gh c n = a n := by
    intro M
    induction M with
    | zero => exact fun _ => ⟨fun _ => 0, fun n a b => by omega⟩
    | succ M ih =>
      intro hM
      obtain ⟨c, hc⟩ := ih (by omega)
      obtain ⟨z, hz⟩ := kn_dvd hN ha (n := M + 1) (by omega) hM (fun k a b => hc k a (by omega))
      refine ⟨fun d => if d = M + 1 then z else c d, fun n n1 nM => ?_⟩
      rcases Nat.lt_succ_iff_lt_or_eq.mp (Nat.lt_succ_of_le nM) with q | q
      · rw [← hc n n1 (by omega)]
        exact gh_congr n1 (by omega) fun d a b => by rw [if_neg (by omega)]
      · subst q
        rw [gh_last (by omega) (by omega)]
        have e : kn (fun d => if d = M + 1 then z else c d) (M + 1) = kn c (M + 1) := S_congr fun d a b => by unfold tm; simp only [if_neg (show ¬ d = M + 1 by omega)]
        rw [e]
        simp only [if_pos]
        omega
  exact step N (Nat.le_refl N)
/-! what is taken by a prime; a multiple by a prime -/
theorem taken_frob {p : Nat} (hp : p ∈ PR) {c : Nat → Int} {n : Nat} (n1 : 1 ≤ n) (h12 : p * n ≤ 12) : ((p * P p n : Nat) : Int) ∣ gh c (p * n) - gh (fun d => c d ^ p) n := by
  have p2 := (pr_checks p hp).2.2.2
  have pn1 : 1 ≤ p * n := Nat.mul_pos (by omega) n1
  have npn : n ≤ p * n := Nat.le_mul_of_pos_left n (by omega)
  have key : PR.all (fun p => ch 12 fun n => decide (12 < p * n) || ch (p * n) fun d => (p * n) % d != 0 || n % d == 0 || d % (p * P p n) == 0) = true := by decide +kernel
  have k := ch_at (List.all_eq_true.mp key p hp) n1 (show n ≤ 12 by omega)
  rw [Bool.or_eq_true] at k
  have k := k.resolve_left (fun z => absurd (of_decide_eq_true z) (by omega))
  rw [gh_n pn1 (by omega), gh_n n1 (by omega), ← S_more npn (fun d hd => tm_big n1 hd), S_sub]
  refine S_dvd fun d d1 dn => ?_
  have kd := ch_at k d1 dn
  simp only [Bool.or_eq_true, bne_iff_ne, ne_eq, beq_iff_eq] at kd
  unfold tm
  by_cases z : n % d = 0
  · obtain ⟨e, rfl⟩ := Nat.dvd_of_mod_eq_zero z
    have z2 : p * (d * e) % d = 0 := by rw [← Nat.mul_assoc, Nat.mul_comm p d, Nat.mul_assoc]; exact Nat.mul_mod_right _ _
    rw [if_pos z, if_pos z2]
    have e1 : p * (d * e) / d = p * e := by rw [← Nat.mul_assoc, Nat.mul_comm p d, Nat.mul_assoc]; exact Nat.mul_div_cancel_left _ d1
    have e2 : d * e / d = e := Nat.mul_div_cancel_left _ d1
    rw [e1, e2, Int.pow_mul, Int.sub_self]
    exact Int.dvd_zero _
  · rw [if_neg z, Int.sub_zero]
    by_cases y : p * n % d = 0
    · rw [if_pos y]
      have b : d % (p * P p n) = 0 := by
        rcases kd with (b | b) | b
        · exact absurd y b
        · exact absurd b z
        · exact b
      exact Int.dvd_trans (Int.natCast_dvd_natCast.mpr (Nat.dvd_of_mod_eq_zero b)) (Int.dvd_mul_right _ _)
    · rw [if_neg y]; exact Int.dvd_zero _
/-- moved by p, with p-th powers -/
def mv (p : Nat) (c : Nat → Int) (n : Nat) : Int := if n % p = 0 then c (n / p) ^ p else 0
theorem times_moved {p : Nat} (hp : p ∈ PR) {c : Nat → Int} {n : Nat} (n1 : 1 ≤ n) (n12 : n ≤ 12) : ((p * P p n : Nat) : Int) ∣ p * gh c n - gh (mv p c) n := by
  have p2 := (pr_checks p hp).2.2.2
  have hE := (pr_checks p hp).2.2.1
  have p0 : 0 < p := by omega
  rw [Int.natCast_mul]
  by_cases hn : n % p = 0
  · obtain ⟨q, rfl⟩ := Nat.dvd_of_mod_eq_zero hn
    have q0 : 0 < q := Nat.pos_of_ne_zero (fun z => by subst z; simp at n1)
    -- the moved one's ghost at p q is p times the sum over d of q
    have e1 : gh (mv p c) (p * q) = (p : Int) * S (p * q) (fun d => if q % d = 0 then (d : Int) * c d ^ (p * q / d) else 0) := by
      have : ∀ m, gh (mv p c) (p * q) = S (p * m) (tm (mv p c) (p * q)) → True := fun _ _ => trivial
      rw [gh_n n1 (by omega)]
      -- sum over multiples of p
      have mult : ∀ (m : Nat) (f g : Nat → Int), (∀ k, f (p * k) = g k) → (∀ d, d % p ≠ 0 → f d = 0) → S (p * m) f = S m g := by
        intro m f g hf hz
        induction m with
        | zero => rfl
        | succ m ih =>
          have blk : ∀ j, j < p → S (p * m + j) f = S (p * m) f := by
            intro j hj
            induction j with
            | zero => rfl
            | succ j ihj =>
              show S (p * m + j) f + f (p * m + j + 1) = _
              rw [ihj (by omega), hz (p * m + j + 1) (by
                rw [Nat.add_assoc, Nat.mul_add_mod, Nat.mod_eq_of_lt hj]; omega)]
              omega
          obtain ⟨r, hr⟩ : ∃ r, p = r + 1 := ⟨p - 1, by omega⟩
          have e : p * (m + 1) = p * m + r + 1 := by rw [Nat.mul_succ]; omega
          rw [e]
          show S (p * m + r) f + f (p * m + r + 1) = S m g + g (m + 1)
          rw [blk r (by omega), ih, ← e, hf]
      have e2 : S (p * q) (tm (mv p c) (p * q)) = S q (fun d => (p : Int) * (if q % d = 0 then (d : Int) * c d ^ (p * q / d) else 0)) := by
        refine mult q _ _ (fun k => ?_) (fun d hd => ?_)
        · unfold tm mv
          by_cases k0 : k = 0
          · subst k0; simp
          · have kp : 0 < k := by omega
            by_cases z : q % k = 0
            · obtain ⟨e, rfl⟩ := Nat.dvd_of_mod_eq_zero z
              rw [if_pos z]
              have z2 : p * (k * e) % (p * k) = 0 := by rw [← Nat.mul_assoc]; exact Nat.mul_mod_right _ _
              rw [if_pos z2, if_pos (Nat.mul_mod_right p k), Nat.mul_div_cancel_left k p0]
              have e3 : p * (k * e) / (p * k) = e := by rw [← Nat.mul_assoc]; exact Nat.mul_div_cancel_left _ (Nat.mul_pos p0 kp)
              have e4 : p * (k * e) / k = p * e := by rw [← Nat.mul_assoc, Nat.mul_comm p k, Nat.mul_assoc]; exact Nat.mul_div_cancel_left _ kp
              rw [e3, e4, ← Int.pow_mul, Int.natCast_mul, Int.mul_assoc]
            · rw [if_neg z, if_neg, Int.mul_zero]
              intro y
              apply z
              rw [Nat.mul_mod_mul_left] at y
              exact (Nat.mul_eq_zero.mp y).resolve_left (by omega)
        · unfold tm mv
          split
          · rename_i hdv
            try rw [if_neg hd]
            have dl : d ≤ p * q := Nat.le_of_dvd n1 (Nat.dvd_of_mod_eq_zero hdv)
            have d0 : 0 < d := Nat.pos_of_ne_zero (fun z => by subst z; simp at hd)
            have : 0 < p * q / d := Nat.div_pos dl d0
            rw [Int.zero_pow (by omega), Int.mul_zero]
          · rfl
      rw [e2, ← S_mul]
      congr 1
      exact (S_more (Nat.le_mul_of_pos_left q p0) fun d hd => by rw [if_neg (by rw [Nat.mod_eq_of_lt hd]; omega)]).symm
    rw [e1, ← Int.mul_sub, gh_n n1 (by omega), S_sub]
    refine Int.mul_dvd_mul (Int.dvd_refl _) (S_dvd fun d d1 dn => ?_)
    unfold tm
    by_cases z : q % d = 0
    · obtain ⟨e, rfl⟩ := Nat.dvd_of_mod_eq_zero z
      have z2 : p * (d * e) % d = 0 := by rw [← Nat.mul_assoc, Nat.mul_comm p d, Nat.mul_assoc]; exact Nat.mul_mod_right _ _
      rw [if_pos z, if_pos z2, Int.sub_self]
      exact Int.dvd_zero _
    · rw [if_neg z, Int.sub_zero]
      by_cases y : p * q % d = 0
      · rw [if_pos y]
        have b := ch_at (ch_at hE n1 n12) d1 dn
        simp only [Bool.or_eq_true, bne_iff_ne, ne_eq, beq_iff_eq, Nat.mul_div_cancel_left q p0] at b
        have b : d % P p (p * q) = 0 := by
          rcases b with ((b | b) | b) | b
          · exact absurd hn b
          · exact absurd y b
          · exact absurd b z
          · exact b
        exact Int.dvd_trans (Int.natCast_dvd_natCast.mpr (Nat.dvd_of_mod_eq_zero b)) (Int.dvd_mul_right _ _)
      · rw [if_neg y]; exact Int.dvd_zero _
  · have e1 : gh (mv p c) n = 0 := by
      rw [gh_n n1 (by omega)]
      refine S_zero fun d d1 dn => ?_
      unfold tm mv
      split
      · rename_i hdv
        have hdp : ¬ d % p = 0 := fun z => hn (Nat.mod_eq_zero_of_dvd (Nat.dvd_trans (Nat.dvd_of_mod_eq_zero z) (Nat.dvd_of_mod_eq_zero hdv)))
        rw [if_neg hdp]
        have : 0 < n / d := Nat.div_pos dn d1
        rw [Int.zero_pow (by omega), Int.mul_zero]
      · rfl
    rw [e1, Int.sub_zero]
    have key : PR.all (fun p => ch 12 fun n => n % p == 0 || P p n == 1) = true := by decide +kernel
    have k := ch_at (List.all_eq_true.mp key p hp) n1 n12
    simp only [Bool.or_eq_true, beq_iff_eq] at k
    rw [k.resolve_left hn]
    show (p : Int) * 1 ∣ _
    rw [Int.mul_one]
    exact Int.dvd_mul_right _ _
/-! sizes -/
def Sz (n : Nat) : Nat := 600 * n - 50
theorem size_step {c : Nat → Int} {n : Nat} {A : Int} (n1 : 1 ≤ n) (n12 : n ≤ 12) (ha : A.natAbs < 2 ^ 500) (h : ∀ d, 1 ≤ d → d < n → (c d).natAbs < 2 ^ Sz d) (e : (n : Int) * c n = A - kn c n) : (c n).natAbs < 2 ^ Sz n := by
  have tb : ∀ d, 1 ≤ d → d < n → (tm c n d).natAbs ≤ 12 * 2 ^ (600 * n - 100) := by
    intro d d1 dn
    unfold tm
    by_cases z : n % d = 0
    · rw [if_pos z]
      obtain ⟨q, rfl⟩ := Nat.dvd_of_mod_eq_zero z
      rw [Nat.mul_div_cancel_left q d1, Int.natAbs_mul, Int.natAbs_pow, Int.natAbs_natCast]
      have q2 : 2 ≤ q := by
        rcases Nat.lt_or_ge q 2 with l | l
        · have : q = 0 ∨ q = 1 := by omega
          rcases this with rfl | rfl <;> omega
        · exact l
      have b1 : (c d).natAbs ^ q ≤ (2 ^ Sz d) ^ q := Nat.pow_le_pow_left (Nat.le_of_lt (h d d1 dn)) q
      have b2 : (2 ^ Sz d) ^ q ≤ 2 ^ (600 * (d * q) - 100) := by
        rw [← Nat.pow_mul]
        apply Nat.pow_le_pow_right (by decide)
        unfold Sz
        rw [Nat.sub_mul]
        have : 600 * d * q = 600 * (d * q) := Nat.mul_assoc _ _ _
        rw [this]
        have : 100 ≤ 50 * q := by omega
        omega
      exact Nat.mul_le_mul (by omega) (Nat.le_trans b1 b2)
    · rw [if_neg z]; simp
  have sb : ∀ m, m < n → (S m (tm c n)).natAbs ≤ m * (12 * 2 ^ (600 * n - 100)) := by
    intro m
    induction m with
    | zero => intro _; simp [S]
    | succ m ih =>
      intro hm
      show (S m (tm c n) + tm c n (m + 1)).natAbs ≤ _
      have a1 := ih (by omega)
      have a2 := tb (m + 1) (by omega) hm
      rw [Nat.succ_mul]
      omega
  have kb : (kn c n).natAbs ≤ 11 * (12 * 2 ^ (600 * n - 100)) := Nat.le_trans (sb (n - 1) (by omega)) (Nat.mul_le_mul_right _ (by omega))
  have p1 : 2 ^ 500 ≤ 2 ^ (600 * n - 100) := Nat.pow_le_pow_right (by decide) (by omega)
  have p2 : 2 ^ (600 * n - 50) = 2 ^ (600 * n - 100) * 2 ^ 50 := by rw [← Nat.pow_add]; congr 1; omega
  have nb : (c n).natAbs ≤ ((n : Int) * c n).natAbs := by
    rw [Int.natAbs_mul, Int.natAbs_natCast]
    exact Nat.le_mul_of_pos_left _ n1
  rw [e] at nb
  unfold Sz
  rw [p2]
  have q : (2 : Nat) ^ 50 = 1125899906842624 := by decide
  rw [q]
  generalize 2 ^ (600 * n - 100) = T at *
  generalize 2 ^ 500 = U at *
  omega
theorem sizes {N : Nat} (hN : N ≤ 12) {c a : Nat → Int} (h : ∀ n, 1 ≤ n → n ≤ N → gh c n = a n) (ha : ∀ n, 1 ≤ n → n ≤ N → (a n).natAbs < 2 ^ 500) : ∀ n, 1 ≤ n → n ≤ N → (c n).natAbs < 2 ^ 8000 := by
  have k : ∀ n, 1 ≤ n → n ≤ N → (c n).natAbs < 2 ^ Sz n := by
    intro n
    induction n using Nat.strongRecOn with
    | ind n ih =>
      intro n1 nN
      refine size_step n1 (by omega) (ha n n1 nN) (fun d d1 dn => ih d dn d1 (by omega)) ?_
      rw [← h n n1 nN, gh_last n1 (by omega)]
      omega
  intro n n1 nN
  exact Nat.lt_of_lt_of_le (k n n1 nN) (Nat.pow_le_pow_right (by decide) (by unfold Sz; omega))
theorem gh_size {c : Nat → Int} {b n : Nat} (n1 : 1 ≤ n) (n12 : n ≤ 12) (h : ∀ d, 1 ≤ d → d ≤ n → (c d).natAbs < 2 ^ b) : (gh c n).natAbs < 2 ^ (12 * b + 10) := by
  rw [gh_n n1 (by omega)]
  have tb : ∀ d, 1 ≤ d → d ≤ n → (tm c n d).natAbs ≤ 12 * 2 ^ (12 * b) := by
    intro d d1 dn
    unfold tm
    by_cases z : n % d = 0
    · rw [if_pos z, Int.natAbs_mul, Int.natAbs_pow, Int.natAbs_natCast]
      refine Nat.mul_le_mul (by omega) ?_
      refine Nat.le_trans (Nat.pow_le_pow_left (Nat.le_of_lt (h d d1 dn)) _) ?_
      rw [← Nat.pow_mul]
      apply Nat.pow_le_pow_right (by decide)
      rw [Nat.mul_comm]
      exact Nat.mul_le_mul_right _ (Nat.le_trans (Nat.div_le_self n d) n12)
    · rw [if_neg z]; simp
  have sb : ∀ m, m ≤ n → (S m (tm c n)).natAbs ≤ m * (12 * 2 ^ (12 * b)) := by
    intro m
    induction m with
    | zero => intro _; simp [S]
    | succ m ih =>
      intro hm
      show (S m (tm c n) + tm c n (m + 1)).natAbs ≤ _
      have a1 := ih (by omega)
      have a2 := tb (m + 1) (by omega) hm
      rw [Nat.succ_mul]
      omega
  have a1 := sb n (Nat.le_refl n)
  have a2 : n * (12 * 2 ^ (12 * b)) ≤ 12 * (12 * 2 ^ (12 * b)) := Nat.mul_le_mul_right _ n12
  rw [Nat.pow_add]
  have q : (2 : Nat) ^ 10 = 1024 := by decide
  rw [q]
  have : 0 < 2 ^ (12 * b) := Nat.pow_pos (by decide)
  omega
end C68

set_option Elab.async false
set_option linter.all false
set_option maxRecDepth 100000
set_option maxHeartbeats 4000000
/-! d.items() walked, of a dict that has just been made; list(e.values()), where e lets an error out -/
namespace Lk
open PySem PySem.Spec PyProof.Rows L2
section
variable {X : Cx} {te td : TE} {e : Expr} {p pos cpos apos : Pos}
def iItemsN (td : TE) : TI := fun σ H R => td σ H fun x H1 => ∃ d kvs, x = .ref d ∧ H1 d = some (.dK kvs) ∧ ∀ od, R (Iti d od kvs) (upd H1 d (.frz od (.dK kvs)))
theorem pi_itemsN {elts : List Expr} {kk : Nat} {tpos : Pos} (he : PE X e td) (hbase : attributeBase e "items" X.env (eval e X.env) = eval e X.env := by rfl) (hline : (apos.endLine == cpos.line) = true := by rfl) :
    PI X (.Tuple elts kk tpos) (.Call (.Attribute e "items" apos) [] [] cpos) (iItemsN td) := by
  refine ⟨fun pins s σ H R I h => ?_⟩
  refine wpAny_Call_method (T := "dict") (id := "dict.items") hbase rfl hline F.plainAttrs_dict F.slot_dict_items F.type_dict_items (thn (he.run pins s σ H _ I h) fun u s1 ⟨x, H0, I0, rx, d, kvs, ex, hd0, q0⟩ => ?_)
  subst ex
  obtain rfl : u = Value.ref d := rx
  obtain ⟨o, I1⟩ := I0.lock hd0 trivial
  have q := q0 o
  have hd : (upd H0 d (.frz o (.dK kvs))) d = some (.frz o (.dK kvs)) := upd_same
  generalize upd H0 d (.frz o (.dK kvs)) = H1 at *
  obtain ⟨hs, hgd, hx, es, ep, vs, hdt, hsz, kv, hm⟩ := I1.frzK hd
  have hl : kvs.length = vs.length := Paired.length kv
  refine ⟨hm.dictOf.typeIs, hm.dictOf.mapOf.noDict, ?_⟩
  have I2 : Inv X pins σ H1 { s1 with heap := s1.heap.push { cls := .type "dict_items", data := .fields #[.ref d] } } := I1.kept (t' := s1.toks) fun b ob q => Heap.get?_push_of_some _ q
  have fin : wpAny (model X.prog X.w) X.A (pyIter (.ref s1.heap.objs.size)) (PIE X pins σ (.Tuple elts kk tpos) R) X.xe { s1 with heap := s1.heap.push { cls := .type "dict_items", data := .fields #[.ref d] } } := by
    refine wpAny_pyIter_items (d := d) (knd := mixKind X.prog X.w) ⟨_, Heap.get?_push_size _ rfl, rfl, rfl⟩ (hm.push _) (pi_one (tk := s1.toks) I2 _ (turn_items _ hdt) ⟨.none, .none, ?_⟩ q)
    rw [hl]
    exact Heap.get?_push_size _ rfl
  show wpAny _ _ (callWith cpos (.builtin "dict.items") [.ref d] [] []) _ X.xe s1
  exact method_meetsIn F.slot_dict_items F.entry_dict_items rfl (PySem.evalArgs_none ⟨rfl, hm.dictOf.typeIs, F.args_dict_items_1 _, _, meets_dict_items (mixKind X.prog X.w) d hs, ⟨vs, hm.dictOf⟩, fin⟩)
/-- list(e.values()): e lets an error out -/
theorem pe_listValsX (he : PE X e te) (hg : Gl X "list") (hm : X.mg "list" = none) (hv : bootBuiltins "list" = some (.type "list") := by decide +kernel) (hbase : attributeBase e "values" X.env (eval e X.env) = eval e X.env := by rfl) (hline : (apos.endLine == cpos.line) = true := by rfl)
    (hs : starEach [.Call (.Attribute e "values" apos) [] [] cpos] X.env = (false, eval (.Call (.Attribute e "values" apos) [] [] cpos) X.env) :: starEach [] X.env := by rfl) :
    PE X (.Call (.Name "list" p) [.Call (.Attribute e "values" apos) [] [] cpos] [] pos) (fun σ H _ => te σ H fun _ _ => False) := by
  refine ⟨fun pins s σ H Q I hq => ?_⟩
  refine wpAny_Call_Name_kw (ld_blt I hg hm hv ?_)
  refine PyProof.Rows.callWith_type1 ?_ hs rfl
  rw [hs]
  show wpAny _ _ (spliced ((false, eval (.Call (.Attribute e "values" apos) [] [] cpos) X.env) :: backTo pos (starEach [] X.env))) _ _ s
  refine Calls.spliced_cons ?_
  exact wpAny_Call_method (T := "dict") (id := "dict.values") hbase rfl hline F.plainAttrs_dict F.slot_dict_values F.type_dict_values (thn (he.run pins s σ H _ I hq) fun u s1 ⟨x, H1, I1, rx, z⟩ => z.elim)
end
end Lk
namespace Lk
open PySem PySem.Spec PyProof.Rows L2
section
variable {X : Cx}
/-- xs[i] as what is read ahead of xs[i] += e -/
def rGetL (K : PySem.W.Frag) : V → V → Hp → VK → Prop := fun x y H Q => ∃ (p : Addr) (xs : List V) (i : Nat) (v : V), x = .ref p ∧ y = .int i ∧ SqL K H p xs ∧ xs[i]? = some v ∧ Q v H
theorem get_list : PGet X (rGetL X.K) := by
  intro pins s σ H x y v u Q I rx ry h
  obtain ⟨p, xs, i, z, rfl, rfl, hq, he, q⟩ := h
  cases rx
  obtain ⟨t, rfl⟩ := ry
  obtain ⟨its, r, pl, hz⟩ := I.list hq
  obtain ⟨w, ew, rw'⟩ := r.get he
  have hl := r.length
  have hn := line63
  obtain ⟨hi, _⟩ := List.getElem?_eq_some_iff.mp he
  exact wpAny_getItem_list pl.isList (by omega) (by omega) (by simpa using ew) ⟨z, H, I, rw', q⟩
end
end Lk

set_option Elab.async false
set_option linter.all false
set_option maxRecDepth 100000
set_option maxHeartbeats 4000000
set_option exponentiation.threshold 10000
namespace Lk
open PySem L2
abbrev HRoll (P : Program) (w : World) (K : PySem.W.Frag) (mg : Str → Option Value) (base : Heap) : Prop := Has P w K mg base "_law_roll" 1 ["_law_dice_here", "_law_total"] spRoll
abbrev HPick (P : Program) (w : World) (K : PySem.W.Frag) (mg : Str → Option Value) (base : Heap) : Prop := Has P w K mg base "_law_pick" 2 ["_law_dice_here", "_law_items"] (spPick K)
/-- built-in names that the module leaves -/
structure NN (mg : Str → Option Value) : Prop where
  int : mg "int" = none
  len : mg "len" = none
  abs : mg "abs" = none
  max : mg "max" = none
  min : mg "min" = none
  isinstance : mg "isinstance" = none
  bool : mg "bool" = none
  range : mg "range" = none
  all : mg "all" = none
  tuple : mg "tuple" = none
  sum : mg "sum" = none
  zip : mg "zip" = none
  sorted : mg "sorted" = none
  tl : ∃ t, mg "_TOO_LONG" = some (.int LONG t)
  mf : ∃ t, mg "MAX_FACTORED" = some (.int 1000000000 t)
  mm : ∃ t, mg "MAX_MODULUS" = some (.int 10000 t)
  mgh : ∃ t, mg "MAX_GHOSTS" = some (.int 24 t)
  isqrt : mg "isqrt" = some (.builtin "math.isqrt")
theorem NN.bl {mg : Str → Option Value} (N : NN mg) : Bl mg := ⟨N.int, N.len, N.abs, N.max⟩
/-! the least factor from a start on -/
def lfS (n lo : Int) (k : Nat) : Int := match (List.range k).find? (fun i => decide (n % (lo + (i : Nat) * 2) = 0)) with | some i => lo + (i : Nat) * 2 | none => n
def rt (n : Int) : Int := ((Float64.isqrt n.toNat : Nat) : Int) + 1
def lf (n s : Int) : Int := if s = 2 ∧ n % 2 = 0 then 2 else lfS n (Builtin.bitOr s 1) (Builtin.Range.rangeSize (Builtin.bitOr s 1) (rt n) 2).toNat
theorem find_at {p : Nat → Bool} {k i : Nat} (hi : i < k) (hp : p i = true) (no : ∀ j, j < i → p j = false) : (List.range k).find? p = some i := by
  rw [List.find?_range_eq_some]
  exact ⟨hp, List.mem_range.mpr hi, fun j hj => by rw [no j hj]; rfl⟩
theorem find_no {p : Nat → Bool} {k : Nat} (no : ∀ j, j < k → p j = false) : (List.range k).find? p = none := by
  rw [List.find?_range_eq_none]
  exact fun j hj => by rw [no j hj]; rfl
theorem or_lt {s : Int} (h0 : 0 ≤ s) (h1 : s < 2 ^ 40) : 0 ≤ Builtin.bitOr s 1 ∧ Builtin.bitOr s 1 < 2 ^ 40 := by
  rw [bitOr_nn h0 (by decide)]
  have h2 : s.toNat < 2 ^ 40 := by omega
  have h3 := Nat.or_lt_two_pow h2 (show (1 : Int).toNat < 2 ^ 40 by decide)
  constructor
  · exact Int.natCast_nonneg _
  · have e : ((2 : Int) ^ 40) = ((2 ^ 40 : Nat) : Int) := by decide
    rw [e]
    exact Int.ofNat_lt.mpr h3
theorem or_ge {s : Int} (h0 : 0 ≤ s) : 1 ≤ Builtin.bitOr s 1 := by
  rw [bitOr_nn h0 (by decide)]
  have : 1 ≤ s.toNat ||| (1 : Int).toNat := Nat.right_le_or
  omega
theorem small2 {a b : Int} (ha : -(2 ^ 62) ≤ a) (ha2 : a < 2 ^ 62) (hb : -(2 ^ 62) ≤ b) (hb2 : b < 2 ^ 62) : Builtin.Range.small a b 2 = true := by
  unfold Builtin.Range.small Builtin.Range.rangeSize
  simp only [Builtin.Range.rangeFitsLong, Bool.and_eq_true, Bool.or_eq_true, decide_eq_true_eq, beq_iff_eq, show (2 : Int) > 0 by decide, if_true]
  split <;> omega
theorem rt_lt {n : Int} (h0 : 0 ≤ n) (h1 : n < 2 ^ 40) : 0 ≤ rt n ∧ rt n < 2 ^ 41 := by
  unfold rt
  have : Float64.isqrt n.toNat ≤ n.toNat := by
    have q := (PySem.Float64.isqrt_spec n.toNat).1
    rcases Nat.eq_zero_or_pos (Float64.isqrt n.toNat) with z | z
    · omega
    · exact Nat.le_trans (Nat.le_mul_of_pos_left _ z) q
  omega
section
variable {P : Program} {w : World} {K : PySem.W.Frag} {mg : Str → Option Value} {base : Heap}
abbrev sLf : Stmt := top 23
def spLf : Sp := fun vs H Q _ => ∃ n s : Int, vs = [.int n, .int s] ∧ 2 ≤ n ∧ n < 2 ^ 40 ∧ 2 ≤ s ∧ s < 2 ^ 40 ∧ Q (.int (lf n s)) H
theorem scLf : FnScope ["number", "start", "factor"] ["number", "start"] (defScope sLf) := ⟨rfl, rfl, rfl, by decide +kernel, rfl, by decide +kernel, by decide +kernel⟩
theorem ok_lf {f : Addr} {fd : FuncData} (F : Fun K "_least_factor" "_least_factor" sLf f fd) (mI : mg "isqrt" = some (.builtin "math.isqrt")) (mR : mg "range" = none) : FnOk P w K mg base CX0 1 f fd ["number", "start"] spLf := by
  refine F.ok scLf (fun vs H Q E h => ?_) (fun cdv A outer s H vs Q E hr h => ?_)
  · obtain ⟨n, st, rfl, _⟩ := h
    rfl
  · obtain ⟨n, st, rfl, n2, n3, s2, s3, k⟩ := h
    refine ⟨_, pss_cons (ps_if (PW.pt (pw_and (pt_cmpR op_eq (pv 1) pe_int (nomark _)) (pw_and1 (pt_cmpR op_eq (pe_op op_mod (pv 0) pe_int) pe_int (nomark _))))) (pss_one (ps_ret pe_int)) pss_nil)
      (pss_cons (ps_for PassesOwn.never rfl (pi_range3 rfl mR (pa_cons (pe_op op_or (pv 1) pe_int) (pa_cons (pe_op op_add (pe_callBfun cr_isqrt rfl mI (pa_cons (pv 0) pa_nil)) pe_int) (pa_cons pe_int pa_nil)))) (pg_name (i := 2) scLf.nd rfl (.inl rfl))
        (pss_one (ps_if (pt_cmpR op_eq (pe_op op_mod (pv 0) (pv 2)) pe_int (nomark _)) (pss_one (ps_ret (pv 2))) pss_nil)))
      (pss_one (ps_ret (pv 0)))), ?_⟩
    have ol := or_lt (s := st) (by omega) s3
    have og := or_ge (s := st) (by omega)
    have rl := rt_lt (n := n) (by omega) n3
    have tail : ¬ (st = 2 ∧ n % 2 = 0) → lf n st = lfS n (Builtin.bitOr st 1) (Builtin.Range.rangeSize (Builtin.bitOr st 1) (rt n) 2).toNat := fun h => by unfold lf; rw [if_neg h]
    refine ⟨_, rfl, rfl, _, rfl, ?_⟩
    by_cases a : st = 2
    · refine itT (decide_eq_true (by rw [a])) ?_
      refine ⟨_, rfl, n, 2, rfl, rfl, (by show (0 : Int) < 2; decide), rfl, _, rfl, ?_⟩
      by_cases b : n % 2 = 0
      · refine itT (decide_eq_true (show V.int (n % 2) = V.int 0 by rw [b])) ?_
        have e : lf n st = 2 := by unfold lf; rw [if_pos ⟨a, b⟩]
        rw [e] at k
        exact k
      · refine itF (decide_eq_false (fun z => b (V.int.inj z))) ?_
        refine ⟨_, rfl, _, _, rfl, rfl, _, rfl, n, rfl, by omega, by omega, _, _, rfl, rfl, Builtin.bitOr st 1, rt n, 2, (Builtin.Range.rangeSize (Builtin.bitOr st 1) (rt n) 2).toNat, rfl, ⟨by decide, by decide, small2 (by omega) (by omega) (by omega) (by omega), PyProof.Rows.rangeSize_toNat _ _ _⟩,
          for_rangeC (fun i σ H' => H' = H ∧ ∃ v : Option V, σ = [some (.int n), some (.int st), v] ∧ ∀ j : Nat, j < i → n % (Builtin.bitOr st 1 + (j : Nat) * 2) ≠ 0) ⟨rfl, none, rfl, fun j hj => absurd hj (Nat.not_lt_zero j)⟩ ?_ ?_⟩
        · rintro i σ H' hi ⟨rfl, v, rfl, no⟩
          have pos : 0 < Builtin.bitOr st 1 + (i : Nat) * 2 := by omega
          refine ⟨_, rfl, _, rfl, n, Builtin.bitOr st 1 + (i : Nat) * 2, rfl, rfl, pos, rfl, _, rfl, ?_⟩
          by_cases c : n % (Builtin.bitOr st 1 + (i : Nat) * 2) = 0
          · refine itT (decide_eq_true (show V.int (n % (Builtin.bitOr st 1 + (i : Nat) * 2)) = V.int 0 by rw [c])) ⟨_, rfl, ?_⟩
            have e : lf n st = Builtin.bitOr st 1 + (i : Nat) * 2 := by
              rw [tail (fun h => b h.2)]
              unfold lfS
              rw [find_at hi (decide_eq_true c) (fun j hj => decide_eq_false (no j hj))]
            rw [e] at k
            exact k
          · refine itF (decide_eq_false (fun z => c (V.int.inj z))) ⟨rfl, _, rfl, fun j hj => ?_⟩
            rcases Nat.lt_succ_iff_lt_or_eq.mp hj with q | q
            · exact no j q
            · rw [q]; exact c
        · rintro σ H' ⟨rfl, v, rfl, no⟩
          have e : lf n st = n := by
            rw [tail (fun h => b h.2)]
            unfold lfS
            rw [find_no (fun j hj => decide_eq_false (no j hj))]
          rw [e] at k
          exact ⟨_, rfl, k⟩
    · refine itF (decide_eq_false (fun z => a (V.int.inj z))) (itF rfl ?_)
      refine ⟨_, rfl, _, _, rfl, rfl, _, rfl, n, rfl, by omega, by omega, _, _, rfl, rfl, Builtin.bitOr st 1, rt n, 2, (Builtin.Range.rangeSize (Builtin.bitOr st 1) (rt n) 2).toNat, rfl, ⟨by decide, by decide, small2 (by omega) (by omega) (by omega) (by omega), PyProof.Rows.rangeSize_toNat _ _ _⟩,
        for_rangeC (fun i σ H' => H' = H ∧ ∃ v : Option V, σ = [some (.int n), some (.int st), v] ∧ ∀ j : Nat, j < i → n % (Builtin.bitOr st 1 + (j : Nat) * 2) ≠ 0) ⟨rfl, none, rfl, fun j hj => absurd hj (Nat.not_lt_zero j)⟩ ?_ ?_⟩
      · rintro i σ H' hi ⟨rfl, v, rfl, no⟩
        have pos : 0 < Builtin.bitOr st 1 + (i : Nat) * 2 := by omega
        refine ⟨_, rfl, _, rfl, n, Builtin.bitOr st 1 + (i : Nat) * 2, rfl, rfl, pos, rfl, _, rfl, ?_⟩
        by_cases c : n % (Builtin.bitOr st 1 + (i : Nat) * 2) = 0
        · refine itT (decide_eq_true (show V.int (n % (Builtin.bitOr st 1 + (i : Nat) * 2)) = V.int 0 by rw [c])) ⟨_, rfl, ?_⟩
          have e : lf n st = Builtin.bitOr st 1 + (i : Nat) * 2 := by
            rw [tail (fun h => a h.1)]
            unfold lfS
            rw [find_at hi (decide_eq_true c) (fun j hj => decide_eq_false (no j hj))]
          rw [e] at k
          exact k
        · refine itF (decide_eq_false (fun z => c (V.int.inj z))) ⟨rfl, _, rfl, fun j hj => ?_⟩
          rcases Nat.lt_succ_iff_lt_or_eq.mp hj with q | q
          · exact no j q
          · rw [q]; exact c
      · rintro σ H' ⟨rfl, v, rfl, no⟩
        have e : lf n st = n := by
          rw [tail (fun h => a h.1)]
          unfold lfS
          rw [find_no (fun j hj => decide_eq_false (no j hj))]
        rw [e] at k
        exact ⟨_, rfl, k⟩
end

/-! how often a prime divides -/
theorem pow_dvd_step {p r n : Int} {t : Nat} (h : r * p ^ t = n) (d : r % p = 0) (p0 : p ≠ 0) : r / p * p ^ (t + 1) = n := by
  have e : r / p * p = r := Int.ediv_mul_cancel (Int.dvd_of_emod_eq_zero d)
  rw [Int.pow_succ, Int.mul_comm (p ^ t) p, ← Int.mul_assoc, e, h]
theorem pow_dvd_end {p r n : Int} {t : Nat} (h : r * p ^ t = n) (d : r % p ≠ 0) (p0 : p ≠ 0) : p ^ t ∣ n ∧ ¬ p ^ (t + 1) ∣ n := by
  refine ⟨⟨r, by rw [← h, Int.mul_comm]⟩, fun ⟨c, hc⟩ => d ?_⟩
  have hp : p ^ t ≠ 0 := Int.pow_ne_zero p0
  have e : r * p ^ t = c * p * p ^ t := by
    rw [h, hc, Int.pow_succ, Int.mul_comm (p ^ t) p, Int.mul_comm (p * p ^ t) c, Int.mul_assoc]
  rw [Int.mul_eq_mul_right_iff hp |>.mp e]
  exact Int.mul_emod_left c p
theorem abs_div_lt {r p : Int} (h : 2 ≤ p) (r0 : r ≠ 0) (d : r % p = 0) : (r / p).natAbs < r.natAbs := by
  have e : r / p * p = r := Int.ediv_mul_cancel (Int.dvd_of_emod_eq_zero d)
  have e2 : (r / p).natAbs * p.natAbs = r.natAbs := by rw [← Int.natAbs_mul, e]
  have p2 : 2 ≤ p.natAbs := by omega
  have q0 : 0 < (r / p).natAbs := by
    rcases Nat.eq_zero_or_pos (r / p).natAbs with z | z
    · rw [z, Nat.zero_mul] at e2; omega
    · exact z
  have : (r / p).natAbs * 2 ≤ (r / p).natAbs * p.natAbs := Nat.mul_le_mul_left _ p2
  omega
section
variable {P : Program} {w : World} {K : PySem.W.Frag} {mg : Str → Option Value} {base : Heap}
abbrev sTd : Stmt := top 24
/-- the greatest power that divides: its exponent -/
def spTd : Sp := fun vs H Q _ => ∃ p n : Int, vs = [.int p, .int n] ∧ 2 ≤ p ∧ p.natAbs < 2 ^ 200 ∧ n ≠ 0 ∧ ∀ t : Nat, p ^ t ∣ n → ¬ p ^ (t + 1) ∣ n → Q (.int t) H
theorem scTd : FnScope ["prime", "number", "times", "rest"] ["prime", "number"] (defScope sTd) := ⟨rfl, rfl, rfl, by decide +kernel, rfl, by decide +kernel, by decide +kernel⟩
theorem ok_td {f : Addr} {fd : FuncData} (F : Fun K "_times_divided" "_times_divided" sTd f fd) : FnOk P w K mg base CX0 1 f fd ["prime", "number"] spTd := by
  refine F.ok scTd (fun vs H Q E h => ?_) (fun cdv A outer s H vs Q E hr h => ?_)
  · obtain ⟨p, n, rfl, _⟩ := h
    rfl
  · obtain ⟨p, n, rfl, p2, pb, n0, k⟩ := h
    refine ⟨_, pss_cons (ps_par (i := 2) (j := 3) (by rfl) scTd.nd rfl rfl (by decide) rfl rfl (pa_cons pe_int (pa_cons (pv 1) pa_nil)) (by rfl))
      (pss_cons (ps_while PassesOwn.never (pt_cmpR op_eq (pe_op op_mod (pv 3) (pv 0)) pe_int (nomark _))
        (pss_cons (ps_set (i := 3) scTd.nd rfl (.inl rfl) (pe_op op_fdivW (pv 3) (pv 0))) (pss_one (ps_aug (i := 2) scTd.nd rfl (.inl rfl) pe_int ip_add (.inl rfl)))))
      (pss_one (ps_ret (pv 2)))), ?_⟩
    refine ⟨_, rfl, _, _, rfl, ?_⟩
    refine while_by (fun σ H' => H' = H ∧ ∃ (t : Nat) (r : Int), σ = [some (.int p), some (.int n), some (.int t), some (.int r)] ∧ r ≠ 0 ∧ r * p ^ t = n)
      (fun σ _ => match σ with | [_, _, _, some (.int r)] => r.natAbs | _ => 0) ?_ ?_ ?_
    · exact ⟨rfl, 0, n, rfl, n0, by simp⟩
    · rintro σ H' ⟨rfl, t, r, rfl, r0, e⟩
      refine ⟨_, rfl, _, rfl, r, p, rfl, rfl, (by show 0 < p; omega), rfl, _, rfl, ?_⟩
      by_cases c : r % p = 0
      · refine itT (decide_eq_true (show V.int (r % p) = V.int 0 by rw [c])) ?_
        refine ⟨_, rfl, _, rfl, r, p, rfl, rfl, wide_div (by omega) pb (by decide) (by decide), ?_⟩
        refine ⟨_, rfl, _, _, rfl, rfl, ⟨rfl, t + 1, r / p, rfl, ?_, pow_dvd_step e c (by omega)⟩, ?_⟩
        · intro z
          have := Int.ediv_mul_cancel (Int.dvd_of_emod_eq_zero c)
          rw [z, Int.zero_mul] at this
          exact r0 this.symm
        · exact abs_div_lt p2 r0 c
      · refine itF (decide_eq_false (fun z => c (V.int.inj z))) ?_
        obtain ⟨a1, a2⟩ := pow_dvd_end e c (by omega)
        exact ⟨_, rfl, k t a1 a2⟩
    · rintro σ H' Q1 Q2 hq ⟨v, e1, v2, e2, i, j, a1, a2, a3, a4, q⟩
      obtain ⟨b', e3, q2⟩ := q
      exact ⟨v, e1, v2, e2, i, j, a1, a2, a3, a4, b', e3, hq _ _ q2⟩
end

section
variable {P : Program} {w : World} {K : PySem.W.Frag} {mg : Str → Option Value} {base : Heap}
abbrev sShort : Stmt := top 11
abbrev sCm : Stmt := top 14
abbrev sCl : Stmt := top 15
abbrev sIsI : Stmt := top 18
abbrev sChk : Stmt := top 19
abbrev sPt : Stmt := top 26
abbrev sPo : Stmt := top 27
def spShort : Sp := fun vs H Q _ => ∃ i : Int, vs = [.int i] ∧ Q (.bl (decide (-LONG < i) && decide (i < LONG))) H
theorem scShort : FnScope ["value"] ["value"] (defScope sShort) := ⟨rfl, rfl, rfl, by decide +kernel, rfl, by decide +kernel, by decide +kernel⟩
theorem ok_short {f : Addr} {fd : FuncData} (F : Fun K "is_short_integer" "is_short_integer" sShort f fd) (G : NN mg) :
    FnOk P w K mg base CX0 1 f fd ["value"] spShort := by
  obtain ⟨tk, hTL⟩ := G.tl
  refine F.ok scShort (fun vs H Q E h => ?_) (fun cdv A outer s H vs Q E hr h => ?_)
  · obtain ⟨i, rfl, _⟩ := h
    rfl
  · obtain ⟨i, rfl, k⟩ := h
    refine ⟨_, pss_one (ps_ret (pe_and (pe_callB call_isi (by rfl) G.isinstance (by decide +kernel) (pa_cons (pv 0) (pa_cons (pe_bltn (by rfl) G.int (by decide +kernel) (show RelV (.ty "int") (.type "int") from rfl)) pa_nil)))
      (pe_and (pe_not (pe_callB call_isi (by rfl) G.isinstance (by decide +kernel) (pa_cons (pv 0) (pa_cons (pe_bltn (by rfl) G.bool (by decide +kernel) (show RelV (.ty "bool") (.type "bool") from rfl)) pa_nil))))
        (pe_one (pe_chain op_lt op_lt (pe_un un_neg (pe_glob rfl hTL (show RelV (.int LONG) (.int LONG tk) from ⟨_, rfl⟩))) (pv 0) (pe_glob rfl hTL (show RelV (.int LONG) (.int LONG tk) from ⟨_, rfl⟩))))))), ?_⟩
    refine ⟨_, rfl, _, _, _, _, true, rfl, .ty "int", .base (.int i), kit_ty (by decide +kernel), true, rfl, ?_⟩
    rw [if_pos rfl]
    refine ⟨_, rfl, _, _, _, _, false, rfl, .ty "bool", .base (.int i), kit_ty (by decide +kernel), false, rfl, true, rfl, ?_⟩
    rw [if_pos rfl]
    refine ⟨_, rfl, _, rfl, _, _, rfl, rfl, _, rfl, ?_⟩
    by_cases c : -LONG < i
    · rw [decide_eq_true c] at k
      rw [if_pos (decide_eq_true c)]
      exact ⟨_, _, rfl, rfl, k⟩
    · rw [decide_eq_false c] at k
      rw [if_neg (by rw [decide_eq_false c]; exact Bool.false_ne_true)]
      exact k

abbrev HSh (P : Program) (w : World) (K : PySem.W.Frag) (mg : Str → Option Value) (base : Heap) : Prop := Has P w K mg base "is_short_integer" 1 ["value"] spShort
theorem scIsI : FnScope ["value"] ["value"] (defScope sIsI) := ⟨rfl, rfl, rfl, by decide +kernel, rfl, by decide +kernel, by decide +kernel⟩
theorem ok_isI {f : Addr} {fd : FuncData} (F : Fun K "is_integer" "is_integer" sIsI f fd) (S : HSh P w K mg base) : FnOk P w K mg base CX0 2 f fd ["value"] spShort := by
  obtain ⟨fS, dS, GS, mS, kS, bS⟩ := S
  refine F.ok scIsI (fun vs H Q E h => ?_) (fun cdv A outer s H vs Q E hr h => ?_)
  · obtain ⟨i, rfl, _⟩ := h
    rfl
  · obtain ⟨i, rfl, k⟩ := h
    refine ⟨_, pss_one (ps_ret (pe_call GS hr rfl mS kS bS .nil pass0 (pa_cons (pv 0) pa_nil))), ?_⟩
    exact ⟨_, rfl, i, rfl, k⟩
abbrev HIsI (P : Program) (w : World) (K : PySem.W.Frag) (mg : Str → Option Value) (base : Heap) : Prop := Has P w K mg base "is_integer" 2 ["value"] spShort
abbrev HLf (P : Program) (w : World) (K : PySem.W.Frag) (mg : Str → Option Value) (base : Heap) : Prop := Has P w K mg base "_least_factor" 1 ["number", "start"] spLf
abbrev HTd (P : Program) (w : World) (K : PySem.W.Frag) (mg : Str → Option Value) (base : Heap) : Prop := Has P w K mg base "_times_divided" 1 ["prime", "number"] spTd
/-! check_modulus, check_leading, check_count -/
def spCm : Sp := fun vs H Q _ => ∃ m : Int, vs = [.int m] ∧ 2 ≤ m ∧ m ≤ 10000 ∧ Q .non H
theorem scCm : FnScope ["modulus"] ["modulus"] (defScope sCm) := ⟨rfl, rfl, rfl, by decide +kernel, rfl, by decide +kernel, by decide +kernel⟩
theorem ok_cm {f : Addr} {fd : FuncData} (F : Fun K "check_modulus" "check_modulus" sCm f fd) (N : NN mg) (S : HSh P w K mg base) : FnOk P w K mg base CX0 2 f fd ["modulus"] spCm := by
  obtain ⟨fS, dS, GS, mS, kS, bS⟩ := S
  obtain ⟨tM, hM⟩ := N.mm
  refine F.ok scCm (fun vs H Q E h => ?_) (fun cdv A outer s H vs Q E hr h => ?_)
  · obtain ⟨i, rfl, _⟩ := h
    rfl
  · obtain ⟨m, rfl, m2, m9, k⟩ := h
    refine ⟨_, pss_one (ps_if (PW.pt (pw_or (pt_not (pt_val (pe_call GS (hr.mono (by decide)) rfl mS kS bS .nil pass0 (pa_cons (pv 0) pa_nil)))) (pw_or (pt_cmpR op_lt (pv 0) pe_int (nomark _)) (pw_or (pt_cmpR op_eq (pv 0) pe_int (nomark _)) (pw_or1 (pt_cmpR op_gt (pv 0) (pe_glob rfl hM (show RelV (.int 10000) (.int 10000 tM) from ⟨_, rfl⟩)) (nomark _))))))) pss_never pss_nil), ?_⟩
    refine ⟨_, rfl, m, rfl, _, rfl, itF (by rw [both (by unfold LONG; omega) (by unfold LONG; omega)]; rfl) ?_⟩
    refine ⟨_, rfl, _, _, rfl, rfl, _, rfl, itF (decide_eq_false (by omega)) ?_⟩
    refine ⟨_, rfl, rfl, _, rfl, itF (decide_eq_false (fun z => by have := V.int.inj z; omega)) ?_⟩
    exact ⟨_, rfl, _, _, rfl, rfl, _, rfl, itF (decide_eq_false (by omega)) k⟩
theorem scCl : FnScope ["modulus"] ["modulus"] (defScope sCl) := ⟨rfl, rfl, rfl, by decide +kernel, rfl, by decide +kernel, by decide +kernel⟩
theorem ok_cl {f : Addr} {fd : FuncData} (F : Fun K "check_leading" "check_leading" sCl f fd) (Cm : Has P w K mg base "check_modulus" 2 ["modulus"] spCm) : FnOk P w K mg base CX0 3 f fd ["modulus"] spCm := by
  obtain ⟨fCm, dCm, GCm, mCm, kCm, bCm⟩ := Cm
  refine F.ok scCl (fun vs H Q E h => ?_) (fun cdv A outer s H vs Q E hr h => ?_)
  · obtain ⟨i, rfl, _⟩ := h
    rfl
  · obtain ⟨m, rfl, m2, m9, k⟩ := h
    refine ⟨_, pss_cons (ps_expr (pe_call GCm (hr.mono (by decide)) rfl mCm kCm bCm .nil pass0 (pa_cons (pv 0) pa_nil)))
      (pss_one (ps_if (pt_cmpR op_eq (pv 0) pe_int (nomark _)) pss_never pss_nil)), ?_⟩
    refine ⟨_, rfl, m, rfl, m2, m9, ?_⟩
    exact ⟨_, rfl, rfl, _, rfl, itF (decide_eq_false (fun z => by have := V.int.inj z; omega)) k⟩
def spChk : Sp := fun vs H Q _ => ∃ m lo hi : Int, vs = [.int m, .int lo, .int hi] ∧ lo ≤ m ∧ m ≤ hi ∧ -LONG < m ∧ m < LONG ∧ Q .non H
theorem scChk : FnScope ["value", "low", "high"] ["value", "low", "high"] (defScope sChk) := ⟨rfl, rfl, rfl, by decide +kernel, rfl, by decide +kernel, by decide +kernel⟩
theorem ok_chk {f : Addr} {fd : FuncData} (F : Fun K "check_count" "check_count" sChk f fd) (I : HIsI P w K mg base) : FnOk P w K mg base CX0 3 f fd ["value", "low", "high"] spChk := by
  obtain ⟨fI, dI, GI, mI, kI, bI⟩ := I
  refine F.ok scChk (fun vs H Q E h => ?_) (fun cdv A outer s H vs Q E hr h => ?_)
  · obtain ⟨i, lo, hi, rfl, _⟩ := h
    rfl
  · obtain ⟨m, lo, hi, rfl, m2, m9, l1, l2, k⟩ := h
    refine ⟨_, pss_one (ps_if (PW.pt (pw_or (pt_not (pt_val (pe_call GI (hr.mono (by decide)) rfl mI kI bI .nil pass0 (pa_cons (pv 0) pa_nil)))) (pw_or (pt_cmpR op_lt (pv 0) (pv 1) (nomark _)) (pw_or1 (pt_cmpR op_gt (pv 0) (pv 2) (nomark _)))))) pss_never pss_nil), ?_⟩
    refine ⟨_, rfl, m, rfl, _, rfl, itF (by rw [both l1 l2]; rfl) ?_⟩
    refine ⟨_, rfl, _, rfl, _, _, rfl, rfl, _, rfl, itF (decide_eq_false (by omega)) ?_⟩
    exact ⟨_, rfl, _, rfl, _, _, rfl, rfl, _, rfl, itF (decide_eq_false (by omega)) k⟩
theorem rangeV (n : Nat) (f : Nat → Int) (i : Nat) (h : i < n) : ((List.range n).map fun m => V.int (f m))[i]? = some (.int (f i)) := by
  rw [List.getElem?_map, List.getElem?_range h]; rfl
/-! powers -/
def spPt : Sp := fun vs H Q _ => ∃ (x : Int) (n : Nat), vs = [.int x, .int n] ∧ n ≤ 24 ∧ x.natAbs < 2 ^ 30000 ∧ ∀ H' p, Same H H' → H p = none → H' p = some (.lst ((List.range (n + 1)).map fun m => V.int (x ^ m))) → Q (.ref p) H'
abbrev nPt : List Str := ["number", "many", "found", "_"]
theorem scPt : FnScope nPt ["number", "many"] (defScope sPt) := ⟨rfl, rfl, rfl, by decide +kernel, rfl, by decide +kernel, by decide +kernel⟩
theorem pow_wd {x : Int} {b : Nat} (h : x.natAbs < 2 ^ b) (b0 : 0 < b) : ∀ j : Nat, (x ^ j).natAbs < 2 ^ (b * j + 1)
  | 0 => by simp
  | j + 1 => by
    have ih := pow_wd h b0 j
    rw [Int.pow_succ, Int.natAbs_mul]
    have e : b * (j + 1) + 1 = (b * j + 1) + b := by rw [Nat.mul_succ]; omega
    rw [e, Nat.pow_add]
    exact Nat.mul_lt_mul'' ih h
theorem ok_pt {f : Addr} {fd : FuncData} (F : Fun K "powers_to" "powers_to" sPt f fd) (N : NN mg) : FnOk P w K mg base CX0 1 f fd ["number", "many"] spPt := by
  refine F.ok scPt (fun vs H Q E h => ?_) (fun cdv A outer s H vs Q E hr h => ?_)
  · obtain ⟨x, n, rfl, _⟩ := h
    rfl
  · obtain ⟨x, n, rfl, n24, hx, k⟩ := h
    refine ⟨_, pss_cons (ps_set (i := 2) scPt.nd rfl (.inl rfl) (pe_lst (pa_cons pe_int pa_nil)))
      (pss_cons (ps_for PassesOwn.never rfl (pi_range1 rfl N.range (pa_cons (pv 1) pa_nil)) (pg_name (i := 3) scPt.nd rfl (.inl rfl)) (pss_one (ps_expr (pe_bm PySem.F.plainAttrs_list PySem.F.slot_list_append PySem.F.type_list_append mt_append (pv 2) (pa_cons (pe_op op_mulW (pe_ix ix_list (pv 2) (pe_un un_neg pe_int) (fun _ _ => rfl)) (pv 0)) pa_nil)))))
      (pss_one (ps_ret (pv 2)))), ?_⟩
    refine ⟨(by show 1 ≤ sizeLine; decide), fun q nq => ?_⟩
    refine ⟨_, rfl, _, rfl, by omega, by omega, for_range (fun j σ H3 => ∃ u5 : Option V, σ = [some (.int x), some (.int n), some (.ref q), u5] ∧ H3 = upd H q (.lst ((List.range (j + 1)).map fun m => V.int (x ^ m)))) ⟨_, rfl, ?_⟩ ?_ ?_⟩
    · show upd H q (.lst [V.int 1]) = upd H q (.lst [V.int (x ^ 0)])
      rw [Int.pow_zero]
    · rintro j σ H3 hj ⟨u5, rfl, rfl⟩
      have hj' : j < 24 := by omega
      refine ⟨_, rfl, .inl ⟨rfl, _, SqL.of upd_same⟩, ?_⟩
      refine ⟨_, rfl, _, rfl, q, _, -1, _, rfl, rfl, SqL.of upd_same, atI_last (n := j) (by rw [List.length_map, List.length_range]) (rangeV (j + 1) (fun m => x ^ m) j (by omega)), ?_⟩
      have wx : Wd x 30000 := ⟨hx⟩
      have wp : Wd (x ^ j) 720001 := ⟨Nat.lt_of_lt_of_le (pow_wd hx (by decide) j) (Nat.pow_le_pow_right (by decide) (by omega))⟩
      refine ⟨_, rfl, _, _, rfl, rfl, mI, ?_⟩
      refine ⟨q, _, _, rfl, rfl, upd_same, ?_, _, rfl, ?_⟩
      · rw [List.length_map, List.length_range]
        exact Nat.lt_of_le_of_lt (show j + 1 ≤ 1000 by omega) (by decide)
      · rw [upd_upd, List.range_succ (n := j + 1), List.map_append]
        show upd H q (.lst (_ ++ [V.int (x ^ j * x)])) = upd H q (.lst (_ ++ [V.int (x ^ (j + 1))]))
        rw [Int.pow_succ]
    · rintro σ H3 ⟨u5, rfl, rfl⟩
      rw [Int.toNat_natCast]
      exact ⟨_, rfl, k _ q (same_new nq) nq upd_same⟩
abbrev HPt (P : Program) (w : World) (K : PySem.W.Frag) (mg : Str → Option Value) (base : Heap) : Prop := Has P w K mg base "powers_to" 1 ["number", "many"] spPt
def spPo : Sp := fun vs H Q _ => ∃ (x : Int) (n : Nat), vs = [.int x, .int n] ∧ n ≤ 24 ∧ x.natAbs < 2 ^ 30000 ∧ ∀ H', Same H H' → Q (.int (x ^ n)) H'
theorem scPo : FnScope ["number", "many"] ["number", "many"] (defScope sPo) := ⟨rfl, rfl, rfl, by decide +kernel, rfl, by decide +kernel, by decide +kernel⟩
theorem ok_po {f : Addr} {fd : FuncData} (F : Fun K "power_of" "power_of" sPo f fd) (Pt : HPt P w K mg base) : FnOk P w K mg base CX0 2 f fd ["number", "many"] spPo := by
  obtain ⟨fPt, dPt, GPt, mPt, kPt, bPt⟩ := Pt
  refine F.ok scPo (fun vs H Q E h => ?_) (fun cdv A outer s H vs Q E hr h => ?_)
  · obtain ⟨x, n, rfl, _⟩ := h
    rfl
  · obtain ⟨x, n, rfl, n24, hx, k⟩ := h
    refine ⟨_, pss_one (ps_ret (pe_ix ix_list (pe_call GPt (hr.mono (by decide)) rfl mPt kPt bPt .nil pass0 (pa_cons (pv 0) (pa_cons (pv 1) pa_nil))) (pv 1) (fun _ _ => rfl))), ?_⟩
    refine ⟨_, rfl, _, rfl, x, n, rfl, n24, hx, fun H' p s' np hp => ?_⟩
    exact ⟨_, rfl, p, _, n, _, rfl, rfl, SqL.of hp, atI_nat (rangeV (n + 1) (fun m => x ^ m) n (by omega)), k H' s'⟩
abbrev HPo (P : Program) (w : World) (K : PySem.W.Frag) (mg : Str → Option Value) (base : Heap) : Prop := Has P w K mg base "power_of" 2 ["number", "many"] spPo
end
end Lk

set_option Elab.async false
set_option linter.all false
set_option maxRecDepth 100000
set_option maxHeartbeats 4000000
set_option exponentiation.threshold 10000
namespace Lk
open PySem L2
/-! prime powers -/
theorem pow_dvd_le {g : Int} {t u : Nat} (h : t ≤ u) : g ^ t ∣ g ^ u := by
  obtain ⟨m, rfl⟩ := Nat.le.dest h
  exact ⟨g ^ m, Int.pow_add g t m⟩
theorem pow_uniq {g n : Int} {t u : Nat} (h1 : g ^ t ∣ n) (h2 : ¬ g ^ (t + 1) ∣ n) (h3 : g ^ u ∣ n) (h4 : ¬ g ^ (u + 1) ∣ n) : t = u := by
  rcases Nat.lt_trichotomy t u with c | c | c
  · exact absurd (Int.dvd_trans (pow_dvd_le c) h3) h2
  · exact c
  · exact absurd (Int.dvd_trans (pow_dvd_le c) h1) h4
def mlt (g : Int) : Nat → Int → Nat
  | 0, _ => 0
  | k + 1, r => if r % g = 0 then mlt g k (r / g) + 1 else 0
theorem mlt_spec {g : Int} (g2 : 2 ≤ g) : ∀ (k : Nat) (r : Int), r ≠ 0 → r.natAbs < 2 ^ k → g ^ mlt g k r ∣ r ∧ ¬ g ^ (mlt g k r + 1) ∣ r
  | 0, r, h0, h => absurd (Int.natAbs_eq_zero.mp (by omega)) h0
  | k + 1, r, h0, h => by
    unfold mlt
    by_cases c : r % g = 0
    · rw [if_pos c]
      have e : r / g * g = r := Int.ediv_mul_cancel (Int.dvd_of_emod_eq_zero c)
      have q0 : r / g ≠ 0 := fun z => by rw [z, Int.zero_mul] at e; exact h0 e.symm
      have lt : (r / g).natAbs < 2 ^ k := by
        have e2 : (r / g).natAbs * g.natAbs = r.natAbs := by rw [← Int.natAbs_mul, e]
        have : (r / g).natAbs * 2 ≤ (r / g).natAbs * g.natAbs := Nat.mul_le_mul_left _ (by omega)
        rw [Nat.pow_succ] at h
        omega
      obtain ⟨a, b⟩ := mlt_spec g2 k (r / g) q0 lt
      constructor
      · rw [Int.pow_succ]
        have z := Int.mul_dvd_mul_right g a
        rw [e] at z
        exact z
      · intro z
        rw [Int.pow_succ] at z
        have z' : g ^ (mlt g k (r / g) + 1) * g ∣ r / g * g := by rw [e]; exact z
        exact b (Int.dvd_of_mul_dvd_mul_right (by omega) z')
    · rw [if_neg c]
      refine ⟨by rw [Int.pow_zero]; exact Int.one_dvd r, fun z => c ?_⟩
      rw [Nat.zero_add, Int.pow_one] at z
      exact Int.emod_eq_zero_of_dvd z
def ex (g r : Int) : Nat := mlt g 40 r
theorem ex_is {g r : Int} {t : Nat} (g2 : 2 ≤ g) (r0 : r ≠ 0) (hr : r.natAbs < 2 ^ 40) (h1 : g ^ t ∣ r) (h2 : ¬ g ^ (t + 1) ∣ r) : t = ex g r :=
  pow_uniq h1 h2 (mlt_spec g2 40 r r0 hr).1 (mlt_spec g2 40 r r0 hr).2
theorem lfS_is (n lo : Int) (k : Nat) : lfS n lo k = n ∨ (∃ i : Nat, i < k ∧ lfS n lo k = lo + (i : Nat) * 2 ∧ n % (lo + (i : Nat) * 2) = 0) := by
  unfold lfS
  cases e : (List.range k).find? (fun i => decide (n % (lo + (i : Nat) * 2) = 0)) with
  | none => exact .inl rfl
  | some i =>
    refine .inr ⟨i, ?_, rfl, ?_⟩
    · exact List.mem_range.mp (List.mem_of_find?_eq_some e)
    · exact of_decide_eq_true (show decide (n % (lo + (i : Nat) * 2) = 0) = true from List.find?_some (p := fun i => decide (n % (lo + ((i : Nat) : Int) * 2) = 0)) e)
theorem or_self {s : Int} (h0 : 0 ≤ s) : s ≤ Builtin.bitOr s 1 := by
  rw [bitOr_nn h0 (by decide)]
  have : s.toNat ≤ s.toNat ||| (1 : Int).toNat := Nat.left_le_or
  omega
theorem lf_good {n s : Int} (n2 : 2 ≤ n) (s2 : 2 ≤ s) : 2 ≤ lf n s ∧ lf n s ∣ n := by
  unfold lf
  split
  · rename_i h
    exact ⟨by decide, Int.dvd_of_emod_eq_zero h.2⟩
  · have o := or_self (s := s) (by omega)
    rcases lfS_is n (Builtin.bitOr s 1) (Builtin.Range.rangeSize (Builtin.bitOr s 1) (rt n) 2).toNat with e | ⟨i, hi, e, m⟩
    · rw [e]
      exact ⟨n2, Int.dvd_refl n⟩
    · rw [e]
      exact ⟨by omega, Int.dvd_of_emod_eq_zero m⟩
/-- what is found, from what is found so far, the rest and the factor -/
def pps : Nat → List (L2.Key × V) → Int → Int → List (L2.Key × V)
  | 0, acc, _, _ => acc
  | k + 1, acc, r, f => if 1 < r then pps k (putK acc (.inl (lf r f)) (.int (ex (lf r f) r))) (r / lf r f ^ ex (lf r f) r) (lf r f) else acc
def ppd (n : Int) : List (L2.Key × V) := pps 40 [] n 2
theorem pps_end {k : Nat} {acc : List (L2.Key × V)} {r f : Int} (h : ¬ 1 < r) : pps k acc r f = acc := by
  cases k with
  | zero => rfl
  | succ k => unfold pps; rw [if_neg h]
theorem putK_len (acc : List (L2.Key × V)) (k : L2.Key) (v : V) : (putK acc k v).length ≤ acc.length + 1 := by
  unfold putK
  split
  · rw [List.length_map]; omega
  · rw [List.length_append]; exact Nat.le_refl _

section
variable {P : Program} {w : World} {K : PySem.W.Frag} {mg : Str → Option Value} {base : Heap}
abbrev sDv : Stmt := top 20
abbrev sPp : Stmt := top 21
abbrev sFct : Stmt := top 22
def spFct : Sp := fun vs H Q _ => ∃ i : Int, vs = [.int i] ∧ 1 ≤ i ∧ i ≤ 1000000000 ∧ Q .non H
theorem scFct : FnScope ["number"] ["number"] (defScope sFct) := ⟨rfl, rfl, rfl, by decide +kernel, rfl, by decide +kernel, by decide +kernel⟩
theorem ok_fct {f : Addr} {fd : FuncData} (F : Fun K "_check_factored" "_check_factored" sFct f fd) (N : NN mg) (S : HIsI P w K mg base) : FnOk P w K mg base CX0 3 f fd ["number"] spFct := by
  obtain ⟨fS, dS, GS, mS, kS, bS⟩ := S
  obtain ⟨tk, hM⟩ := N.mf
  refine F.ok scFct (fun vs H Q E h => ?_) (fun cdv A outer s H vs Q E hr h => ?_)
  · obtain ⟨y, rfl, _⟩ := h
    rfl
  · obtain ⟨i, rfl, i1, i9, k⟩ := h
    refine ⟨_, pss_cons (ps_if (PW.pt (pw_or (pt_not (pt_val (pe_call GS (hr.mono (by decide)) rfl mS kS bS .nil pass0 (pa_cons (pv 0) pa_nil)))) (pw_or1 (pt_cmpR op_lt (pv 0) pe_int (nomark _))))) pss_never pss_nil)
      (pss_one (ps_if (pt_cmpR op_gt (pv 0) (pe_glob rfl hM (show RelV (.int 1000000000) (.int 1000000000 tk) from ⟨_, rfl⟩)) (nomark _)) pss_never pss_nil)), ?_⟩
    refine ⟨_, rfl, i, rfl, _, rfl, itF (by rw [both (by unfold LONG; omega) (by unfold LONG; omega)]; rfl) ?_⟩
    refine ⟨_, rfl, _, _, rfl, rfl, _, rfl, itF (decide_eq_false (by omega)) ?_⟩
    exact ⟨_, rfl, _, _, rfl, rfl, _, rfl, itF (decide_eq_false (by omega)) k⟩
abbrev HFct (P : Program) (w : World) (K : PySem.W.Frag) (mg : Str → Option Value) (base : Heap) : Prop := Has P w K mg base "_check_factored" 3 ["number"] spFct
def spPp : Sp := fun vs H Q _ => ∃ i : Int, vs = [.int i] ∧ 1 ≤ i ∧ i ≤ 1000000000 ∧ ∀ p, H p = none → Q (.ref p) (upd H p (.dK (ppd i)))
theorem scPp : FnScope ["number", "found", "rest", "factor"] ["number"] (defScope sPp) := ⟨rfl, rfl, rfl, by decide +kernel, rfl, by decide +kernel, by decide +kernel⟩
theorem ok_pp {f : Addr} {fd : FuncData} (F : Fun K "prime_powers" "prime_powers" sPp f fd) (S : HFct P w K mg base) (L : HLf P w K mg base) (D : HTd P w K mg base) :
    FnOk P w K mg base CX0 5 f fd ["number"] spPp := by
  obtain ⟨fS, dS, GS, mS, kS, bS⟩ := S
  obtain ⟨fL, dL, GL, mL, kL, bL⟩ := L
  obtain ⟨fD, dD, GD, mD, kD, bD⟩ := D
  refine F.ok scPp (fun vs H Q E h => ?_) (fun cdv A outer s H vs Q E hr h => ?_)
  · obtain ⟨i, rfl, _⟩ := h
    rfl
  · obtain ⟨i, rfl, i1, i9, q3⟩ := h
    refine ⟨_, pss_cons (ps_expr (pe_call GS (hr.mono (by decide)) rfl mS kS bS .nil pass0 (pa_cons (pv 0) pa_nil)))
      (pss_cons (ps_set (i := 1) scPp.nd rfl (.inl rfl) pe_dnewK)
      (pss_cons (ps_par (i := 2) (j := 3) (by rfl) scPp.nd rfl rfl (by decide) rfl rfl (pa_cons (pv 0) (pa_cons pe_int pa_nil)) (by rfl))
      (pss_cons (ps_while PassesOwn.never (pt_cmpR op_gt (pv 2) pe_int (nomark _))
        (pss_cons (ps_set (i := 3) scPp.nd rfl (.inl rfl) (pe_call GL (hr.mono (by decide)) rfl mL kL bL .nil pass0 (pa_cons (pv 2) (pa_cons (pv 3) pa_nil))))
        (pss_cons (ps_dput (hu_of hr) (pv 1) (pv 3) (pe_call GD (hr.mono (by decide)) rfl mD kD bD .nil pass0 (pa_cons (pv 3) (pa_cons (pv 2) pa_nil))) rfl)
        (pss_one (ps_while PassesOwn.never (pt_cmpR op_eq (pe_op op_mod (pv 2) (pv 3)) pe_int (nomark _)) (pss_one (ps_set (i := 2) scPp.nd rfl (.inl rfl) (pe_op op_fdivW (pv 2) (pv 3)))))))))
      (pss_one (ps_ret (pv 1)))))), ?_⟩
    refine ⟨_, rfl, i, rfl, i1, i9, ?_⟩
    refine fun p hp => ?_
    refine ⟨_, rfl, _, _, rfl, ?_⟩
    refine while_by (fun σ H' => ∃ (acc : List (L2.Key × V)) (r f : Int) (k : Nat), σ = [some (.int i), some (.ref p), some (.int r), some (.int f)] ∧ H' = upd H p (.dK acc) ∧ 1 ≤ r ∧ r.natAbs < 2 ^ k ∧ acc.length + k ≤ 40 ∧ 2 ≤ f ∧ f < 2 ^ 40 ∧ pps k acc r f = ppd i)
      (fun σ _ => match σ with | [_, _, some (.int r), _] => r.natAbs | _ => 0) ?_ ?_ ?_
    · exact ⟨[], i, 2, 40, rfl, rfl, i1, Nat.lt_of_le_of_lt (show i.natAbs ≤ 1000000000 by omega) (by decide), by decide, by decide, by decide, rfl⟩
    · rintro σ H' ⟨acc, r, f, k, rfl, rfl, r0, rk, ak, f2, f3, e⟩
      refine ⟨_, rfl, _, _, rfl, rfl, _, rfl, ?_⟩
      by_cases c : 1 < r
      · refine itT (decide_eq_true c) ?_
        have k40 : 2 ^ k ≤ 2 ^ 40 := Nat.pow_le_pow_right (by decide) (by omega)
        have rb : r.natAbs < 2 ^ 40 := Nat.lt_of_lt_of_le rk k40
        have rb' : r < 2 ^ 40 := by omega
        refine ⟨_, rfl, _, rfl, r, f, rfl, by omega, rb', f2, f3, ?_⟩
        obtain ⟨g2, gd⟩ := lf_good (n := r) (s := f) (by omega) f2
        have gle : lf r f ≤ r := Int.le_of_dvd (by omega) gd
        cases k with
        | zero => exact absurd rk (by omega)
        | succ k =>
          unfold pps at e
          rw [if_pos c] at e
          generalize lf r f = g at *
          refine ⟨_, rfl, _, rfl, g, r, rfl, g2, Nat.lt_of_lt_of_le (show g.natAbs < 2 ^ 40 by omega) (by decide), by omega, fun t t1 t2 => ?_⟩
          have et := ex_is g2 (by omega) rb t1 t2
          subst et
          refine ⟨_, rfl, _, rfl, p, _, rfl, DPut.k (k := Sum.inl g) upd_same (Nat.lt_of_le_of_lt (show acc.length ≤ 40 by omega) (by decide)), ?_⟩
          rw [upd_upd]
          refine while_by (fun σ H' => ∃ (j : Nat) (x : Int), σ = [some (.int i), some (.ref p), some (.int x), some (.int g)] ∧ H' = upd H p (.dK (putK acc (Sum.inl g) (.int (ex g r)))) ∧ x ≠ 0 ∧ x * g ^ j = r ∧ (j = 0 → x = r))
            (fun σ _ => match σ with | [_, _, some (.int x), _] => x.natAbs | _ => 0) ?_ ?_ ?_
          · exact ⟨0, r, rfl, rfl, by omega, by simp, fun _ => rfl⟩
          · rintro σ H' ⟨j, x, rfl, rfl, x0, xe, _⟩
            refine ⟨_, rfl, _, rfl, x, g, rfl, rfl, (by show 0 < g; omega), rfl, _, rfl, ?_⟩
            by_cases d : x % g = 0
            · refine itT (decide_eq_true (show V.int (x % g) = V.int 0 by rw [d])) ?_
              refine ⟨_, rfl, _, rfl, x, g, rfl, rfl, wide_div (b := 200) (by omega) (Nat.lt_of_lt_of_le (show g.natAbs < 2 ^ 40 by omega) (by decide)) (by decide) (by decide), ⟨j + 1, x / g, rfl, rfl, ?_, pow_dvd_step xe d (by omega), fun z => nomatch z⟩, ?_⟩
              · intro z
                have := Int.ediv_mul_cancel (Int.dvd_of_emod_eq_zero d)
                rw [z, Int.zero_mul] at this
                exact x0 this.symm
              · exact abs_div_lt g2 x0 d
            · refine itF (decide_eq_false (fun z => d (V.int.inj z))) ?_
              obtain ⟨a1, a2⟩ := pow_dvd_end xe d (by omega)
              have ej := ex_is g2 (by omega) rb a1 a2
              subst ej
              have gp : g ^ ex g r ≠ 0 := Int.pow_ne_zero (by omega)
              have ex1 : x = r / g ^ ex g r := (Int.ediv_eq_of_eq_mul_left gp xe.symm).symm
              have pos1 : ex g r ≠ 0 := fun z => by
                apply t2
                rw [z, Int.pow_one]
                exact gd
              have gpos : 0 < g ^ ex g r := Int.pow_pos (by omega)
              have x1 : 1 ≤ x := by
                rcases Int.lt_or_le 0 x with h | h
                · omega
                · have : x * g ^ ex g r ≤ 0 := Int.mul_nonpos_of_nonpos_of_nonneg h (by omega)
                  omega
              have gge : 2 ≤ g ^ ex g r := by
                obtain ⟨m, hm⟩ : ∃ m, ex g r = m + 1 := ⟨ex g r - 1, by omega⟩
                rw [hm, Int.pow_succ]
                have : 1 ≤ g ^ m := by
                  have := Int.pow_pos (m := m) (show 0 < g by omega)
                  omega
                have : 1 * g ≤ g ^ m * g := Int.mul_le_mul_of_nonneg_right this (by omega)
                omega
              have xr : x * 2 ≤ r := by
                rw [← xe]
                exact Int.mul_le_mul_of_nonneg_left gge (by omega)
              refine ⟨⟨_, x, g, k, rfl, rfl, x1, ?_, ?_, g2, by omega, ?_⟩, ?_⟩
              · rw [Nat.pow_succ] at rk
                omega
              · have := putK_len acc (Sum.inl g) (.int (ex g r))
                omega
              · rw [ex1]
                exact e
              · show x.natAbs < r.natAbs
                omega
          · rintro σ H' Q1 Q2 hq ⟨v, e1, v2, e2, i, j, a1, a2, a3, a4, q⟩
            obtain ⟨b', e3, q2⟩ := q
            exact ⟨v, e1, v2, e2, i, j, a1, a2, a3, a4, b', e3, hq _ _ q2⟩
      · refine itF (decide_eq_false c) ?_
        rw [pps_end c] at e
        subst e
        exact ⟨_, rfl, q3 p hp⟩
    · rintro σ H' Q1 Q2 hq ⟨v, e1, a, b, e2, e3, b', e4, q⟩
      exact ⟨v, e1, a, b, e2, e3, b', e4, hq _ _ q⟩

abbrev HPp (P : Program) (w : World) (K : PySem.W.Frag) (mg : Str → Option Value) (base : Heap) : Prop := Has P w K mg base "prime_powers" 5 ["number"] spPp
end
def fstep (acc : List Int) (z : Int × Nat) : List Int := acc.flatMap fun d => (List.range (z.2 + 1)).map fun j => d * z.1 ^ j
def dvs (prs : List (Int × Nat)) : List Int := prs.foldl fstep [1]
def kvOf (z : Int × Nat) : L2.Key × V := (Sum.inl z.1, .int (z.2 : Int))
theorem dvs_take {prs : List (Int × Nat)} {i : Nat} {z : Int × Nat} (h : prs[i]? = some z) : dvs (prs.take (i + 1)) = fstep (dvs (prs.take i)) z := by
  unfold dvs
  rw [List.take_add_one, h, List.foldl_append]
  rfl
/-- what divisors asks of the pairs -/
structure PrOk (prs : List (Int × Nat)) : Prop where
  pos : ∀ z ∈ prs, 1 ≤ z.1 ∧ z.1 ≤ 1000000000 ∧ z.2 < 1000 ∧ z.1 ^ z.2 ≤ 1000000000
  len : ∀ i, (dvs (prs.take i)).length < 1000000
theorem pow_le_of {g : Int} {j e : Nat} (g1 : 1 ≤ g) (h : j ≤ e) : 1 ≤ g ^ j ∧ g ^ j ≤ g ^ e := by
  have p : ∀ k : Nat, 1 ≤ g ^ k := fun k => by have := Int.pow_pos (m := k) (show 0 < g by omega); omega
  obtain ⟨m, rfl⟩ := Nat.le.dest h
  refine ⟨p j, ?_⟩
  rw [Int.pow_add]
  have : g ^ j * 1 ≤ g ^ j * g ^ m := Int.mul_le_mul_of_nonneg_left (p m) (by have := p j; omega)
  omega
theorem fl_take {acc : List Int} {z : Int × Nat} {i : Nat} {d : Int} (h : acc[i]? = some d) : (acc.take (i + 1)).flatMap (fun d => (List.range (z.2 + 1)).map fun j => d * z.1 ^ j) = (acc.take i).flatMap (fun d => (List.range (z.2 + 1)).map fun j => d * z.1 ^ j) ++ (List.range (z.2 + 1)).map fun j => d * z.1 ^ j := by
  rw [List.take_add_one, h, List.flatMap_append]
  simp
theorem fl_len {z : Int × Nat} : ∀ acc : List Int, (acc.flatMap (fun d => (List.range (z.2 + 1)).map fun j => d * z.1 ^ j)).length = acc.length * (z.2 + 1)
  | [] => by simp
  | d :: r => by rw [List.flatMap_cons, List.length_append, fl_len r, List.length_map, List.length_range, List.length_cons, Nat.add_mul, Nat.one_mul, Nat.add_comm]

theorem snoc_map (A : List Int) (f : Nat → Int) (j : Nat) : (A ++ (List.range j).map f).map V.int ++ [V.int (f j)] = (A ++ (List.range (j + 1)).map f).map V.int := by
  rw [List.range_succ]; simp

section
variable {P : Program} {w : World} {K : PySem.W.Frag} {mg : Str → Option Value} {base : Heap}
def spDvG : Sp := fun vs H Q _ => ∃ (i : Int) (prs : List (Int × Nat)), vs = [.int i] ∧ 1 ≤ i ∧ i ≤ 1000000000 ∧ ppd i = prs.map kvOf ∧ PrOk prs ∧
    ∀ (H' : Hp) (t : Addr) (ns : List Int), Same H H' → ns.Perm (dvs prs) → ns.Pairwise (· ≤ ·) → H' t = some (.tup (ns.map V.int)) → Q (.ref t) H'
abbrev nDv : List Str := ["number", "found", "prime", "exponent", "powers", "_", "divisor", "power"]
theorem scDv : FnScope nDv ["number"] (defScope sDv) := ⟨rfl, rfl, rfl, by decide +kernel, rfl, by decide +kernel, by decide +kernel⟩
theorem ok_dv {f : Addr} {fd : FuncData} (F : Fun K "divisors" "divisors" sDv f fd) (S : HPp P w K mg base) (mR : mg "range" = none) (mT : mg "tuple" = none) (mS : mg "sorted" = none) :
    FnOk P w K mg base CX0 6 f fd ["number"] spDvG := by
  obtain ⟨fP, dP, GP, mP, kP, bP⟩ := S
  refine F.ok scDv (fun vs H Q E h => ?_) (fun cdv A outer s H vs Q E hr h => ?_)
  · obtain ⟨i0, prs, rfl, _⟩ := h
    rfl
  · obtain ⟨i0, prs, rfl, i1, i9, ep, ok, k⟩ := h
    refine ⟨_, pss_cons (ps_set (i := 1) scDv.nd rfl (.inl rfl) (pe_lst (pa_cons pe_int pa_nil)))
      (pss_cons (ps_for PassesOwn.never rfl (pi_itemsN (pe_call GP hr rfl mP kP bP .nil pass0 (pa_cons (pv 0) pa_nil))) (pg_tup rfl (pgs_cons (pg_name (i := 2) scDv.nd rfl (.inl rfl)) (pgs_cons (pg_name (i := 3) scDv.nd rfl (.inl rfl)) pgs_nil)))
        (pss_cons (ps_set (i := 4) scDv.nd rfl (.inr rfl) (pe_lst (pa_cons pe_int pa_nil)))
        (pss_cons (ps_for PassesOwn.never rfl (pi_range1 rfl mR (pa_cons (pv 3) pa_nil)) (pg_name (i := 5) scDv.nd rfl (.inl rfl))
          (pss_one (ps_expr (pe_bm PySem.F.plainAttrs_list PySem.F.slot_list_append PySem.F.type_list_append mt_append (pv 4) (pa_cons (pe_op op_mul (pe_ix ix_list (pv 4) (pe_un un_neg pe_int) (fun _ _ => rfl)) (pv 2)) pa_nil)))))
        (pss_one (ps_setLc2 (i := 1) (own := [("divisor", 6), ("power", 7)]) (vs1 := [7]) (g := gName 6) (tt := tYes) (g1 := gName 7) (tt1 := tYes) (wi1 := iList K (tVar 4)) rfl scDv.nd rfl rfl (sw_true rfl rfl rfl (by decide +kernel)) (pi_list (pv 1)) (blkOk_by (N := nDv) (sc := defScope sDv) (by decide +kernel)) (by decide)
          (fun _ _ _ _ _ => pg_name (i := 6) scDv.nd rfl (.inl rfl)) (fun _ _ _ _ _ => pts_nil) (fun _ _ _ _ _ => pi_list (pv 4)) (fun _ _ _ _ _ => pg_name (i := 7) scDv.nd rfl (.inl rfl)) (fun _ _ _ _ _ => pts_nil) (fun _ _ _ _ _ => pe_op op_mul (pv 6) (pv 7)))))))
      (pss_one (ps_ret (pe_callTy call_tuple_of (by rfl) mT (by decide +kernel) (pa_cons (pe_callB cr_sortedI (by rfl) mS (by decide +kernel) (pa_cons (pv 1) pa_nil)) pa_nil))))), ?_⟩
    refine ⟨(by show 1 ≤ sizeLine; decide), fun l1 n1 => ?_⟩
    refine ⟨_, rfl, ?_⟩
    refine ⟨i0, rfl, i1, i9, fun p np => ?_⟩
    rw [ep]
    refine ⟨p, _, rfl, upd_same, fun od => ?_⟩
    rw [upd_upd]
    have nlp : l1 ≠ p := fun z => by rw [← z, upd_same] at np; cases np
    have s02 : Same H (upd (upd H l1 (.lst [V.int 1])) p (.frz od (.dK (prs.map kvOf)))) := Same.tr (same_new n1) (same_new np)
    have h2l : (upd (upd H l1 (.lst [V.int 1])) p (.frz od (.dK (prs.map kvOf)))) l1 = some (.lst [V.int 1]) := by rw [upd_ne nlp, upd_same]
    have h2p : (upd (upd H l1 (.lst [V.int 1])) p (.frz od (.dK (prs.map kvOf)))) p = some (.frz od (.dK (prs.map kvOf))) := upd_same
    generalize upd (upd H l1 (.lst [V.int 1])) p (.frz od (.dK (prs.map kvOf))) = H2 at *
    refine for_it walk_items (fun i σ H' => ∃ (a : Addr) (u2 u3 u4 u5 : Option V), σ = [some (.int i0), some (.ref a), u2, u3, u4, u5, none, none] ∧ Same H2 H' ∧ H' a = some (.lst ((dvs (prs.take i)).map V.int))) ?_ ?_ ?_ ?_
    · exact ⟨l1, none, none, none, none, rfl, same_refl H2, h2l⟩
    · rintro i σ H' _ ⟨a, u2, u3, u4, u5, rfl, sm, ha⟩
      exact sm _ _ h2p
    · rintro i x σ H' H'' hi ⟨a, u2, u3, u4, u5, rfl, sm, ha⟩ ⟨T, kx, vx, rfl, nT, rfl, ek, ev⟩
      rw [List.length_map] at hi
      obtain ⟨z, hz⟩ : ∃ z, prs[i]? = some z := ⟨prs[i], List.getElem?_eq_getElem hi⟩
      have hzm : z ∈ prs := List.mem_of_getElem? hz
      obtain ⟨z1, z9, ze, zp⟩ := ok.pos z hzm
      dsimp only at ek ev
      rw [List.getElem?_map, hz] at ek ev
      cases ek
      cases ev
      have naT : a ≠ T := ne_of_none ha nT
      refine ⟨T, _, rfl, .inl (.inl upd_same), rfl, _, _, rfl, _, _, rfl, rfl, ?_⟩
      refine ⟨(by show 1 ≤ sizeLine; decide), fun q nq => ?_⟩
      have sq : Same H' (upd H' T (.tup [kV (kvOf z).1, (kvOf z).2])) := same_new nT
      generalize upd H' T (.tup [kV (kvOf z).1, (kvOf z).2]) = Hq at *
      have haq : Hq a = some (.lst ((dvs (prs.take i)).map V.int)) := sq _ _ ha
      have naq : a ≠ q := ne_of_none haq nq
      refine ⟨_, rfl, (z.2 : Int), rfl, by omega, by omega, for_range (fun j σ H3 => ∃ u5 : Option V, σ = [some (.int i0), some (.ref a), some (.int z.1), some (.int (z.2 : Int)), some (.ref q), u5, none, none] ∧ H3 = upd Hq q (.lst ((List.range (j + 1)).map fun m => V.int (z.1 ^ m)))) ⟨_, rfl, ?_⟩ ?_ ?_⟩
      · show upd Hq q (.lst [V.int 1]) = upd Hq q (.lst [V.int (z.1 ^ 0)])
        rw [Int.pow_zero]
      · rintro j σ H3 hj ⟨u5, rfl, rfl⟩
        have hj' : j < z.2 := by omega
        obtain ⟨pw1, pw2⟩ := pow_le_of (j := j) (e := z.2) z1 (by omega)
        refine ⟨_, rfl, .inl ⟨rfl, _, SqL.of upd_same⟩, ?_⟩
        refine ⟨_, rfl, _, rfl, q, _, -1, _, rfl, rfl, SqL.of upd_same, atI_last (n := j) (by rw [List.length_map, List.length_range]) (rangeV (j + 1) (fun m => z.1 ^ m) j (by omega)), ?_⟩
        refine ⟨_, rfl, _, _, rfl, rfl, .inl ⟨by omega, by omega⟩, ?_⟩
        refine ⟨q, _, _, rfl, rfl, upd_same, ?_, _, rfl, ?_⟩
        · rw [List.length_map, List.length_range]
          exact Nat.lt_of_le_of_lt (show j + 1 ≤ 1000 by omega) (by decide)
        · rw [upd_upd, List.range_succ (n := j + 1), List.map_append]
          show upd Hq q (.lst (_ ++ [V.int (z.1 ^ j * z.1)])) = upd Hq q (.lst (_ ++ [V.int (z.1 ^ (j + 1))]))
          rw [Int.pow_succ]
      · rintro σ H3 ⟨u5, rfl, rfl⟩
        rw [Int.toNat_natCast]
        have h3a : (upd Hq q (.lst ((List.range (z.2 + 1)).map fun m => V.int (z.1 ^ m)))) a = some (.lst ((dvs (prs.take i)).map V.int)) := by rw [upd_ne naq]; exact haq
        have h3q : (upd Hq q (.lst ((List.range (z.2 + 1)).map fun m => V.int (z.1 ^ m)))) q = some (.lst ((List.range (z.2 + 1)).map fun m => V.int (z.1 ^ m))) := upd_same
        have s3 : Same H2 (upd Hq q (.lst ((List.range (z.2 + 1)).map fun m => V.int (z.1 ^ m)))) := Same.tr sm (Same.tr sq (same_new nq))
        generalize upd Hq q (.lst ((List.range (z.2 + 1)).map fun m => V.int (z.1 ^ m))) = H3 at *
        refine ⟨_, rfl, a, rfl, ⟨_, SqL.of h3a⟩, fun D nD => ?_⟩
        have naD : a ≠ D := ne_of_none h3a nD
        have nqD : q ≠ D := ne_of_none h3q nD
        refine turns (walk_list (xs := (dvs (prs.take i)).map V.int)) (fun i' H4 => H4 = upd H3 D (.lst ((((dvs (prs.take i)).take i').flatMap (fun d => (List.range (z.2 + 1)).map fun j => d * z.1 ^ j)).map V.int))) (by simp) ?_ ?_ ?_
        · rintro i' H4 _ rfl
          exact SqL.of (by rw [upd_ne naD]; exact h3a)
        · rintro i' x H4 H5 hi' rfl ⟨rfl, hx⟩
          rw [List.length_map] at hi'
          obtain ⟨d, hd⟩ : ∃ d, (dvs (prs.take i))[i']? = some d := ⟨(dvs (prs.take i))[i'], List.getElem?_eq_getElem hi'⟩
          rw [List.getElem?_map, hd] at hx
          cases hx
          refine ⟨rfl, ?_⟩
          refine ⟨_, rfl, q, rfl, ⟨_, SqL.of (by rw [upd_ne nqD]; exact h3q)⟩, ?_⟩
          refine turns (walk_list (xs := (List.range (z.2 + 1)).map fun m => V.int (z.1 ^ m))) (fun j H4 => H4 = upd H3 D (.lst ((((dvs (prs.take i)).take i').flatMap (fun d => (List.range (z.2 + 1)).map fun j => d * z.1 ^ j) ++ (List.range j).map fun j => d * z.1 ^ j).map V.int))) (by simp) ?_ ?_ ?_
          · rintro j H4 _ rfl
            exact SqL.of (by rw [upd_ne nqD]; exact h3q)
          · rintro j x H4 H5 hj rfl ⟨rfl, hx⟩
            rw [List.length_map, List.length_range] at hj
            rw [rangeV (z.2 + 1) (fun m => z.1 ^ m) j hj] at hx
            cases hx
            obtain ⟨pw1, pw2⟩ := pow_le_of (j := j) (e := z.2) z1 (by omega)
            refine ⟨rfl, ⟨_, rfl, _, rfl, _, _, rfl, rfl, .inr ⟨by omega, by omega⟩, _, upd_same, ?_, ?_⟩⟩
            · have l1 := ok.len (i + 1)
              rw [dvs_take hz] at l1
              unfold fstep at l1
              rw [fl_len] at l1
              rw [List.length_map, List.length_append, fl_len, List.length_take, List.length_map, List.length_range, Nat.min_eq_left (by omega)]
              have : (i' + 1) * (z.2 + 1) ≤ (dvs (prs.take i)).length * (z.2 + 1) := Nat.mul_le_mul_right _ (by omega)
              rw [Nat.add_mul, Nat.one_mul] at this
              exact Nat.lt_of_lt_of_le (show i' * (z.2 + 1) + j < 1000000 by omega) (by decide)
            · show upd (upd H3 D (.lst (((((dvs (prs.take i)).take i').flatMap (fun d => (List.range (z.2 + 1)).map fun j => d * z.1 ^ j)) ++ (List.range j).map fun j => d * z.1 ^ j).map V.int))) D (.lst (_ ++ [V.int (d * z.1 ^ j)])) = upd H3 D (.lst (((((dvs (prs.take i)).take i').flatMap (fun d => (List.range (z.2 + 1)).map fun j => d * z.1 ^ j)) ++ (List.range (j + 1)).map fun j => d * z.1 ^ j).map V.int))
              rw [upd_upd, ← snoc_map _ (fun j => d * z.1 ^ j) j]
          · rintro H4 rfl
            rw [List.length_map, List.length_range, fl_take hd]
        · rintro H4 rfl
          rw [List.length_map, List.take_length]
          refine ⟨D, _, _, _, _, rfl, Same.tr s3 (same_new nD), ?_⟩
          rw [upd_same, dvs_take hz]
          rfl
    · rintro σ H' ⟨a, u2, u3, u4, u5, rfl, sm, ha⟩
      rw [List.length_map, List.take_length] at ha
      exact ⟨_, rfl, a, dvs prs, rfl, SqL.of ha, fun ns p2 pe so np2 => ⟨p2, _, rfl, .inl ⟨SqL.of upd_same, fun t nt => k _ t ns (Same.tr s02 (Same.tr sm (Same.tr (same_new np2) (same_new nt)))) pe so upd_same⟩⟩⟩

/-! the divisors of n, from 1 to m -/
def dl (n : Nat) : Nat → List Nat
  | 0 => []
  | m + 1 => dl n m ++ (if n % (m + 1) = 0 then [m + 1] else [])
abbrev dv (n : Nat) : List Nat := dl n n
def prOf (n : Nat) : List (Int × Nat) := (ppd (n : Int)).map fun kv => ((match kv.1 with | .inl i => i | .inr _ => 0), (match kv.2 with | .int e => e.toNat | _ => 0))
def nats (l : List Nat) : List Int := l.map fun (d : Nat) => (d : Int)
theorem dv_checks0 : ((List.range 25).all fun (n : Nat) => n == 0 || (decide (ppd (n : Int) = (prOf n).map kvOf) && (((prOf n).all fun z => decide (1 ≤ z.1 ∧ z.1 ≤ 1000000000 ∧ z.2 < 1000 ∧ z.1 ^ z.2 ≤ 1000000000)) && (((List.range 20).all fun i => decide ((dvs ((prOf n).take i)).length < 1000000)) && (decide ((prOf n).length ≤ 19) &&
    (nats (dv n)).isPerm (dvs (prOf n))))))) = true := by decide +kernel
theorem dv_checks (n : Nat) (h : n < 25) (h0 : 0 < n) : ppd (n : Int) = (prOf n).map kvOf ∧ ((prOf n).all fun z => decide (1 ≤ z.1 ∧ z.1 ≤ 1000000000 ∧ z.2 < 1000 ∧ z.1 ^ z.2 ≤ 1000000000)) = true ∧ ((List.range 20).all fun i => decide ((dvs ((prOf n).take i)).length < 1000000)) = true ∧ (prOf n).length ≤ 19 ∧
    (nats (dv n)).isPerm (dvs (prOf n)) = true := by
  have z := List.all_eq_true.mp dv_checks0 n (List.mem_range.mpr h)
  rw [Bool.or_eq_true] at z
  have z := z.resolve_left (by simpa using (show n ≠ 0 by omega))
  rw [Bool.and_eq_true, Bool.and_eq_true, Bool.and_eq_true, Bool.and_eq_true] at z
  exact ⟨of_decide_eq_true z.1, z.2.1, z.2.2.1, of_decide_eq_true z.2.2.2.1, z.2.2.2.2⟩
theorem dl_le (n : Nat) : ∀ m, ∀ d ∈ dl n m, 1 ≤ d ∧ d ≤ m ∧ n % d = 0
  | 0 => fun d h => nomatch h
  | m + 1 => fun d h => by
    rcases List.mem_append.mp h with h | h
    · have := dl_le n m d h
      omega
    · split at h
      · rename_i z
        rw [List.mem_singleton.mp h]
        exact ⟨by omega, by omega, z⟩
      · cases h
theorem dl_sorted (n : Nat) : ∀ m, (dl n m).Pairwise (· < ·)
  | 0 => List.Pairwise.nil
  | m + 1 => by
    unfold dl
    rw [List.pairwise_append]
    refine ⟨dl_sorted n m, ?_, fun a ha b hb => ?_⟩
    · split
      · exact List.pairwise_singleton _ _
      · exact List.Pairwise.nil
    · split at hb
      · rw [List.mem_singleton.mp hb]
        have := dl_le n m a ha
        omega
      · cases hb
theorem perm_sorted_eq : ∀ {a b : List Int}, a.Perm b → a.Pairwise (· ≤ ·) → b.Pairwise (· ≤ ·) → a = b := fun p ha hb => List.Perm.eq_of_pairwise (fun x y _ _ h1 h2 => Int.le_antisymm h1 h2) ha hb p
theorem sum_dl (n : Nat) (f : Nat → Int) : ∀ m, ((dl n m).map f).sum = C68.S m fun d => if n % d = 0 then f d else 0
  | 0 => rfl
  | m + 1 => by
    unfold dl C68.S
    rw [List.map_append, List.sum_append, sum_dl n f m]
    congr 1
    by_cases z : n % (m + 1) = 0
    · simp [z]
    · simp [z]
def spDv : Sp := fun vs H Q _ => ∃ n : Nat, vs = [.int n] ∧ 1 ≤ n ∧ n ≤ 24 ∧ ∀ (H' : Hp) (t : Addr), Same H H' → H' t = some (.tup ((nats (dv n)).map V.int)) → Q (.ref t) H'
theorem ok_dvs {f : Addr} {fd : FuncData} (G : FnOk P w K mg base CX0 6 f fd ["number"] spDvG) : FnOk P w K mg base CX0 6 f fd ["number"] spDv := by
  refine G.imp ?_
  rintro vs H Q E ⟨n, rfl, n1, n24, k⟩
  obtain ⟨c1, c2, c3, c4, c5⟩ := dv_checks n (by omega) n1
  refine ⟨n, prOf n, rfl, by omega, by omega, c1, ⟨fun z hz => of_decide_eq_true (List.all_eq_true.mp c2 z hz), fun i => ?_⟩, fun H' t ns s pe so ht => k H' t s ?_⟩
  · rcases Nat.lt_or_ge i 20 with h | h
    · exact of_decide_eq_true (List.all_eq_true.mp c3 i (List.mem_range.mpr h))
    · have := of_decide_eq_true (List.all_eq_true.mp c3 19 (List.mem_range.mpr (by decide)))
      rw [List.take_of_length_le c4] at this
      rw [List.take_of_length_le (by omega)]
      exact this
  · have e : ns = nats (dv n) := by
      refine perm_sorted_eq (pe.trans (List.isPerm_iff.mp c5).symm) so ?_
      unfold nats
      rw [List.pairwise_map]
      exact (dl_sorted n n).imp fun h => by omega
    rw [← e]; exact ht
end
end Lk

set_option Elab.async false
set_option linter.all false
set_option maxRecDepth 100000
set_option maxHeartbeats 4000000
set_option exponentiation.threshold 1000000
namespace Lk
open PySem L2
/-- a tuple of coordinates as a function from 1 on -/
def cf (cs : List Int) (d : Nat) : Int := cs.getD (d - 1) 0
theorem cf_at {cs : List Int} {d : Nat} (d1 : 1 ≤ d) (dl : d ≤ cs.length) : cs[d - 1]? = some (cf cs d) := by
  unfold cf
  rw [List.getD_eq_getElem?_getD, List.getElem?_eq_getElem (show d - 1 < cs.length by omega)]
  rfl
def psum (cs : List Int) (n : Nat) (ds : List Nat) : Int := (ds.map fun (d : Nat) => (d : Int) * cf cs d ^ (n / d)).sum
abbrev Sm (x : Int) : Prop := x.natAbs < 2 ^ 30000
theorem cf_sm {cs : List Int} (h : ∀ c ∈ cs, Sm c) (d : Nat) : Sm (cf cs d) := by
  unfold cf
  rw [List.getD_eq_getElem?_getD]
  cases e : cs[d - 1]? with
  | none => exact Nat.pow_pos (by decide)
  | some x => exact h x (List.mem_of_getElem? e)
def gsOf (cs : List Int) (N : Nat) : List Int := (List.range N).map fun i => C68.gh (cf cs) (i + 1)
section
variable {P : Program} {w : World} {K : PySem.W.Frag} {mg : Str → Option Value} {base : Heap} {C : Addr}
abbrev sIn (j : Nat) : Stmt := inClass (top 30) j
abbrev sCi : Stmt := top 31
abbrev sAi : Stmt := top 32
abbrev sCw : Stmt := top 33
abbrev sMw : Stmt := top 34
abbrev sGh : Stmt := top 35
abbrev sCo : Stmt := top 36
abbrev sPs : Stmt := top 37
abbrev HDv (P : Program) (w : World) (K : PySem.W.Frag) (mg : Str → Option Value) (base : Heap) : Prop := Has P w K mg base "divisors" 6 ["number"] spDv
/-! _power_sum -/
def spPs (K : PySem.W.Frag) : Sp := fun vs H Q _ => ∃ (a t : Addr) (cs : List Int) (n : Nat) (ds : List Nat), vs = [.ref a, .int n, .ref t] ∧ Sq K H a (cs.map V.int) ∧ SqT K H t ((nats ds).map V.int) ∧ ds.length ≤ 24 ∧ (∀ d ∈ ds, 1 ≤ d ∧ d ≤ cs.length ∧ d ≤ n) ∧ 1 ≤ n ∧ n ≤ 24 ∧ (∀ c ∈ cs, Sm c) ∧
  ∀ H', Same H H' → Q (.int (psum cs n ds)) H'
abbrev nPs : List Str := ["coordinates", "n", "places", "d"]
theorem scPs : FnScope nPs ["coordinates", "n", "places"] (defScope sPs) := ⟨rfl, rfl, rfl, by decide +kernel, rfl, by decide +kernel, by decide +kernel⟩
theorem ok_ps {f : Addr} {fd : FuncData} (F : Fun K "_power_sum" "_power_sum" sPs f fd) (N : NN mg) (Po : HPo P w K mg base) : FnOk P w K mg base CX0 3 f fd ["coordinates", "n", "places"] (spPs K) := by
  obtain ⟨fPo, dPo, GPo, mPo, kPo, bPo⟩ := Po
  refine F.ok scPs (fun vs H Q E h => ?_) (fun cdv A outer s H vs Q E hr h => ?_)
  · obtain ⟨a, t, cs, n, ds, rfl, _⟩ := h
    rfl
  · obtain ⟨a, t, cs, n, ds, rfl, ha, ht, l24, hd, n1, n24, bs, k⟩ := h
    refine ⟨_, pss_one (ps_ret (pe_callB (cr_sum rfl) (by rfl) N.sum (by decide +kernel) (pa_cons (pe_lc (own := [("d", 3)]) (g := gName 3) (tt := tYes) rfl scPs.nd (pi_tup (pv 2)) (blkOk_by (own := [("d", 3)]) (N := nPs) (sc := defScope sPs) (by decide +kernel)) (fun _ _ _ _ _ => (pg_name (i := 3) scPs.nd rfl (.inl rfl))) (fun _ _ _ _ _ => pts_nil) (fun _ _ _ _ _ => (pe_op op_mulW (pv 3) (pe_call GPo (hr.mono (by decide)) rfl mPo kPo bPo .nil pass0 (pa_cons (pe_ix (r := rIxSq K) ix_sq (pv 0) (pe_op op_sub (pv 3) pe_int) (fun _ _ => rfl)) (pa_cons (pe_op op_fdivN (pv 1) (pv 3)) pa_nil)))))) pa_nil))), ?_⟩
    refine ⟨_, rfl, t, rfl, ⟨_, ht⟩, fun D hD => ?_⟩
    refine lc_tup (xs := (nats ds).map V.int) (Acc H D fun i => (((ds.take i).map fun (d : Nat) => (d : Int) * cf cs d ^ (n / d))).map V.int) (Acc.zero hD rfl) ?_ ?_ ?_
    · intro i H2 _ b
      exact sqT_same b.1 ht
    · intro i v H2 hv b
      unfold nats at hv
      rw [List.map_map, List.getElem?_map] at hv
      obtain ⟨d, hd0, ev⟩ := Option.map_eq_some_iff.mp hv
      have ev : v = V.int (d : Int) := ev.symm
      subst ev
      obtain ⟨d1, dl, dn⟩ := hd d (List.mem_of_getElem? hd0)
      have il : i < ds.length := (List.getElem?_eq_some_iff.mp hd0).1
      have e1 : ((d : Nat) : Int) - 1 = ((d - 1 : Nat) : Int) := by omega
      have nd : n / d ≤ 24 := Nat.le_trans (Nat.div_le_self n d) n24
      refine ⟨rfl, ?_⟩
      refine ⟨_, rfl, _, rfl, _, rfl, _, _, rfl, rfl, a, cs.map V.int, _, _, rfl, rfl, sq_same b.1 ha, (by rw [e1]; exact atI_nat (by rw [List.getElem?_map, cf_at d1 dl]; rfl)), ?_⟩
      refine ⟨_, rfl, _, rfl, _, _, rfl, rfl, ⟨by omega, by omega⟩, cf cs d, n / d, (by show [V.int (cf cs d), V.int ((n : Int).fdiv (d : Int))] = _; rw [fdiv_nat]), nd, cf_sm bs d, fun H3 s3 => ?_⟩
      have wd : Wd ((d : Nat) : Int) 6 := ⟨by show (d : Int).natAbs < 64; omega⟩
      have wp : Wd (cf cs d ^ (n / d)) 720001 := ⟨Nat.lt_of_lt_of_le (pow_wd (cf_sm bs d) (by decide) (n / d)) (Nat.pow_le_pow_right (by decide) (by omega))⟩
      refine ⟨_, _, rfl, rfl, mI, b.put hD s3 ?_ ?_⟩
      · rw [List.length_map, List.length_map, List.length_take]
        exact Nat.lt_of_le_of_lt (Nat.min_le_left _ _) (Nat.lt_of_lt_of_le (show i < 1000 by omega) (by decide))
      · rw [List.take_add_one, hd0, List.map_append, List.map_append]; rfl
    · intro H2 b
      have b2 := b.2
      rw [show ((nats ds).map V.int).length = ds.length by unfold nats; rw [List.length_map, List.length_map]] at b2
      have b2 : H2 D = some (.lst (((ds.take ds.length).map fun (d : Nat) => (d : Int) * cf cs d ^ (n / d)).map V.int)) := b2
      rw [List.take_length] at b2
      exact ⟨D, _, rfl, SqL.of b2, k H2 b.1⟩
abbrev HPs (P : Program) (w : World) (K : PySem.W.Frag) (mg : Str → Option Value) (base : Heap) : Prop := Has P w K mg base "_power_sum" 3 ["coordinates", "n", "places"] (spPs K)
theorem dl_len (n : Nat) : ∀ m, (dl n m).length ≤ m
  | 0 => Nat.le_refl 0
  | m + 1 => by
    have := dl_len n m
    unfold dl
    rw [List.length_append]
    split <;> simp <;> omega
theorem psum_dl (cs : List Int) (n m : Nat) : psum cs n (dl n m) = C68.S m (C68.tm (cf cs) n) := by
  unfold psum
  rw [sum_dl]
  rfl
theorem psum_gh (cs : List Int) {n : Nat} (n1 : 1 ≤ n) (n24 : n ≤ 24) : psum cs n (dv n) = C68.gh (cf cs) n := by
  rw [psum_dl, C68.gh_n n1 n24]
/-! _ghosts_of -/
def spGh (K : PySem.W.Frag) : Sp := fun vs H Q _ => ∃ (a : Addr) (cs : List Int), vs = [.ref a] ∧ SqT K H a (cs.map V.int) ∧ cs.length ≤ 24 ∧ (∀ c ∈ cs, Sm c) ∧
  ∀ H' t, Same H H' → H t = none → H' t = some (.tup ((gsOf cs cs.length).map V.int)) → Q (.ref t) H'
abbrev nGh : List Str := ["coordinates", "places", "n"]
theorem scGh : FnScope nGh ["coordinates"] (defScope sGh) := ⟨rfl, rfl, rfl, by decide +kernel, rfl, by decide +kernel, by decide +kernel⟩
theorem ok_gh {f : Addr} {fd : FuncData} (F : Fun K "_ghosts_of" "_ghosts_of" sGh f fd) (N : NN mg) (Ps : HPs P w K mg base) (Dv : HDv P w K mg base) : FnOk P w K mg base CX0 7 f fd ["coordinates"] (spGh K) := by
  obtain ⟨fPs, dPs, GPs, mPs, kPs, bPs⟩ := Ps
  obtain ⟨fDv, dDv, GDv, mDv, kDv, bDv⟩ := Dv
  refine F.ok scGh (fun vs H Q E h => ?_) (fun cdv A outer s H vs Q E hr h => ?_)
  · obtain ⟨a, cs, rfl, _⟩ := h
    rfl
  · obtain ⟨a, cs, rfl, ha, l24, bs, k⟩ := h
    refine ⟨_, pss_cons (ps_set (i := 1) scGh.nd rfl (.inl rfl) (pe_callTy cr_range2 (by rfl) N.range (by decide +kernel) (pa_cons pe_int (pa_cons (pe_op op_add (pe_callB call_len_seq (by rfl) N.len (by decide +kernel) (pa_cons (pv 0) pa_nil)) pe_int) pa_nil))))
      (pss_one (ps_ret (pe_callTy call_tuple_of (by rfl) N.tuple (by decide +kernel) (pa_cons (pe_lc (own := [("n", 2)]) (g := gName 2) (tt := tYes) rfl scGh.nd (pi_rng (pv 1)) (blkOk_by (own := [("n", 2)]) (N := nGh) (sc := defScope sGh) (by decide +kernel)) (fun _ _ _ _ _ => (pg_name (i := 2) scGh.nd rfl (.inl rfl))) (fun _ _ _ _ _ => pts_nil) (fun _ _ _ _ _ => (pe_call GPs (hr.mono (by decide)) rfl mPs kPs bPs .nil pass0 (pa_cons (pv 0) (pa_cons (pv 2) (pa_cons (pe_call GDv (hr.mono (by decide)) rfl mDv kDv bDv .nil pass0 (pa_cons (pv 2) pa_nil)) pa_nil)))))) pa_nil)))), ?_⟩
    refine ⟨_, rfl, a, _, rfl, .inr ha, _, _, rfl, rfl, _, _, rfl, fun pl npl => ?_⟩
    have e0 : (((cs.map V.int).length : Nat) : Int) + 1 = ((cs.length + 1 : Nat) : Int) := by rw [List.length_map]; rfl
    rw [e0]
    have S1 := same_new npl (o := .rng 1 ((cs.length + 1 : Nat) : Int))
    have epl : (upd H pl (.rng 1 ((cs.length + 1 : Nat) : Int))) pl = some (.rng 1 ((cs.length + 1 : Nat) : Int)) := upd_same
    generalize upd H pl (.rng 1 ((cs.length + 1 : Nat) : Int)) = H1 at *
    refine ⟨_, rfl, pl, 1, ((cs.length + 1 : Nat) : Int), rfl, epl, ⟨by decide, by decide, by omega, by omega⟩, fun D hD => ?_⟩
    have en : (((cs.length + 1 : Nat) : Int) - 1).toNat = cs.length := by omega
    rw [en]
    refine lc_range (lo := 1) (n := cs.length) (Acc H1 D fun i => (gsOf cs i).map V.int) (Acc.zero hD rfl) ?_ ?_
    · intro i H2 hi b
      have e1 : (1 : Int) + (i : Nat) = ((i + 1 : Nat) : Int) := by omega
      rw [e1]
      refine ⟨rfl, ?_⟩
      refine ⟨_, rfl, _, rfl, _, rfl, i + 1, rfl, by omega, by omega, fun H3 t s3 ht => ?_⟩
      refine ⟨a, t, cs, i + 1, dv (i + 1), rfl, .inr (sqT_same (Same.tr S1 (Same.tr b.1 s3)) ha), SqT.of ht, Nat.le_trans (dl_len _ _) (by omega), (fun d hd => ?_), by omega, by omega, bs, fun H4 s4 => ?_⟩
      · have := dl_le (i + 1) (i + 1) d hd
        omega
      · refine b.put hD (Same.tr s3 s4) ?_ ?_
        · unfold gsOf
          rw [List.length_map, List.length_map, List.length_range]
          exact Nat.lt_of_lt_of_le (show i < 1000 by omega) (by decide)
        · rw [psum_gh cs (by omega) (by omega)]
          unfold gsOf
          rw [List.range_succ, List.map_append, List.map_append]
          rfl
    · intro H2 b
      refine ⟨D, _, rfl, .inl ⟨SqL.of b.2, fun t nt => ?_⟩⟩
      exact k _ t (Same.tr S1 (Same.tr b.1 (same_new nt))) (none_of (Same.tr S1 b.1) nt) upd_same
abbrev HGh (P : Program) (w : World) (K : PySem.W.Frag) (mg : Str → Option Value) (base : Heap) : Prop := Has P w K mg base "_ghosts_of" 7 ["coordinates"] (spGh K)
/-! _coordinates_of -/
/-- es are whole coordinates of the ghosts gs -/
def Whl (gs es : List Int) : Prop := ∀ n, 1 ≤ n → n ≤ gs.length → C68.gh (cf es) n = cf gs n
def spCo (K : PySem.W.Frag) : Sp := fun vs H Q _ => ∃ (a : Addr) (gs es : List Int), vs = [.ref a] ∧ Sq K H a (gs.map V.int) ∧ gs.length = es.length ∧ gs.length ≤ 24 ∧ Whl gs es ∧ (∀ c ∈ es, Sm c) ∧
  ∀ H' t, Same H H' → H t = none → H' t = some (.tup (es.map V.int)) → Q (.ref t) H'
abbrev nCo : List Str := ["ghosts", "found", "n", "known"]
theorem scCo : FnScope nCo ["ghosts"] (defScope sCo) := ⟨rfl, rfl, rfl, by decide +kernel, rfl, by decide +kernel, by decide +kernel⟩
theorem cf_take {es : List Int} {i d : Nat} (d1 : 1 ≤ d) (h : d ≤ i) : cf (es.take i) d = cf es d := by
  unfold cf
  rw [List.getD_eq_getElem?_getD, List.getD_eq_getElem?_getD, List.getElem?_take_of_lt (by omega)]
theorem known {es : List Int} {i : Nat} : psum (es.take i) (i + 1) (dl (i + 1) i) = C68.kn (cf es) (i + 1) := by
  rw [psum_dl]
  exact C68.S_congr fun d a b => by unfold C68.tm; rw [cf_take a b]
theorem sIx_m1 (n d : Nat) : HT.sIx n d (some (-1)) = n - 1 := by
  show (if (-1 : Int) < 0 then ((-1 : Int) + (n : Int)).toNat else min (-1 : Int).toNat n) = n - 1
  rw [if_pos (by decide)]
  omega
theorem dv_cut (i : Nat) : cutV ((nats (dv (i + 1))).map V.int) none (some (-1)) = (nats (dl (i + 1) i)).map V.int := by
  have e : dv (i + 1) = dl (i + 1) i ++ [i + 1] := by
    show dl (i + 1) i ++ _ = _
    rw [if_pos (Nat.mod_self _)]
  rw [e]
  unfold cutV nats
  have l : ((List.map (fun (d : Nat) => (d : Int)) (dl (i + 1) i ++ [i + 1])).map V.int).length = (dl (i + 1) i).length + 1 := by simp
  rw [l]
  rw [sIx_m1, HT.sIx_none, List.drop_zero, List.map_append, List.map_append, show (dl (i + 1) i).length + 1 - 1 - 0 = (dl (i + 1) i).length by omega, List.take_left' (by simp)]
theorem not_whole (i : Nat) : ¬ (HT.sIx ((nats (dv (i + 1))).map V.int).length 0 none = 0 ∧ HT.sIx ((nats (dv (i + 1))).map V.int).length ((nats (dv (i + 1))).map V.int).length (some (-1)) = ((nats (dv (i + 1))).map V.int).length) := by
  have e : dv (i + 1) = dl (i + 1) i ++ [i + 1] := by
    show dl (i + 1) i ++ _ = _
    rw [if_pos (Nat.mod_self _)]
  rintro ⟨_, h⟩
  have l : ((nats (dv (i + 1))).map V.int).length = (dl (i + 1) i).length + 1 := by rw [e]; unfold nats; simp
  rw [l] at h
  rw [sIx_m1] at h
  omega
theorem ok_co {f : Addr} {fd : FuncData} (F : Fun K "_coordinates_of" "_coordinates_of" sCo f fd) (N : NN mg) (Ps : HPs P w K mg base) (Dv : HDv P w K mg base) : FnOk P w K mg base CX0 7 f fd ["ghosts"] (spCo K) := by
  obtain ⟨fPs, dPs, GPs, mPs, kPs, bPs⟩ := Ps
  obtain ⟨fDv, dDv, GDv, mDv, kDv, bDv⟩ := Dv
  refine F.ok scCo (fun vs H Q E h => ?_) (fun cdv A outer s H vs Q E hr h => ?_)
  · obtain ⟨a, gs, es, rfl, _⟩ := h
    rfl
  · obtain ⟨a, gs, es, rfl, ha, le, l24, wh, bs, k⟩ := h
    refine ⟨_, pss_cons (ps_set (i := 1) scCo.nd rfl (.inl rfl) (pe_lst pa_nil))
      (pss_cons (ps_for PassesOwn.never rfl (pi_range2 rfl N.range (pa_cons pe_int (pa_cons (pe_op op_add (pe_callB call_len_seq (by rfl) N.len (by decide +kernel) (pa_cons (pv 0) pa_nil)) pe_int) pa_nil))) (pg_name (i := 2) scCo.nd rfl (.inl rfl)) (pss_cons (ps_set (i := 3) scCo.nd rfl (.inl rfl) (pe_call GPs (hr.mono (by decide)) rfl mPs kPs bPs .nil pass0 (pa_cons (pv 1) (pa_cons (pv 2) (pa_cons (pe_slice sl_tupA (pe_call GDv (hr.mono (by decide)) rfl mDv kDv bDv .nil pass0 (pa_cons (pv 2) pa_nil)) po_none (po_some (pe_un un_neg pe_int))) pa_nil)))))
      (pss_one (ps_expr (pe_bm PySem.F.plainAttrs_list PySem.F.slot_list_append PySem.F.type_list_append mt_append (pv 1) (pa_cons (pe_op op_fdivN (pe_op op_sub (pe_ix (r := rIxSq K) ix_sq (pv 0) (pe_op op_sub (pv 2) pe_int) (fun _ _ => rfl)) (pv 3)) (pv 2)) pa_nil))))))
      (pss_one (ps_ret (pe_callTy call_tuple_of (by rfl) N.tuple (by decide +kernel) (pa_cons (pv 1) pa_nil))))), ?_⟩
    refine ⟨(by show 0 ≤ sizeLine; decide), fun l nl => ?_⟩
    have e0 : (((gs.map V.int).length : Nat) : Int) + 1 = ((gs.length + 1 : Nat) : Int) := by rw [List.length_map]; rfl
    refine ⟨_, rfl, a, _, rfl, ha.imp (sqL_same (same_new nl)) (sqT_same (same_new nl)), _, _, rfl, rfl, 1, ((gs.length + 1 : Nat) : Int), (by rw [← e0]), ⟨by decide, by decide, by omega, by omega⟩, ?_⟩
    have en : (((gs.length + 1 : Nat) : Int) - 1).toNat = gs.length := by omega
    rw [en]
    refine for_range (lo := 1) (n := gs.length) (fun i σ H' => ∃ u1 u2 : Option V, σ = [some (.ref a), some (.ref l), u1, u2] ∧ Same H H' ∧ H' l = some (.lst ((es.take i).map V.int))) ⟨none, none, rfl, same_new nl, by rw [upd_same]; rfl⟩ ?_ ?_
    · rintro i σ H1 hi ⟨u1, u2, rfl, sm, hl⟩
      have e1 : (1 : Int) + (i : Nat) = ((i + 1 : Nat) : Int) := by omega
      rw [e1]
      refine ⟨_, rfl, _, rfl, _, rfl, i + 1, rfl, by omega, by omega, fun H2 t s2 ht => ?_⟩
      refine ⟨_, rfl, _, rfl, t, _, rfl, SqT.of ht, (fun z => absurd z (not_whole i)), fun _ c nc => ?_⟩
      rw [dv_cut]
      have s3 := Same.tr s2 (same_new nc (o := .tup ((nats (dl (i + 1) i)).map V.int)))
      refine ⟨l, c, es.take i, i + 1, dl (i + 1) i, rfl, .inl (SqL.of (s3 _ _ hl)), SqT.of upd_same, Nat.le_trans (dl_len _ _) (by omega), (fun d hd => ?_), by omega, by omega, (fun z hz => bs z (List.mem_of_mem_take hz)), fun H4 s4 => ?_⟩
      · have := dl_le (i + 1) i d hd
        rw [List.length_take]
        omega
      · rw [known]
        have S14 := Same.tr s3 s4
        have hl4 := S14 _ _ hl
        have smH := Same.tr sm S14
        have nd : ((i + 1 : Nat) : Int) ≠ 0 := by omega
        have eg : gs[i]? = some (cf gs (i + 1)) := cf_at (cs := gs) (d := i + 1) (by omega) (by omega)
        refine ⟨_, rfl, .inl ⟨rfl, _, SqL.of hl4⟩, ?_⟩
        refine ⟨_, rfl, _, rfl, _, _, rfl, rfl, a, gs.map V.int, _, _, rfl, rfl, sq_same smH ha, (by
          rw [show ((i + 1 : Nat) : Int) - 1 = ((i : Nat) : Int) by omega]
          exact atI_nat (by rw [List.getElem?_map, eg]; rfl)), _, rfl, _, _, rfl, rfl, _, rfl, _, _, rfl, rfl, ⟨nd, by omega⟩, ?_⟩
        have val : (cf gs (i + 1) - C68.kn (cf es) (i + 1)).fdiv ((i + 1 : Nat) : Int) = cf es (i + 1) := by
          rw [← wh (i + 1) (by omega) (by omega), C68.gh_last (by omega) (by omega), show C68.kn (cf es) (i + 1) + ((i + 1 : Nat) : Int) * cf es (i + 1) - C68.kn (cf es) (i + 1) = ((i + 1 : Nat) : Int) * cf es (i + 1) by omega]
          exact Int.mul_fdiv_cancel_left _ nd
        refine ⟨l, _, _, rfl, rfl, hl4, ?_, _, _, rfl, same_put smH nl, ?_⟩
        · rw [List.length_map, List.length_take]
          exact Nat.lt_of_le_of_lt (Nat.min_le_left _ _) (Nat.lt_of_lt_of_le (show i < 1000 by omega) (by decide))
        · rw [upd_same, List.take_add_one, show es[i]? = some (cf es (i + 1)) from cf_at (cs := es) (d := i + 1) (by omega) (by omega), ← val, List.map_append]
          rfl
    · rintro σ H1 ⟨u1, u2, rfl, sm, hl⟩
      rw [le, List.take_length] at hl
      exact ⟨_, rfl, l, _, rfl, .inl ⟨SqL.of hl, fun t nt => k _ t (Same.tr sm (same_new nt)) (none_of sm nt) upd_same⟩⟩
abbrev HCo (P : Program) (w : World) (K : PySem.W.Frag) (mg : Str → Option Value) (base : Heap) : Prop := Has P w K mg base "_coordinates_of" 7 ["ghosts"] (spCo K)
/-! Witt -/
theorem ncg : ¬ (("_coordinates" : Str) = "_ghosts") := by decide +kernel
theorem ngc : ¬ (("_ghosts" : Str) = "_coordinates") := by decide +kernel
def wf (tc tg : Addr) : List (Str × V) := putF "_ghosts" (.ref tg) (putF "_coordinates" (.ref tc) [])
theorem wf_eq (tc tg : Addr) : wf tc tg = ([("_coordinates", V.ref tc), ("_ghosts", V.ref tg)] : List (Str × V)) := by
  show (if ("_coordinates" : Str) = "_ghosts" then [(("_coordinates" : Str), V.ref tg)] else (("_coordinates" : Str), V.ref tc) :: putF "_ghosts" (V.ref tg) []) = _
  rw [if_neg ncg]
  all_goals rfl
theorem wf_g (tc tg : Addr) : (wf tc tg).lookup ("_ghosts" : Str) = some (.ref tg) := by
  unfold wf; rw [lookup_putF, if_pos rfl]
theorem wf_c (tc tg : Addr) : (wf tc tg).lookup ("_coordinates" : Str) = some (.ref tc) := by
  unfold wf; rw [lookup_putF, if_neg ncg, lookup_putF, if_pos rfl]
theorem wf_no (tc tg : Addr) {m : Str} (h1 : ¬ m = "_ghosts") (h2 : ¬ m = "_coordinates") : (wf tc tg).lookup m = none := by
  unfold wf; rw [lookup_putF, if_neg h1, lookup_putF, if_neg h2]; rfl
theorem wf_putC (tc tg u : Addr) : putF "_coordinates" (.ref u) (wf tc tg) = wf u tg := by
  rw [wf_eq, wf_eq]
  show (if ("_coordinates" : Str) = "_coordinates" then (("_coordinates" : Str), V.ref u) :: [(("_ghosts" : Str), V.ref tg)] else _) = _
  rw [if_pos rfl]
theorem wf_putG (tc tg u : Addr) : putF "_ghosts" (.ref u) (wf tc tg) = wf tc u := by
  rw [wf_eq, wf_eq]
  show (if ("_coordinates" : Str) = "_ghosts" then _ else (("_coordinates" : Str), V.ref tc) :: (if ("_ghosts" : Str) = "_ghosts" then [(("_ghosts" : Str), V.ref u)] else _)) = _
  rw [if_neg ncg, if_pos rfl]
theorem wf_len (tc tg : Addr) : (wf tc tg).length < 1000 := by rw [wf_eq]; show 2 < 1000; decide
/-- an object of Witt at p: its coordinates and its ghosts -/
def WitAt (C : Addr) (H : Hp) (p : Addr) (cs gs : List Int) : Prop := ∃ dx tc tg, H p = some (.ins C dx (wf tc tg)) ∧ H tc = some (.tup (cs.map V.int)) ∧ H tg = some (.tup (gs.map V.int))
theorem WitAt.same {H H' : Hp} {p : Addr} {cs gs : List Int} (s : Same H H') (h : WitAt C H p cs gs) : WitAt C H' p cs gs := by
  obtain ⟨dx, tc, tg, h1, h2, h3⟩ := h
  exact ⟨dx, tc, tg, s _ _ h1, s _ _ h2, s _ _ h3⟩
structure Wt (K : PySem.W.Frag) (mg : Str → Option Value) (C : Addr) : Prop where
  mgC : mg "Witt" = some (.ref C)
  cl : Cls K C
  nG : NoAttr K C "_ghosts"
  nC : NoAttr K C "_coordinates"
  ca : PySem.W.findIn K (.ref C) "__class__" = some (some (.builtin "object.__class__"))
  cn : PySem.W.specialIn K (.builtin "object.__class__") "__get__" = some (some (.builtin "getset_descriptor.__get__"))
  ct : PySem.W.takesIn K (.builtin "object.__class__") = some true
  mo : PySem.W.mroIn K C (.type "object") = some true
def spAi (K : PySem.W.Frag) : Sp := fun vs H Q _ => ∃ (t : Addr) (cs : List Int), vs = [.ref t] ∧ H t = some (.tup (cs.map V.int)) ∧ 1 ≤ cs.length ∧ cs.length ≤ 24 ∧ (∀ c ∈ cs, -LONG < c ∧ c < LONG) ∧ ∀ H', Same H H' → Q (.bl true) H'
abbrev nAi : List Str := ["value", "number"]
theorem scAi : FnScope nAi ["value"] (defScope sAi) := ⟨rfl, rfl, rfl, by decide +kernel, rfl, by decide +kernel, by decide +kernel⟩
theorem ok_ai {f : Addr} {fd : FuncData} (F : Fun K "_are_integers" "_are_integers" sAi f fd) (N : NN mg) (S : HSh P w K mg base) : FnOk P w K mg base CX0 2 f fd ["value"] (spAi K) := by
  obtain ⟨fS, dS, GS, mS, kS, bS⟩ := S
  obtain ⟨tG, hG⟩ := N.mgh
  refine F.ok scAi (fun vs H Q E h => ?_) (fun cdv A outer s H vs Q E hr h => ?_)
  · obtain ⟨t, cs, rfl, _⟩ := h
    rfl
  · obtain ⟨t, cs, rfl, ht, l1, l24, bs, k⟩ := h
    refine ⟨_, pss_cons (ps_if (PW.pt (pw_or (pt_not (pt_val (pe_callB call_isi (by rfl) N.isinstance (by decide +kernel) (pa_cons (pv 0) (pa_cons (pe_bltn (by rfl) N.tuple (by decide +kernel) (show RelV (.ty "tuple") (.type "tuple") from rfl)) pa_nil))))) (pw_or1 (pt_not (pt_chain op_le op_le pe_int (pe_callB call_len_seq (by rfl) N.len (by decide +kernel) (pa_cons (pv 0) pa_nil)) (pe_glob rfl hG (show RelV (.int 24) (.int 24 tG) from ⟨_, rfl⟩))))))) (pss_one (ps_ret pe_bl)) pss_nil)
      (pss_one (ps_ret (pe_callB (cr_all rfl) (by rfl) N.all (by decide +kernel) (pa_cons (pe_lc (own := [("number", 1)]) (g := gName 1) (tt := tYes) rfl scAi.nd (pi_tup (pv 0)) (blkOk_by (own := [("number", 1)]) (N := nAi) (sc := defScope sAi) (by decide +kernel)) (fun _ _ _ _ _ => (pg_name (i := 1) scAi.nd rfl (.inl rfl))) (fun _ _ _ _ _ => pts_nil) (fun _ _ _ _ _ => (pe_call GS (hr.mono (by decide)) rfl mS kS bS .nil pass0 (pa_cons (pv 1) pa_nil)))) pa_nil)))), ?_⟩
    refine ⟨_, rfl, _, _, _, _, true, rfl, .ty "tuple", .base (.tup ht), kit_ty (by decide +kernel), _, rfl, itF rfl ?_⟩
    refine ⟨_, rfl, t, _, rfl, .inr (SqT.of ht), _, _, rfl, rfl, _, rfl, itT (decide_eq_true (by rw [List.length_map]; omega)) ?_⟩
    refine ⟨_, _, rfl, rfl, _, rfl, itF (by show (!decide _) = false; rw [decide_eq_true (by rw [List.length_map]; omega)]; rfl) ?_⟩
    refine ⟨_, rfl, t, rfl, ⟨_, SqT.of ht⟩, fun D hD => ?_⟩
    refine lc_tup (xs := cs.map V.int) (Acc H D fun i => (List.replicate i true).map V.bl) (Acc.zero hD rfl) ?_ ?_ ?_
    · intro i H2 _ b
      exact SqT.of (b.1 _ _ ht)
    · intro i v H2 hv b
      rw [List.getElem?_map] at hv
      obtain ⟨c, hc, rfl⟩ := Option.map_eq_some_iff.mp hv
      obtain ⟨s1, s2⟩ := bs c (List.mem_of_getElem? hc)
      have il : i < cs.length := (List.getElem?_eq_some_iff.mp hc).1
      refine ⟨rfl, ?_⟩
      refine ⟨_, rfl, c, rfl, ?_⟩
      rw [both s1 s2]
      refine b.put hD (same_refl _) ?_ ?_
      · rw [List.length_map, List.length_replicate]; exact Nat.lt_of_lt_of_le (show i < 1000 by omega) (by decide)
      · rw [List.replicate_succ', List.map_append]; rfl
    · intro H2 b
      refine ⟨D, _, rfl, SqL.of b.2, ?_⟩
      rw [show (List.replicate (cs.map V.int).length true).all id = true by rw [List.all_eq_true]; intro x hx; exact (List.mem_replicate.mp hx).2]
      exact k H2 b.1
def spCi (K : PySem.W.Frag) : Sp := fun vs H Q _ => ∃ (t : Addr) (cs : List Int), vs = [.ref t] ∧ H t = some (.tup (cs.map V.int)) ∧ 1 ≤ cs.length ∧ cs.length ≤ 24 ∧ (∀ c ∈ cs, -LONG < c ∧ c < LONG) ∧ ∀ H', Same H H' → Q .non H'
theorem scCi : FnScope ["numbers"] ["numbers"] (defScope sCi) := ⟨rfl, rfl, rfl, by decide +kernel, rfl, by decide +kernel, by decide +kernel⟩
theorem ok_ci {f : Addr} {fd : FuncData} (F : Fun K "check_integers" "check_integers" sCi f fd) (Ai : Has P w K mg base "_are_integers" 2 ["value"] (spAi K)) : FnOk P w K mg base CX0 3 f fd ["numbers"] (spCi K) := by
  obtain ⟨fAi, dAi, GAi, mAi, kAi, bAi⟩ := Ai
  refine F.ok scCi (fun vs H Q E h => ?_) (fun cdv A outer s H vs Q E hr h => ?_)
  · obtain ⟨t, cs, rfl, _⟩ := h
    rfl
  · obtain ⟨t, cs, rfl, ht, l1, l24, bs, k⟩ := h
    refine ⟨_, pss_one (ps_if (pt_not (pt_val (pe_call GAi (hr.mono (by decide)) rfl mAi kAi bAi .nil pass0 (pa_cons (pv 0) pa_nil)))) pss_never pss_nil), ?_⟩
    exact ⟨_, rfl, t, cs, rfl, ht, l1, l24, bs, fun H' s' => ⟨_, rfl, itF rfl (k H' s')⟩⟩
def spIni (C : Addr) : Sp := fun vs H Q _ => ∃ (p dx t : Addr) (cs : List Int), vs = [.ref p, .ref t] ∧ H p = some (.ins C dx []) ∧ H t = some (.tup (cs.map V.int)) ∧ 1 ≤ cs.length ∧ cs.length ≤ 24 ∧ (∀ c ∈ cs, -LONG < c ∧ c < LONG) ∧
  ∀ H' tg, But p H H' → H' p = some (.ins C dx (wf t tg)) → H' t = some (.tup (cs.map V.int)) → H' tg = some (.tup ((gsOf cs cs.length).map V.int)) → Q .non H'
theorem long_sm {c : Int} (h : -LONG < c ∧ c < LONG) : Sm c := Nat.lt_of_lt_of_le (long_lt h.1 h.2) (Nat.pow_le_pow_right (by decide) (by decide))
theorem scIni : FnScope ["self", "coordinates"] ["self", "coordinates"] (defScope (sIn 0)) := ⟨rfl, rfl, rfl, by decide +kernel, rfl, by decide +kernel, by decide +kernel⟩
theorem ok_ini {f : Addr} {fd : FuncData} (F : Fun K "__init__" "Witt.__init__" (sIn 0) f fd) (T : Wt K mg C) (Ci : Has P w K mg base "check_integers" 3 ["numbers"] (spCi K)) (Gh : HGh P w K mg base) : FnOk P w K mg base CX0 8 f fd ["self", "coordinates"] (spIni C) := by
  obtain ⟨fCi, dCi, GCi, mCi, kCi, bCi⟩ := Ci
  obtain ⟨fGh, dGh, GGh, mGh, kGh, bGh⟩ := Gh
  refine F.ok scIni (fun vs H Q E h => ?_) (fun cdv A outer s H vs Q E hr h => ?_)
  · obtain ⟨p, dx, t, cs, rfl, _⟩ := h
    rfl
  · obtain ⟨p, dx, t, cs, rfl, hp, ht, l1, l24, bs, k⟩ := h
    have npt : p ≠ t := fun z => by rw [z, ht] at hp; cases hp
    have ntp : t ≠ p := fun z => npt z.symm
    refine ⟨_, pss_cons (ps_expr (pe_call GCi (hr.mono (by decide)) rfl mCi kCi bCi .nil pass0 (pa_cons (pv 1) pa_nil)))
      (pss_cons (ps_fld (pv 0) (pv 1) rfl)
      (pss_one (ps_fld (pv 0) (pe_call GGh (hr.mono (by decide)) rfl mGh kGh bGh .nil pass0 (pa_cons (pv 1) pa_nil)) rfl))), ?_⟩
    refine ⟨_, rfl, t, cs, rfl, ht, l1, l24, bs, fun H1 s1 => ?_⟩
    refine ⟨_, rfl, _, rfl, p, C, dx, [], rfl, s1 _ _ hp, T.cl, T.nC, (by show 0 < 1000; decide), ?_⟩
    refine ⟨_, rfl, t, cs, rfl, SqT.of (by rw [upd_ne ntp]; exact s1 _ _ ht), l24, (fun c hc => long_sm (bs c hc)), fun H2 tg s2 ng hg => ?_⟩
    have ngp : tg ≠ p := fun z => by rw [z, upd_same] at ng; cases ng
    refine ⟨_, rfl, p, C, dx, _, rfl, s2 _ _ upd_same, T.cl, T.nG, (by show 1 < 1000; decide), ?_⟩
    refine k _ tg (fun b o nb e => ?_) upd_same ?_ ?_
    · rw [upd_ne nb]
      exact s2 b o (by rw [upd_ne nb]; exact s1 b o e)
    · rw [upd_ne ntp]
      exact s2 _ _ (by rw [upd_ne ntp]; exact s1 _ _ ht)
    · rw [upd_ne ngp]; exact hg
def HWit (P : Program) (w : World) (K : PySem.W.Frag) (mg : Str → Option Value) (base : Heap) (C : Addr) : Prop :=
  ∃ f fd, FnOk P w K mg base CX0 8 f fd ["self", "coordinates"] (spIni C) ∧ Mk K C f ∧ Binds K fd ["self", "coordinates"] []
/-- Witt(t): what is made of the new object -/
theorem made_wit {H H' : Hp} {x dx t tg : Addr} {cs : List Int} {o o2 : HO} (nx : H x = none) (nd : H dx = none) (bu : But x (upd (upd H dx o) x o2) H') : Same H H' :=
  fun b u e => bu b u (ne_of_none e nx) (by rw [upd_ne (ne_of_none e nx), upd_ne (ne_of_none e nd)]; exact e)
/-! _made_witt -/
def spMw (K : PySem.W.Frag) (C : Addr) : Sp := fun vs H Q _ => ∃ (a : Addr) (gs es : List Int), vs = [.ref a] ∧ (SqL K H a (gs.map V.int) ∨ H a = some (.tup (gs.map V.int))) ∧ gs.length = es.length ∧ 1 ≤ gs.length ∧ gs.length ≤ 24 ∧ Whl gs es ∧ (∀ g ∈ gs, g.natAbs < 2 ^ 500000) ∧ (∀ c ∈ es, Sm c) ∧
  ∀ H' p, Same H H' → WitAt C H' p es gs → Q (.ref p) H'
theorem scMw : FnScope ["ghosts", "made"] ["ghosts"] (defScope sMw) := ⟨rfl, rfl, rfl, by decide +kernel, rfl, by decide +kernel, by decide +kernel⟩
theorem ok_mw {f : Addr} {fd : FuncData} (F : Fun K "_made_witt" "_made_witt" sMw f fd) (N : NN mg) (T : Wt K mg C) (I : HWit P w K mg base C) (Co : HCo P w K mg base) : FnOk P w K mg base CX0 10 f fd ["ghosts"] (spMw K C) := by
  obtain ⟨fI, dI, GI, MI, bI⟩ := I
  obtain ⟨fCo, dCo, GCo, mCo, kCo, bCo⟩ := Co
  refine F.ok scMw (fun vs H Q E h => ?_) (fun cdv A outer s H vs Q E hr h => ?_)
  · obtain ⟨a, gs, es, rfl, _⟩ := h
    rfl
  · obtain ⟨a, gs, es, rfl, ha, le, l1, l24, wh, bg, be, k⟩ := h
    refine ⟨_, pss_cons (ps_set (i := 1) scMw.nd rfl (.inl rfl) (pe_make MI GI (hr.mono (by decide)) rfl T.mgC bI .nil pass0 (pa_cons (pe_tup (pa_cons pe_int pa_nil)) pa_nil)))
      (pss_cons (ps_fld (pv 1) (pe_call GCo (hr.mono (by decide)) rfl mCo kCo bCo .nil pass0 (pa_cons (pv 0) pa_nil)) rfl)
      (pss_cons (ps_fld (pv 1) (pe_callTy call_tuple_of (by rfl) N.tuple (by decide +kernel) (pa_cons (pv 0) pa_nil)) rfl)
      (pss_one (ps_ret (pv 1))))), ?_⟩
    refine ⟨(by show 1 ≤ sizeLine; decide), fun z nz => ?_⟩
    have Sz := same_new nz (o := .tup [V.int 0])
    refine fun x dx nx nd ne => ?_
    refine ⟨x, dx, z, [0], rfl, upd_same, ?_, by decide, by decide, (fun c hc => by rw [List.mem_singleton.mp hc]; unfold LONG; omega), fun H2 tg bu hx hz hg => ⟨rfl, ?_⟩⟩
    · have nzx : z ≠ x := fun q => by rw [← q, upd_same] at nx; cases nx
      have nzd : z ≠ dx := fun q => by rw [← q, upd_same] at nd; cases nd
      rw [upd_ne nzx, upd_ne nzd, upd_same]
      rfl
    have S2 : Same H H2 := Same.tr Sz (made_wit (t := z) (tg := tg) (cs := [0]) nx nd bu)
    have nx0 : H x = none := none_of Sz nx
    have ha2 : SqL K H2 a (gs.map V.int) ∨ H2 a = some (.tup (gs.map V.int)) := ha.imp (sqL_same S2) (S2 _ _)
    refine ⟨_, rfl, a, gs, es, rfl, ha2.imp id SqT.of, le, l24, wh, be, fun H3 t s3 nt ht => ?_⟩
    refine ⟨_, rfl, x, C, dx, _, rfl, s3 _ _ hx, T.cl, T.nC, wf_len _ _, ?_⟩
    rw [wf_putC]
    have ntx : t ≠ x := fun q => by rw [q, hx] at nt; cases nt
    have s03 := Same.tr S2 s3
    have ha3 : SqL K H3 a (gs.map V.int) ∨ H3 a = some (.tup (gs.map V.int)) := ha2.imp (sqL_same s3) (s3 _ _)
    have smx : ∀ {o : HO}, Same H (upd H3 x o) := same_put s03 nx0
    have sq4 : SqL K (upd H3 x (.ins C dx (wf t tg))) a (gs.map V.int) ∨ (upd H3 x (.ins C dx (wf t tg))) a = some (.tup (gs.map V.int)) := ha.imp (sqL_same smx) (smx _ _)
    have fin : ∀ (H5 : Hp) (u : Addr), Same (upd H3 x (.ins C dx (wf t tg))) H5 → u ≠ x → H5 u = some (.tup (gs.map V.int)) → ∃ (p : Addr) (C' dx' : Addr) (fs : List (Str × V)), V.ref x = .ref p ∧ H5 p = some (.ins C' dx' fs) ∧ Cls K C' ∧ NoAttr K C' "_ghosts" ∧ fs.length < 1000 ∧ Q (.ref x) (upd H5 p (.ins C' dx' (putF "_ghosts" (.ref u) fs))) := by
      intro H5 u s5 nux hu
      refine ⟨x, C, dx, _, rfl, s5 _ _ upd_same, T.cl, T.nG, wf_len _ _, ?_⟩
      rw [wf_putG]
      refine k _ x ?_ ⟨dx, t, u, upd_same, ?_, ?_⟩
      · intro b o e
        have nb : b ≠ x := ne_of_none e nx0
        rw [upd_ne nb]
        exact s5 b o (by rw [upd_ne nb]; exact s03 b o e)
      · rw [upd_ne ntx]
        exact s5 _ _ (by rw [upd_ne ntx]; exact ht)
      · rw [upd_ne nux]; exact hu
    rcases sq4 with q | q
    · refine ⟨_, rfl, a, _, rfl, .inl ⟨q, fun u nu => ?_⟩⟩
      have nux : u ≠ x := fun z => by rw [z, upd_same] at nu; cases nu
      obtain ⟨p', C', dx', fs, e1, e2, e3, e4, e5, e6⟩ := fin _ u (same_new nu) nux upd_same
      exact ⟨_, rfl, p', C', dx', fs, e1, e2, e3, e4, e5, _, rfl, e6⟩
    · have nax : a ≠ x := fun z => by rw [z, upd_same] at q; cases q
      refine ⟨_, rfl, a, _, rfl, .inr ⟨SqT.of q, ?_⟩⟩
      obtain ⟨p', C', dx', fs, e1, e2, e3, e4, e5, e6⟩ := fin _ a (same_refl _) nax q
      exact ⟨_, rfl, p', C', dx', fs, e1, e2, e3, e4, e5, _, rfl, e6⟩
abbrev HMw (P : Program) (w : World) (K : PySem.W.Frag) (mg : Str → Option Value) (base : Heap) (C : Addr) : Prop := Has P w K mg base "_made_witt" 10 ["ghosts"] (spMw K C)
def spCw (C : Addr) : Sp := fun vs H Q _ => ∃ (q dx : Addr) (fs : List (Str × V)), vs = [.ref q] ∧ H q = some (.ins C dx fs) ∧ Q .non H
theorem scCw : FnScope ["other"] ["other"] (defScope sCw) := ⟨rfl, rfl, rfl, by decide +kernel, rfl, by decide +kernel, by decide +kernel⟩
theorem ok_cw {f : Addr} {fd : FuncData} (F : Fun K "_check_witt" "_check_witt" sCw f fd) (N : NN mg) (T : Wt K mg C) : FnOk P w K mg base CX0 1 f fd ["other"] (spCw C) := by
  refine F.ok scCw (fun vs H Q E h => ?_) (fun cdv A outer s H vs Q E hr h => ?_)
  · obtain ⟨q, dx, fs, rfl, _⟩ := h
    rfl
  · obtain ⟨q, dx, fs, rfl, hq, k⟩ := h
    refine ⟨_, pss_one (ps_if (pt_not (pt_val (pe_callB call_isi (by rfl) N.isinstance (by decide +kernel) (pa_cons (pv 0) (pa_cons (pe_glob rfl T.mgC (show RelV (.ref C) (.ref C) from rfl)) pa_nil))))) pss_never pss_nil), ?_⟩
    exact ⟨_, rfl, _, _, _, _, true, rfl, .own C, .base (.ins hq T.cl T.ca T.cn T.ct T.mo), (by unfold PySem.W.kitOne; simp), _, rfl, itF rfl k⟩
abbrev HCw (P : Program) (w : World) (K : PySem.W.Frag) (mg : Str → Option Value) (base : Heap) (C : Addr) : Prop := Has P w K mg base "_check_witt" 1 ["other"] (spCw C)
/-! plus, minus, times -/
def spBi (C : Addr) (op : Int → Int → Int) : Sp := fun vs H Q _ => ∃ (p q : Addr) (cs gs ds hs es : List Int), vs = [.ref p, .ref q] ∧ WitAt C H p cs gs ∧ WitAt C H q ds hs ∧ gs.length = es.length ∧ hs.length = es.length ∧ 1 ≤ es.length ∧ es.length ≤ 24 ∧ (∀ g ∈ gs, g.natAbs < 2 ^ 240000) ∧ (∀ g ∈ hs, g.natAbs < 2 ^ 240000) ∧
  (∀ n, 1 ≤ n → n ≤ es.length → C68.gh (cf es) n = op (cf gs n) (cf hs n)) ∧ (∀ c ∈ es, Sm c) ∧ ∀ H' r, Same H H' → WitAt C H' r es (List.zipWith op gs hs) → Q (.ref r) H'
abbrev nPl : List Str := ["self", "other", "one", "two"]
theorem scPl_plus : FnScope nPl ["self", "other"] (defScope (sIn 9)) := ⟨rfl, rfl, rfl, by decide +kernel, rfl, by decide +kernel, by decide +kernel⟩
theorem ok_plus {f : Addr} {fd : FuncData} (F : Fun K "plus" "Witt.plus" (sIn 9) f fd) (N : NN mg) (T : Wt K mg C) (Cw : HCw P w K mg base C) (Mw : HMw P w K mg base C) (gh : HasP P w K mg base C "ghosts" 1 (getSp C "_ghosts")) : FnOk P w K mg base CX0 11 f fd ["self", "other"] (spBi C (fun x y => x + y)) := by
  obtain ⟨fCw, dCw, GCw, mCw, kCw, bCw⟩ := Cw
  obtain ⟨fMw, dMw, GMw, mMw, kMw, bMw⟩ := Mw
  obtain ⟨pgh_, ggh, dgh, pPgh, Ggh, bgh⟩ := gh
  refine F.ok scPl_plus (fun vs H Q E h => ?_) (fun cdv A outer s H vs Q E hr h => ?_)
  · obtain ⟨p, q, cs, gs, ds, hs, es, rfl, _⟩ := h
    rfl
  · obtain ⟨p, q, cs, gs, ds, hs, es, rfl, ⟨dx, tc, tg, hp, hc, hg⟩, ⟨dy, uc, ug, hq, hqc, hqg⟩, lg, lh, le, l24, bg, bh, ge, be, k⟩ := h
    refine ⟨_, pss_cons (ps_expr (pe_call GCw (hr.mono (by decide)) rfl mCw kCw bCw .nil pass0 (pa_cons (pv 1) pa_nil)))
      (pss_one (ps_ret (pe_call GMw (hr.mono (by decide)) rfl mMw kMw bMw .nil pass0 (pa_cons (pe_lc (own := [("one", 2), ("two", 3)]) (g := gTup K 2 (gCons (gName 2) (gCons (gName 3) gNil))) (tt := tYes) rfl scPl_plus.nd (RZ.pi_zipA (by rfl) N.zip (pa_cons (pe_fld (pv 0) rfl) (pa_cons (pe_prop (pv 1) T.cl pPgh Ggh (hr.mono (by decide)) bgh .nil pass0 rfl) pa_nil))) (blkOk_by (own := [("one", 2), ("two", 3)]) (N := nPl) (sc := defScope (sIn 9)) (by decide +kernel)) (fun _ _ _ _ _ => (pg_tup rfl (pgs_cons (pg_name (i := 2) scPl_plus.nd rfl (.inl rfl)) (pgs_cons (pg_name (i := 3) scPl_plus.nd rfl (.inl rfl)) pgs_nil)))) (fun _ _ _ _ _ => pts_nil) (fun _ _ _ _ _ => (pe_op op_add (pv 2) (pv 3)))) pa_nil)))), ?_⟩
    refine ⟨_, rfl, q, _, _, rfl, hq, ?_⟩
    refine ⟨_, rfl, p, C, dx, _, _, rfl, hp, T.cl, T.nG, wf_g _ _, _, rfl, q, dy, _, rfl, hq, q, dy, _, _, rfl, hq, wf_g _ _, tg, ug, gs.map V.int, hs.map V.int, rfl, .inr ⟨SqT.of hg, SqT.of hqg, fun D hD => ?_⟩⟩
    refine turns (walk_zipT (xs := gs.map V.int) (ys := hs.map V.int) (n := gs.length) (by rw [List.length_map, List.length_map, lg, lh]; exact (Nat.min_self _).symm)) (Acc H D fun i => ((List.zipWith (fun x y => x + y) gs hs).take i).map V.int) (Acc.zero hD rfl) ?_ ?_ ?_
    · rintro j H2 _ a
      exact ⟨SqT.of (a.1 _ _ hg), SqT.of (a.1 _ _ hqg)⟩
    · rintro j v H2 H3 hj a ⟨T2, u, v, rfl, nT, rfl, eu, ev⟩
      dsimp only at eu ev
      rw [List.getElem?_map] at eu ev
      obtain ⟨x, hx, rfl⟩ := Option.map_eq_some_iff.mp eu
      obtain ⟨y, hy, rfl⟩ := Option.map_eq_some_iff.mp ev
      refine ⟨T2, _, rfl, SqT.of upd_same, rfl, _, _, rfl, _, _, rfl, rfl, rfl, ?_⟩
      refine ⟨_, rfl, _, rfl, _, _, rfl, rfl, a.put hD (same_new nT) ?_ ?_⟩
      · rw [List.length_map, List.length_take]
        exact Nat.lt_of_le_of_lt (Nat.min_le_left _ _) (Nat.lt_of_lt_of_le (show j < 1000 by omega) (by decide))
      · rw [List.take_add_one, List.getElem?_zipWith, hx, hy, List.map_append]
        rfl
    · rintro H2 a
      have a2 : H2 D = some (.lst (((List.zipWith (fun x y => x + y) gs hs).take gs.length).map V.int)) := a.2
      have lz : (List.zipWith (fun x y => x + y) gs hs).length = es.length := by rw [List.length_zipWith, lg, lh, Nat.min_self]
      rw [List.take_of_length_le (by omega)] at a2
      refine ⟨D, List.zipWith (fun x y => x + y) gs hs, es, rfl, .inl (SqL.of a2), lz, by omega, by omega, (fun n n1 nl => ?_), ?_, be, fun H3 r s3 w3 => k H3 r (Same.tr a.1 s3) w3⟩
      · rw [ge n n1 (by omega)]
        unfold cf
        have l1 : n - 1 < gs.length := by omega
        have l2 : n - 1 < hs.length := by omega
        simp only [List.getD_eq_getElem?_getD, List.getElem?_zipWith, List.getElem?_eq_getElem l1, List.getElem?_eq_getElem l2]
        rfl
      · intro z hz
        obtain ⟨i, hi⟩ := List.getElem?_of_mem hz
        rw [List.getElem?_zipWith] at hi
        cases ex : gs[i]? with
        | none => rw [ex] at hi; cases hi
        | some x =>
          cases ey : hs[i]? with
          | none => rw [ex, ey] at hi; cases hi
          | some y =>
            rw [ex, ey] at hi
            cases hi
            have hx := bg x (List.mem_of_getElem? ex)
            have hy := bh y (List.mem_of_getElem? ey)
            exact (Nat.lt_of_lt_of_le (wdAdd (hx := ⟨hx⟩) (hy := ⟨hy⟩)).h (Nat.pow_le_pow_right (by decide) (by decide)))

theorem scPl_minus : FnScope nPl ["self", "other"] (defScope (sIn 10)) := ⟨rfl, rfl, rfl, by decide +kernel, rfl, by decide +kernel, by decide +kernel⟩
theorem ok_minus {f : Addr} {fd : FuncData} (F : Fun K "minus" "Witt.minus" (sIn 10) f fd) (N : NN mg) (T : Wt K mg C) (Cw : HCw P w K mg base C) (Mw : HMw P w K mg base C) (gh : HasP P w K mg base C "ghosts" 1 (getSp C "_ghosts")) : FnOk P w K mg base CX0 11 f fd ["self", "other"] (spBi C (fun x y => x - y)) := by
  obtain ⟨fCw, dCw, GCw, mCw, kCw, bCw⟩ := Cw
  obtain ⟨fMw, dMw, GMw, mMw, kMw, bMw⟩ := Mw
  obtain ⟨pgh_, ggh, dgh, pPgh, Ggh, bgh⟩ := gh
  refine F.ok scPl_minus (fun vs H Q E h => ?_) (fun cdv A outer s H vs Q E hr h => ?_)
  · obtain ⟨p, q, cs, gs, ds, hs, es, rfl, _⟩ := h
    rfl
  · obtain ⟨p, q, cs, gs, ds, hs, es, rfl, ⟨dx, tc, tg, hp, hc, hg⟩, ⟨dy, uc, ug, hq, hqc, hqg⟩, lg, lh, le, l24, bg, bh, ge, be, k⟩ := h
    refine ⟨_, pss_cons (ps_expr (pe_call GCw (hr.mono (by decide)) rfl mCw kCw bCw .nil pass0 (pa_cons (pv 1) pa_nil)))
      (pss_one (ps_ret (pe_call GMw (hr.mono (by decide)) rfl mMw kMw bMw .nil pass0 (pa_cons (pe_lc (own := [("one", 2), ("two", 3)]) (g := gTup K 2 (gCons (gName 2) (gCons (gName 3) gNil))) (tt := tYes) rfl scPl_minus.nd (RZ.pi_zipA (by rfl) N.zip (pa_cons (pe_fld (pv 0) rfl) (pa_cons (pe_prop (pv 1) T.cl pPgh Ggh (hr.mono (by decide)) bgh .nil pass0 rfl) pa_nil))) (blkOk_by (own := [("one", 2), ("two", 3)]) (N := nPl) (sc := defScope (sIn 10)) (by decide +kernel)) (fun _ _ _ _ _ => (pg_tup rfl (pgs_cons (pg_name (i := 2) scPl_minus.nd rfl (.inl rfl)) (pgs_cons (pg_name (i := 3) scPl_minus.nd rfl (.inl rfl)) pgs_nil)))) (fun _ _ _ _ _ => pts_nil) (fun _ _ _ _ _ => (pe_op op_sub (pv 2) (pv 3)))) pa_nil)))), ?_⟩
    refine ⟨_, rfl, q, _, _, rfl, hq, ?_⟩
    refine ⟨_, rfl, p, C, dx, _, _, rfl, hp, T.cl, T.nG, wf_g _ _, _, rfl, q, dy, _, rfl, hq, q, dy, _, _, rfl, hq, wf_g _ _, tg, ug, gs.map V.int, hs.map V.int, rfl, .inr ⟨SqT.of hg, SqT.of hqg, fun D hD => ?_⟩⟩
    refine turns (walk_zipT (xs := gs.map V.int) (ys := hs.map V.int) (n := gs.length) (by rw [List.length_map, List.length_map, lg, lh]; exact (Nat.min_self _).symm)) (Acc H D fun i => ((List.zipWith (fun x y => x - y) gs hs).take i).map V.int) (Acc.zero hD rfl) ?_ ?_ ?_
    · rintro j H2 _ a
      exact ⟨SqT.of (a.1 _ _ hg), SqT.of (a.1 _ _ hqg)⟩
    · rintro j v H2 H3 hj a ⟨T2, u, v, rfl, nT, rfl, eu, ev⟩
      dsimp only at eu ev
      rw [List.getElem?_map] at eu ev
      obtain ⟨x, hx, rfl⟩ := Option.map_eq_some_iff.mp eu
      obtain ⟨y, hy, rfl⟩ := Option.map_eq_some_iff.mp ev
      refine ⟨T2, _, rfl, SqT.of upd_same, rfl, _, _, rfl, _, _, rfl, rfl, rfl, ?_⟩
      refine ⟨_, rfl, _, rfl, _, _, rfl, rfl, a.put hD (same_new nT) ?_ ?_⟩
      · rw [List.length_map, List.length_take]
        exact Nat.lt_of_le_of_lt (Nat.min_le_left _ _) (Nat.lt_of_lt_of_le (show j < 1000 by omega) (by decide))
      · rw [List.take_add_one, List.getElem?_zipWith, hx, hy, List.map_append]
        rfl
    · rintro H2 a
      have a2 : H2 D = some (.lst (((List.zipWith (fun x y => x - y) gs hs).take gs.length).map V.int)) := a.2
      have lz : (List.zipWith (fun x y => x - y) gs hs).length = es.length := by rw [List.length_zipWith, lg, lh, Nat.min_self]
      rw [List.take_of_length_le (by omega)] at a2
      refine ⟨D, List.zipWith (fun x y => x - y) gs hs, es, rfl, .inl (SqL.of a2), lz, by omega, by omega, (fun n n1 nl => ?_), ?_, be, fun H3 r s3 w3 => k H3 r (Same.tr a.1 s3) w3⟩
      · rw [ge n n1 (by omega)]
        unfold cf
        have l1 : n - 1 < gs.length := by omega
        have l2 : n - 1 < hs.length := by omega
        simp only [List.getD_eq_getElem?_getD, List.getElem?_zipWith, List.getElem?_eq_getElem l1, List.getElem?_eq_getElem l2]
        rfl
      · intro z hz
        obtain ⟨i, hi⟩ := List.getElem?_of_mem hz
        rw [List.getElem?_zipWith] at hi
        cases ex : gs[i]? with
        | none => rw [ex] at hi; cases hi
        | some x =>
          cases ey : hs[i]? with
          | none => rw [ex, ey] at hi; cases hi
          | some y =>
            rw [ex, ey] at hi
            cases hi
            have hx := bg x (List.mem_of_getElem? ex)
            have hy := bh y (List.mem_of_getElem? ey)
            exact (Nat.lt_of_lt_of_le (wdSub (hx := ⟨hx⟩) (hy := ⟨hy⟩)).h (Nat.pow_le_pow_right (by decide) (by decide)))

theorem scPl_times : FnScope nPl ["self", "other"] (defScope (sIn 11)) := ⟨rfl, rfl, rfl, by decide +kernel, rfl, by decide +kernel, by decide +kernel⟩
theorem ok_times {f : Addr} {fd : FuncData} (F : Fun K "times" "Witt.times" (sIn 11) f fd) (N : NN mg) (T : Wt K mg C) (Cw : HCw P w K mg base C) (Mw : HMw P w K mg base C) (gh : HasP P w K mg base C "ghosts" 1 (getSp C "_ghosts")) : FnOk P w K mg base CX0 11 f fd ["self", "other"] (spBi C (fun x y => x * y)) := by
  obtain ⟨fCw, dCw, GCw, mCw, kCw, bCw⟩ := Cw
  obtain ⟨fMw, dMw, GMw, mMw, kMw, bMw⟩ := Mw
  obtain ⟨pgh_, ggh, dgh, pPgh, Ggh, bgh⟩ := gh
  refine F.ok scPl_times (fun vs H Q E h => ?_) (fun cdv A outer s H vs Q E hr h => ?_)
  · obtain ⟨p, q, cs, gs, ds, hs, es, rfl, _⟩ := h
    rfl
  · obtain ⟨p, q, cs, gs, ds, hs, es, rfl, ⟨dx, tc, tg, hp, hc, hg⟩, ⟨dy, uc, ug, hq, hqc, hqg⟩, lg, lh, le, l24, bg, bh, ge, be, k⟩ := h
    refine ⟨_, pss_cons (ps_expr (pe_call GCw (hr.mono (by decide)) rfl mCw kCw bCw .nil pass0 (pa_cons (pv 1) pa_nil)))
      (pss_one (ps_ret (pe_call GMw (hr.mono (by decide)) rfl mMw kMw bMw .nil pass0 (pa_cons (pe_lc (own := [("one", 2), ("two", 3)]) (g := gTup K 2 (gCons (gName 2) (gCons (gName 3) gNil))) (tt := tYes) rfl scPl_times.nd (RZ.pi_zipA (by rfl) N.zip (pa_cons (pe_fld (pv 0) rfl) (pa_cons (pe_prop (pv 1) T.cl pPgh Ggh (hr.mono (by decide)) bgh .nil pass0 rfl) pa_nil))) (blkOk_by (own := [("one", 2), ("two", 3)]) (N := nPl) (sc := defScope (sIn 11)) (by decide +kernel)) (fun _ _ _ _ _ => (pg_tup rfl (pgs_cons (pg_name (i := 2) scPl_times.nd rfl (.inl rfl)) (pgs_cons (pg_name (i := 3) scPl_times.nd rfl (.inl rfl)) pgs_nil)))) (fun _ _ _ _ _ => pts_nil) (fun _ _ _ _ _ => (pe_op op_mulW (pv 2) (pv 3)))) pa_nil)))), ?_⟩
    refine ⟨_, rfl, q, _, _, rfl, hq, ?_⟩
    refine ⟨_, rfl, p, C, dx, _, _, rfl, hp, T.cl, T.nG, wf_g _ _, _, rfl, q, dy, _, rfl, hq, q, dy, _, _, rfl, hq, wf_g _ _, tg, ug, gs.map V.int, hs.map V.int, rfl, .inr ⟨SqT.of hg, SqT.of hqg, fun D hD => ?_⟩⟩
    refine turns (walk_zipT (xs := gs.map V.int) (ys := hs.map V.int) (n := gs.length) (by rw [List.length_map, List.length_map, lg, lh]; exact (Nat.min_self _).symm)) (Acc H D fun i => ((List.zipWith (fun x y => x * y) gs hs).take i).map V.int) (Acc.zero hD rfl) ?_ ?_ ?_
    · rintro j H2 _ a
      exact ⟨SqT.of (a.1 _ _ hg), SqT.of (a.1 _ _ hqg)⟩
    · rintro j v H2 H3 hj a ⟨T2, u, v, rfl, nT, rfl, eu, ev⟩
      dsimp only at eu ev
      rw [List.getElem?_map] at eu ev
      obtain ⟨x, hx, rfl⟩ := Option.map_eq_some_iff.mp eu
      obtain ⟨y, hy, rfl⟩ := Option.map_eq_some_iff.mp ev
      refine ⟨T2, _, rfl, SqT.of upd_same, rfl, _, _, rfl, _, _, rfl, rfl, rfl, ?_⟩
      refine ⟨_, rfl, _, rfl, _, _, rfl, rfl, (haveI : Wd x 240000 := ⟨bg x (List.mem_of_getElem? hx)⟩; haveI : Wd y 240000 := ⟨bh y (List.mem_of_getElem? hy)⟩; mI), a.put hD (same_new nT) ?_ ?_⟩
      · rw [List.length_map, List.length_take]
        exact Nat.lt_of_le_of_lt (Nat.min_le_left _ _) (Nat.lt_of_lt_of_le (show j < 1000 by omega) (by decide))
      · rw [List.take_add_one, List.getElem?_zipWith, hx, hy, List.map_append]
        rfl
    · rintro H2 a
      have a2 : H2 D = some (.lst (((List.zipWith (fun x y => x * y) gs hs).take gs.length).map V.int)) := a.2
      have lz : (List.zipWith (fun x y => x * y) gs hs).length = es.length := by rw [List.length_zipWith, lg, lh, Nat.min_self]
      rw [List.take_of_length_le (by omega)] at a2
      refine ⟨D, List.zipWith (fun x y => x * y) gs hs, es, rfl, .inl (SqL.of a2), lz, by omega, by omega, (fun n n1 nl => ?_), ?_, be, fun H3 r s3 w3 => k H3 r (Same.tr a.1 s3) w3⟩
      · rw [ge n n1 (by omega)]
        unfold cf
        have l1 : n - 1 < gs.length := by omega
        have l2 : n - 1 < hs.length := by omega
        simp only [List.getD_eq_getElem?_getD, List.getElem?_zipWith, List.getElem?_eq_getElem l1, List.getElem?_eq_getElem l2]
        rfl
      · intro z hz
        obtain ⟨i, hi⟩ := List.getElem?_of_mem hz
        rw [List.getElem?_zipWith] at hi
        cases ex : gs[i]? with
        | none => rw [ex] at hi; cases hi
        | some x =>
          cases ey : hs[i]? with
          | none => rw [ex, ey] at hi; cases hi
          | some y =>
            rw [ex, ey] at hi
            cases hi
            have hx := bg x (List.mem_of_getElem? ex)
            have hy := bh y (List.mem_of_getElem? ey)
            exact (Nat.lt_of_lt_of_le (wdMul (hx := ⟨hx⟩) (hy := ⟨hy⟩)).h (Nat.pow_le_pow_right (by decide) (by decide)))

end
end Lk

set_option Elab.async false
set_option linter.all false
set_option maxRecDepth 100000
set_option maxHeartbeats 4000000
set_option exponentiation.threshold 1000000
namespace Lk
open PySem L2
section
variable {X : Cx} {CX : CXT} {k i : Nat} {f C : Addr} {fd : FuncData} {ps : List Str} {sp : Sp} {dvs : List V} {ds : List Value} {E : XK} {x : Str} {p pos : Pos} {e : Expr} {es : List Expr} {t : TA}
def tMakeL (i : Nat) (C : Addr) (sp : Sp) (dvs : List V) (E : XK) (t : TA) : TE := fun σ H Q => σ[i]? = some (some (.ref C)) ∧ tMake C sp dvs E t σ H Q
theorem pe_makeL (M : Mk X.K C f) (F : FnOk X.prog X.w X.K X.mg X.base CX k f fd ps sp) (hr : Room (k + 1) X.A) (hN : X.N[i]? = some x) (hv : Vis X.env.scope x) (hb : Binds X.K fd ps ds) (hd : Vals dvs ds) (hx : Passes CX X E)
    (ha : PA X (e :: es) t) (hdb : (x == ("__debug__" : Str)) = false := by decide) (hcd : (x == ("__classdict__" : Str)) = false := by decide)
    (he : starEach (e :: es) X.env = (false, eval e X.env) :: starEach es X.env := by rfl) (hpl : (backTo pos (starEach es X.env)).any (·.1) = false := by rfl) :
    PE X (.Call (.Name x p) (e :: es) [] pos) (tMakeL i C sp dvs E t) := by
  refine ⟨fun pins s σ H Q I h => ?_⟩
  obtain ⟨hs, ht⟩ := h
  refine wpAny_Call_Name_kw (thn ((pe_var (pos := p) hN hv hdb hcd).run pins s σ H (fun v H1 => v = .ref C ∧ H1 = H) I ⟨.ref C, hs, rfl, rfl⟩) fun u s1 ⟨v, H1, I1, r1, q1⟩ => ?_)
  obtain ⟨rfl, rfl⟩ := q1
  cases r1
  refine PySem.W.callWith_K (h₀ := X.base) I1.ok.mod.kin M.kp (thn (ha.run pos pins s1 σ _ _ I1 ht) fun us s2 ⟨vs, H2, I2, r, q⟩ => ⟨I2.kIn, ?_⟩) he hpl
  exact run_make M F hr hb hd hx I2 r q
end

/-- the ghosts that are taken by k -/
def tkL (gs : List Int) (k : Nat) : List Int := (List.range (gs.length / k)).map fun i => cf gs (k * (i + 1))
theorem fm_some {α β : Type} {f : α → Option β} {g : α → β} : ∀ {l : List α}, (∀ i ∈ l, f i = some (g i)) → l.filterMap f = l.map g
  | [], _ => rfl
  | a :: l, h => by
    rw [List.filterMap_cons_some (h a List.mem_cons_self), List.map_cons, fm_some fun i hi => h i (List.mem_cons_of_mem _ hi)]
theorem step_tk {gs : List Int} {k : Nat} (k1 : 1 ≤ k) (kn : k ≤ gs.length) : stepV (gs.map V.int) (some ((k : Int) - 1)) none (k : Int) = (tkL gs k).map V.int := by
  have kp : ¬ ((k : Int) < 0) := by omega
  have e1 : Builtin.Slice.sliceAdjust (some ((k : Int) - 1)) none (k : Int) (((gs.map V.int).length : Nat) : Int) = (((k - 1 : Nat) : Int), (gs.length : Int)) := by
    unfold Builtin.Slice.sliceAdjust
    simp only [if_neg kp, List.length_map]
    rw [if_neg (by omega)]
    refine Prod.ext ?_ rfl
    show min ((k : Int) - 1) (gs.length : Int) = ((k - 1 : Nat) : Int)
    omega
  have e2 : Builtin.Slice.slicePlaces ((k - 1 : Nat) : Int) (gs.length : Int) (k : Int) = gs.length / k := by
    unfold Builtin.Slice.slicePlaces
    rw [if_pos (by omega), if_pos (by omega)]
    have : (gs.length : Int) - ((k - 1 : Nat) : Int) - 1 = ((gs.length - k : Nat) : Int) := by omega
    rw [this]
    have : ((gs.length - k : Nat) : Int) / (k : Int) = (((gs.length - k) / k : Nat) : Int) := by rfl
    rw [this, Nat.div_eq_sub_div k1 kn]
    generalize (gs.length - k) / k = z
    omega
  unfold stepV tkL
  rw [e1]
  dsimp only
  rw [e2, List.map_map]
  refine fm_some fun i hi => ?_
  have hi := List.mem_range.mp hi
  have le : k * (i + 1) ≤ gs.length := Nat.le_trans (Nat.mul_le_mul_left k hi) (Nat.mul_div_le gs.length k)
  have k0 : 1 ≤ k * (i + 1) := Nat.mul_pos k1 (by omega)
  have e3 : (((k - 1 : Nat) : Int) + (i : Int) * (k : Int)).toNat = k * (i + 1) - 1 := by
    have : (i : Int) * (k : Int) = ((k * i : Nat) : Int) := by rw [Int.natCast_mul, Int.mul_comm]
    rw [this, Nat.mul_succ]
    omega
  rw [e3, List.getElem?_map, cf_at k0 le]
  rfl
theorem tk_len (gs : List Int) (k : Nat) : (tkL gs k).length = gs.length / k := by unfold tkL; simp
theorem tk_cf {gs : List Int} {k n : Nat} (n1 : 1 ≤ n) (h : n ≤ gs.length / k) : cf (tkL gs k) n = cf gs (k * n) := by
  have := cf_at (cs := tkL gs k) n1 (by rw [tk_len]; exact h)
  unfold tkL at this
  rw [List.getElem?_map, List.getElem?_range (by omega)] at this
  have this : cf gs (k * (n - 1 + 1)) = cf (tkL gs k) n := Option.some.inj this
  rw [show k * (n - 1 + 1) = k * n by congr 1; omega] at this
  exact this.symm
section
variable {P : Program} {w : World} {K : PySem.W.Frag} {mg : Str → Option Value} {base : Heap} {C : Addr}
/-! degree, taken, rests, single -/
def spDe (C : Addr) : Sp := fun vs H Q _ => ∃ (p : Addr) (cs gs : List Int), vs = [.ref p] ∧ WitAt C H p cs gs ∧ Q (.int (cs.length : Nat)) H
theorem scDe : FnScope ["self"] ["self"] (defScope (sIn 4)) := ⟨rfl, rfl, rfl, by decide +kernel, rfl, by decide +kernel, by decide +kernel⟩
theorem ok_de {f : Addr} {fd : FuncData} (F : Fun K "degree" "Witt.degree" (sIn 4) f fd) (N : NN mg) (T : Wt K mg C) : FnOk P w K mg base CX0 1 f fd ["self"] (spDe C) := by
  refine F.ok scDe (fun vs H Q E h => ?_) (fun cdv A outer s H vs Q E hr h => ?_)
  · obtain ⟨p, cs, gs, rfl, _⟩ := h
    rfl
  · obtain ⟨p, cs, gs, rfl, ⟨dx, tc, tg, hp, hc, hg⟩, k⟩ := h
    refine ⟨_, pss_one (ps_ret (pe_callB call_len_seq (by rfl) N.len (by decide +kernel) (pa_cons (pe_fld (pv 0) rfl) pa_nil))), ?_⟩
    refine ⟨_, rfl, p, C, dx, _, _, rfl, hp, T.cl, T.nC, wf_c _ _, tc, _, rfl, .inr (SqT.of hc), ?_⟩
    rw [List.length_map]
    exact k
def spTk (C : Addr) : Sp := fun vs H Q _ => ∃ (p : Addr) (cs gs es : List Int) (k : Nat), vs = [.ref p, .int k] ∧ WitAt C H p cs gs ∧ cs.length = gs.length ∧ gs.length ≤ 24 ∧ 2 ≤ k ∧ k ≤ gs.length ∧ es.length = gs.length / k ∧ Whl (tkL gs k) es ∧ (∀ g ∈ gs, g.natAbs < 2 ^ 500000) ∧ (∀ c ∈ es, Sm c) ∧
  ∀ H' r, Same H H' → WitAt C H' r es (tkL gs k) → Q (.ref r) H'
theorem scTk : FnScope ["self", "number"] ["self", "number"] (defScope (sIn 14)) := ⟨rfl, rfl, rfl, by decide +kernel, rfl, by decide +kernel, by decide +kernel⟩
theorem cf_mem {gs : List Int} {n : Nat} (n1 : 1 ≤ n) (h : n ≤ gs.length) : cf gs n ∈ gs := List.mem_of_getElem? (cf_at n1 h)
theorem ok_tk {f : Addr} {fd : FuncData} (F : Fun K "taken" "Witt.taken" (sIn 14) f fd) (N : NN mg) (T : Wt K mg C) (Ck : Has P w K mg base "check_count" 3 ["value", "low", "high"] spChk) (de : HasP P w K mg base C "degree" 1 (spDe C)) (Mw : HMw P w K mg base C) : FnOk P w K mg base CX0 11 f fd ["self", "number"] (spTk C) := by
  obtain ⟨fCk, dCk, GCk, mCk, kCk, bCk⟩ := Ck
  obtain ⟨fMw, dMw, GMw, mMw, kMw, bMw⟩ := Mw
  obtain ⟨pde_, gde, dde, pPde, Gde, bde⟩ := de
  obtain ⟨tG, hG⟩ := N.mgh
  refine F.ok scTk (fun vs H Q E h => ?_) (fun cdv A outer s H vs Q E hr h => ?_)
  · obtain ⟨p, cs, gs, es, k, rfl, _⟩ := h
    rfl
  · obtain ⟨p, cs, gs, es, k, rfl, wt, lc, l24, k2, kn, le, wh, bg, be, kk⟩ := h
    have wt0 := wt
    obtain ⟨dx, tc, tg, hp, hc, hg⟩ := wt
    refine ⟨_, pss_cons (ps_expr (pe_call GCk (hr.mono (by decide)) rfl mCk kCk bCk .nil pass0 (pa_cons (pv 1) (pa_cons pe_int (pa_cons (pe_glob rfl hG (show RelV (.int 24) (.int 24 tG) from ⟨_, rfl⟩)) pa_nil)))))
      (pss_cons (ps_if (pt_cmpR op_gt (pv 1) (pe_prop (pv 0) T.cl pPde Gde (hr.mono (by decide)) bde .nil pass0 rfl) (nomark _)) pss_never pss_nil)
      (pss_one (ps_ret (pe_call GMw (hr.mono (by decide)) rfl mMw kMw bMw .nil pass0 (pa_cons (pe_slice3 sl_tup3 (pe_fld (pv 0) rfl) (po_some (pe_op op_sub (pv 1) pe_int)) po_none (po_some (pv 1))) pa_nil))))), ?_⟩
    refine ⟨_, rfl, k, 1, 24, rfl, by omega, by omega, by unfold LONG; omega, by unfold LONG; omega, ?_⟩
    refine ⟨_, rfl, _, rfl, p, dx, _, rfl, hp, p, cs, gs, rfl, wt0, _, _, rfl, rfl, _, rfl, itF (decide_eq_false (by omega)) ?_⟩
    refine ⟨_, rfl, p, C, dx, _, _, rfl, hp, T.cl, T.nG, wf_g _ _, _, rfl, _, _, rfl, rfl, _, rfl, _, rfl, _, rfl, _, rfl, ?_⟩
    have kd : 1 ≤ gs.length / k := Nat.div_pos kn (by omega)
    have dl : gs.length / k ≤ gs.length := Nat.div_le_self _ _
    have st := step_tk (gs := gs) (k := k) (by omega) kn
    refine ⟨tg, _, rfl, SqT.of hg, by omega, by omega, ?_, fun q nq => ?_⟩
    · show (stepV (gs.map V.int) (some ((k : Int) - 1)) none (k : Int)).length ≤ sizeLine
      rw [st, List.length_map, tk_len]
      exact Nat.le_trans (show gs.length / k ≤ 1000 by omega) (by decide)
    refine ⟨q, tkL gs k, es, rfl, .inr ?_, by rw [tk_len, le], by rw [tk_len]; exact kd, by rw [tk_len]; omega, wh, (fun z hz => ?_), be, fun H' r s' wr => kk H' r (Same.tr (same_new nq) s') wr⟩
    · rw [upd_same]
      show some (HO.tup (stepV (gs.map V.int) (some ((k : Int) - 1)) none (k : Int))) = _
      rw [st]
    · unfold tkL at hz
      obtain ⟨i, hi, rfl⟩ := List.mem_map.mp hz
      have hi := List.mem_range.mp hi
      exact bg _ (cf_mem (Nat.mul_pos (by omega) (by omega)) (Nat.le_trans (Nat.mul_le_mul_left k hi) (Nat.mul_div_le gs.length k)))
def spRs (C : Addr) : Sp := fun vs H Q _ => ∃ (p : Addr) (cs gs : List Int) (m : Int), vs = [.ref p, .int m] ∧ WitAt C H p cs gs ∧ cs.length ≤ 24 ∧ 2 ≤ m ∧ m ≤ 10000 ∧
  ∀ H' t, Same H H' → H t = none → H' t = some (.tup ((cs.map fun c => c % m).map V.int)) → Q (.ref t) H'
abbrev nRs : List Str := ["self", "modulus", "number"]
theorem scRs : FnScope nRs ["self", "modulus"] (defScope (sIn 16)) := ⟨rfl, rfl, rfl, by decide +kernel, rfl, by decide +kernel, by decide +kernel⟩
theorem ok_rs {f : Addr} {fd : FuncData} (F : Fun K "rests" "Witt.rests" (sIn 16) f fd) (N : NN mg) (T : Wt K mg C) (Cl : Has P w K mg base "check_leading" 3 ["modulus"] spCm) : FnOk P w K mg base CX0 4 f fd ["self", "modulus"] (spRs C) := by
  obtain ⟨fCl, dCl, GCl, mCl, kCl, bCl⟩ := Cl
  refine F.ok scRs (fun vs H Q E h => ?_) (fun cdv A outer s H vs Q E hr h => ?_)
  · obtain ⟨p, cs, gs, m, rfl, _⟩ := h
    rfl
  · obtain ⟨p, cs, gs, m, rfl, ⟨dx, tc, tg, hp, hc, hg⟩, l24, m2, m9, k⟩ := h
    have m0 : m ≠ 0 := by omega
    refine ⟨_, pss_cons (ps_expr (pe_call GCl (hr.mono (by decide)) rfl mCl kCl bCl .nil pass0 (pa_cons (pv 1) pa_nil)))
      (pss_one (ps_ret (pe_callTy call_tuple_of (by rfl) N.tuple (by decide +kernel) (pa_cons (pe_lc (own := [("number", 2)]) (g := gName 2) (tt := tYes) rfl scRs.nd (pi_tup (pe_fld (pv 0) rfl)) (blkOk_by (own := [("number", 2)]) (N := nRs) (sc := defScope (sIn 16)) (by decide +kernel)) (fun _ _ _ _ _ => (pg_name (i := 2) scRs.nd rfl (.inl rfl))) (fun _ _ _ _ _ => pts_nil) (fun _ _ _ _ _ => (pe_op op_modN (pv 2) (pv 1)))) pa_nil)))), ?_⟩
    refine ⟨_, rfl, m, rfl, m2, m9, ?_⟩
    refine ⟨_, rfl, p, C, dx, _, _, rfl, hp, T.cl, T.nC, wf_c _ _, tc, rfl, ⟨_, SqT.of hc⟩, fun D hD => ?_⟩
    refine lc_tup (xs := cs.map V.int) (Acc H D fun i => ((cs.take i).map fun c => c % m).map V.int) (Acc.zero hD rfl) ?_ ?_ ?_
    · intro i H2 _ b
      exact SqT.of (b.1 _ _ hc)
    · intro i v H2 hv b
      rw [List.getElem?_map] at hv
      obtain ⟨c, hcc, rfl⟩ := Option.map_eq_some_iff.mp hv
      have il : i < cs.length := (List.getElem?_eq_some_iff.mp hcc).1
      refine ⟨rfl, ?_⟩
      refine ⟨_, rfl, _, rfl, _, _, rfl, rfl, m0, b.put hD (same_refl _) ?_ ?_⟩
      · rw [List.length_map, List.length_map, List.length_take]
        exact Nat.lt_of_le_of_lt (Nat.min_le_left _ _) (Nat.lt_of_lt_of_le (show i < 1000 by omega) (by decide))
      · rw [List.take_add_one, hcc, List.map_append, List.map_append]
        show _ ++ [V.int (c % m)] = _ ++ [V.int (Int.fmod c m)]
        rw [Int.fmod_eq_emod_of_nonneg c (show 0 ≤ m by omega)]
    · intro H2 b
      have b2 : H2 D = some (.lst (((cs.take (cs.map V.int).length).map fun c => c % m).map V.int)) := b.2
      rw [List.length_map, List.take_length] at b2
      exact ⟨D, _, rfl, .inl ⟨SqL.of b2, fun t nt => k _ t (Same.tr b.1 (same_new nt)) (none_of b.1 nt) upd_same⟩⟩
/-- Witt.single(1, 4) -/
def spSi (C : Addr) : Sp := fun vs H Q _ => vs = [.ref C, .int 1, .int 4] ∧ ∀ H' r, Same H H' → WitAt C H' r [1, 0, 0, 0] (gsOf [1, 0, 0, 0] 4) → Q (.ref r) H'
theorem scSi : FnScope ["cls", "number", "degree"] ["cls", "number", "degree"] (defScope (sIn 1)) := ⟨rfl, rfl, rfl, by decide +kernel, rfl, by decide +kernel, by decide +kernel⟩
theorem ok_si {f : Addr} {fd : FuncData} (F : Fun K "single" "Witt.single" (sIn 1) f fd) (N : NN mg) (T : Wt K mg C) (S : HSh P w K mg base) (Ck : Has P w K mg base "check_count" 3 ["value", "low", "high"] spChk) (I : HWit P w K mg base C) : FnOk P w K mg base CX0 10 f fd ["cls", "number", "degree"] (spSi C) := by
  obtain ⟨fS, dS, GS, mS, kS, bS⟩ := S
  obtain ⟨fCk, dCk, GCk, mCk, kCk, bCk⟩ := Ck
  obtain ⟨tG, hG⟩ := N.mgh
  obtain ⟨fI, dI, GI, MI, bI⟩ := I
  refine F.ok scSi (fun vs H Q E h => ?_) (fun cdv A outer s H vs Q E hr h => ?_)
  · obtain ⟨rfl, _⟩ := h
    rfl
  · obtain ⟨rfl, k⟩ := h
    refine ⟨_, pss_cons (ps_if (pt_not (pt_val (pe_call GS (hr.mono (by decide)) rfl mS kS bS .nil pass0 (pa_cons (pv 1) pa_nil)))) pss_never pss_nil)
      (pss_cons (ps_expr (pe_call GCk (hr.mono (by decide)) rfl mCk kCk bCk .nil pass0 (pa_cons (pv 2) (pa_cons pe_int (pa_cons (pe_glob rfl hG (show RelV (.int 24) (.int 24 tG) from ⟨_, rfl⟩)) pa_nil)))))
      (pss_one (ps_ret (pe_makeL (i := 0) MI GI (hr.mono (by decide)) rfl (.inl rfl) bI .nil pass0 (pa_cons (pe_op op_catA (pe_tup (pa_cons (pv 1) pa_nil)) (pe_op op_repA (pe_tup (pa_cons pe_int pa_nil)) (pe_op op_sub (pv 2) pe_int))) pa_nil))))), ?_⟩
    refine ⟨_, rfl, 1, rfl, _, rfl, itF (by decide) ?_⟩
    refine ⟨_, rfl, 4, 1, 24, rfl, by decide, by decide, by decide, by decide, ?_⟩
    refine ⟨rfl, _, rfl, (by show 1 ≤ sizeLine; decide), fun t1 n1 => ⟨(by show 1 ≤ sizeLine; decide), fun t2 n2 => ?_⟩⟩
    have s1 := same_new n1 (o := .tup [V.int 1])
    have s2 := same_new n2 (o := .tup [V.int 0])
    have e1 := s2 _ _ (upd_same (a := t1))
    have e2 : (upd (upd H t1 (.tup [V.int 1])) t2 (.tup [V.int 0])) t2 = some (.tup [V.int 0]) := upd_same
    have S2 := Same.tr s1 s2
    generalize upd (upd H t1 (.tup [V.int 1])) t2 (.tup [V.int 0]) = H2 at *
    refine ⟨_, rfl, _, _, rfl, rfl, t2, 3, _, rfl, rfl, SqT.of e2, by simp, by decide, by decide, by decide, (fun z => absurd z (by decide)), fun _ t3 n3 => ?_⟩
    refine ⟨t1, t3, [V.int 1], [V.int 0, V.int 0, V.int 0], rfl, rfl, SqT.of (same_new n3 _ _ e1), SqT.of upd_same, by decide, (fun z => nomatch z), (fun _ z => nomatch z), fun _ _ t4 n4 => ?_⟩
    have s3 := same_new n3 (o := .tup [V.int 0, V.int 0, V.int 0])
    refine fun x dx nx nd ne => ?_
    have S4 := Same.tr S2 (Same.tr s3 (same_new n4 (o := .tup [V.int 1, V.int 0, V.int 0, V.int 0])))
    refine ⟨x, dx, t4, [1, 0, 0, 0], rfl, upd_same, ?_, by decide, by decide, ?_, fun H5 tg bu hx ht hg => ⟨rfl, ?_⟩⟩
    · have a1 : t4 ≠ x := fun q => by rw [← q] at nx; rw [upd_same] at nx; cases nx
      have a2 : t4 ≠ dx := fun q => by rw [← q] at nd; rw [upd_same] at nd; cases nd
      rw [upd_ne a1, upd_ne a2]
      exact upd_same
    · intro c hc
      have : c = 1 ∨ c = 0 := by
        simp only [List.mem_cons, List.not_mem_nil, or_false] at hc
        omega
      unfold LONG
      omega
    · exact k H5 x (Same.tr S4 (made_wit (t := t4) (tg := tg) (cs := [0]) nx nd bu)) ⟨dx, t4, tg, hx, ht, hg⟩
/-! the law's helpers -/
abbrev sDic : Stmt := top 39
def spDic (K : PySem.W.Frag) : Sp := fun vs H Q _ => ∃ (a : Addr) (ns : List Int) (i : Nat), vs = [.ref a, .int i] ∧ SqL K H a (ns.map V.int) ∧ i < 64 ∧ ∀ (p : Addr) (x y : Int), H p = none → Q (.ref p) (upd H p (.lst [.int x, .int y, .int 0]))
abbrev nDic : List Str := ["_law_script", "_law_spot", "_law_cell", "_law_left"]
theorem scDic : FnScope nDic ["_law_script", "_law_spot"] (defScope sDic) := ⟨rfl, rfl, rfl, by decide +kernel, rfl, by decide +kernel, by decide +kernel⟩
theorem ok_dic {f : Addr} {fd : FuncData} (F : Fun K "_law_dice" "_law_dice" sDic f fd) (B : Bl mg) :
    FnOk P w K mg base CX0 1 f fd ["_law_script", "_law_spot"] (spDic K) := by
  refine F.ok scDic (fun vs H Q E h => ?_) (fun cdv A outer s H vs Q E hr h => ?_)
  · obtain ⟨a, ns, i, rfl, _⟩ := h
    rfl
  · obtain ⟨a, ns, i, rfl, hS, hi, k⟩ := h
    refine ⟨_, pss_cons (ps_set (i := 2) scDic.nd rfl (.inl rfl) (pe_ifExp (pt_cmpR op_lt (pv 1) (pe_callB call_len_seq (by rfl) B.len (by decide +kernel) (pa_cons (pv 0) pa_nil)) (nomark _))
        (pe_callTy call_int1 (by rfl) B.int PyProof.Rows.boot_int (pa_cons (pe_ix ix_list (pv 0) (pv 1) (fun _ _ => rfl)) pa_nil)) (pe_op op_add (pe_op op_mul pe_int (pv 1)) pe_int)))
      (pss_cons (ps_set (i := 3) scDic.nd rfl (.inl rfl) (pe_op op_modN (pe_callB (call_max2 rfl) (by rfl) B.max (by decide +kernel) (pa_cons pe_int (pa_cons (pe_op op_sub (pe_callB call_abs (by rfl) B.abs PyProof.Rows.boot_abs (pa_cons (pv 2) pa_nil)) (pe_op op_pow pe_int pe_int)) pa_nil)))
        (pe_op op_mulW (pe_op op_pow pe_int pe_int) (pe_op op_pow pe_int pe_int))))
      (pss_one (ps_ret (pe_lst (pa_cons (pv 3) (pa_cons (pe_op op_add (pe_op op_add (pe_op op_add (pe_op op_mul (pe_op op_modN (pe_callB call_abs (by rfl) B.abs PyProof.Rows.boot_abs (pa_cons (pv 2) pa_nil)) pe_int) pe_int) (pe_op op_mul pe_int (pv 1)))
        (pe_op op_mul pe_int (pe_callTy call_int1 (by rfl) B.int PyProof.Rows.boot_int (pa_cons (pe_cmpR op_lt (pv 2) pe_int (nomark _)) pa_nil)))) pe_int) (pa_cons pe_int pa_nil))))))), ?_⟩
    refine ⟨_, rfl, _, rfl, a, _, rfl, .inl hS, _, _, rfl, rfl, _, rfl, ?_⟩
    rw [List.length_map]
    by_cases c : (i : Int) < (ns.length : Int)
    · obtain ⟨z, hz⟩ : ∃ z, ns[i]? = some z := ⟨ns[i]'(by omega), List.getElem?_eq_getElem (by omega)⟩
      refine itT (decide_eq_true c) ?_
      refine ⟨_, rfl, _, rfl, a, _, i, _, rfl, rfl, hS, atI_nat (by rw [List.getElem?_map, hz]; rfl), .inl ⟨z, rfl, ?_⟩⟩
      refine ⟨_, rfl, z, rfl, _, _, rfl, rfl, ⟨by decide, by decide, by decide⟩, _, _, rfl, rfl, _, _, rfl, _, _, rfl, rfl, ⟨by decide, by decide, by decide⟩, _, _, rfl, rfl, ⟨by decide, by decide, by decide⟩, _, _, rfl, rfl,
        wide_mul (a := 200) (b := 200) (by decide) (by decide) (by decide) (by decide) (by decide), _, _, rfl, rfl, (by show (_ : Int) ≠ 0; decide), ?_⟩
      refine ⟨_, rfl, _, rfl, z, rfl, _, _, rfl, rfl, (by show (_ : Int) ≠ 0; decide), _, _, rfl, rfl, .inr ⟨by decide, by decide⟩, _, rfl, _, _, rfl, rfl, .inl ⟨by decide, by decide⟩, _, _, rfl, rfl, ?_⟩
      exact ⟨_, rfl, _, _, rfl, rfl, .inr ⟨_, rfl, _, _, rfl, rfl, .inl ⟨by decide, by decide⟩, _, _, rfl, rfl, _, _, rfl, rfl, (by show 3 ≤ sizeLine; decide), fun p hp => k p _ _ hp⟩⟩
    · refine itF (decide_eq_false c) ?_
      refine ⟨_, rfl, _, _, rfl, rfl, .inl ⟨by decide, by decide⟩, _, _, rfl, rfl, ?_⟩
      refine ⟨_, rfl, (71 * (i : Int) + 23), rfl, _, _, rfl, rfl, ⟨by decide, by decide, by decide⟩, _, _, rfl, rfl, _, _, rfl, _, _, rfl, rfl, ⟨by decide, by decide, by decide⟩, _, _, rfl, rfl, ⟨by decide, by decide, by decide⟩, _, _, rfl, rfl,
        wide_mul (a := 200) (b := 200) (by decide) (by decide) (by decide) (by decide) (by decide), _, _, rfl, rfl, (by show (_ : Int) ≠ 0; decide), ?_⟩
      refine ⟨_, rfl, _, rfl, (71 * (i : Int) + 23), rfl, _, _, rfl, rfl, (by show (_ : Int) ≠ 0; decide), _, _, rfl, rfl, .inr ⟨by decide, by decide⟩, _, rfl, _, _, rfl, rfl, .inl ⟨by decide, by decide⟩, _, _, rfl, rfl, ?_⟩
      exact ⟨_, rfl, _, _, rfl, rfl, .inr ⟨_, rfl, _, _, rfl, rfl, .inl ⟨by decide, by decide⟩, _, _, rfl, rfl, _, _, rfl, rfl, (by show 3 ≤ sizeLine; decide), fun p hp => k p _ _ hp⟩⟩

abbrev sPw : Stmt := top 42
abbrev sDr : Stmt := top 43
def spPw : Sp := fun vs H Q _ => ∃ (x : Int) (n : Nat), vs = [.int x, .int n] ∧ n ≤ 24 ∧ x.natAbs < 2 ^ 30000 ∧ ∀ H', Same H H' → Q (.int (x ^ n)) H'
theorem scPw : FnScope ["_law_number", "_law_many", "_law_found", "_law_turn"] ["_law_number", "_law_many"] (defScope sPw) := ⟨rfl, rfl, rfl, by decide +kernel, rfl, by decide +kernel, by decide +kernel⟩
theorem ok_pw {f : Addr} {fd : FuncData} (F : Fun K "_law_gh_power" "_law_gh_power" sPw f fd) (N : NN mg) : FnOk P w K mg base CX0 1 f fd ["_law_number", "_law_many"] spPw := by
  refine F.ok scPw (fun vs H Q E h => ?_) (fun cdv A outer s H vs Q E hr h => ?_)
  · obtain ⟨x, n, rfl, _⟩ := h
    rfl
  · obtain ⟨x, n, rfl, n24, hx, k⟩ := h
    refine ⟨_, pss_cons (ps_set (i := 2) scPw.nd rfl (.inl rfl) pe_int)
      (pss_cons (ps_for PassesOwn.never rfl (pi_range1 rfl N.range (pa_cons (pv 1) pa_nil)) (pg_name (i := 3) scPw.nd rfl (.inl rfl)) (pss_one (ps_set (i := 2) scPw.nd rfl (.inl rfl) (pe_op op_mulW (pv 2) (pv 0)))))
      (pss_one (ps_ret (pv 2)))), ?_⟩
    refine ⟨_, rfl, _, rfl, by omega, by omega, for_range (fun j σ H3 => ∃ u5 : Option V, σ = [some (.int x), some (.int n), some (.int (x ^ j)), u5] ∧ H3 = H) ⟨none, by rw [Int.pow_zero]; rfl, rfl⟩ ?_ ?_⟩
    · rintro j σ H3 hj ⟨u5, rfl, rfl⟩
      have wx : Wd x 30000 := ⟨hx⟩
      have wp : Wd (x ^ j) 720001 := ⟨Nat.lt_of_lt_of_le (pow_wd hx (by decide) j) (Nat.pow_le_pow_right (by decide) (by omega))⟩
      refine ⟨_, rfl, _, rfl, _, _, rfl, rfl, mI, some (.int (0 + (j : Nat))), ?_, rfl⟩
      rw [Int.pow_succ]
      rfl
    · rintro σ H3 ⟨u5, rfl, rfl⟩
      rw [Int.toNat_natCast]
      exact ⟨_, rfl, k _ (same_refl _)⟩
def spDr : Sp := fun vs H Q _ => ∃ (p : Addr) (n : Nat), vs = [.ref p, .int n, .int 5] ∧ DicAt H p ∧ 1 ≤ n ∧ n ≤ 12 ∧
  ∀ (H' : Hp) (t : Addr) (cs : List Int), Kq p H H' → DicAt H' p → t ≠ p → cs.length = n → (∀ c ∈ cs, -5 ≤ c ∧ c ≤ 5) → H' t = some (.tup (cs.map V.int)) → Q (.ref t) H'
abbrev nDr : List Str := ["_law_dice_here", "_law_size", "_law_most", "_law_turn"]
theorem scDr : FnScope nDr ["_law_dice_here", "_law_size", "_law_most"] (defScope sDr) := ⟨rfl, rfl, rfl, by decide +kernel, rfl, by decide +kernel, by decide +kernel⟩
theorem ok_dr {f : Addr} {fd : FuncData} (F : Fun K "_law_gh_drawn" "_law_gh_drawn" sDr f fd) (N : NN mg) (R : HRoll P w K mg base) (Pk : HPick P w K mg base) : FnOk P w K mg base CX0 3 f fd ["_law_dice_here", "_law_size", "_law_most"] spDr := by
  obtain ⟨fR, dR, GR, mR, kR, bR⟩ := R
  obtain ⟨fPk, dPk, GPk, mPk, kPk, bPk⟩ := Pk
  refine F.ok scDr (fun vs H Q E h => ?_) (fun cdv A outer s H vs Q E hr h => ?_)
  · obtain ⟨p, n, rfl, _⟩ := h
    rfl
  · obtain ⟨p, n, rfl, dc, n1, n12, k⟩ := h
    refine ⟨_, pss_one (ps_ret (pe_callTy call_tuple_of (by rfl) N.tuple (by decide +kernel) (pa_cons (pe_lc (own := [("_law_turn", 3)]) (g := gName 3) (tt := tYes) rfl scDr.nd (pi_range1 rfl N.range (pa_cons (pv 1) pa_nil)) (blkOk_by (own := [("_law_turn", 3)]) (N := nDr) (sc := defScope sDr) (by decide +kernel)) (fun _ _ _ _ _ => (pg_name (i := 3) scDr.nd rfl (.inl rfl))) (fun _ _ _ _ _ => pts_nil) (fun _ _ _ _ _ => (pe_call GPk (hr.mono (by decide)) rfl mPk kPk bPk .nil pass0 (pa_cons (pv 0) (pa_cons (pe_lst (pa_cons pe_int (pa_cons pe_int (pa_cons pe_int (pa_cons (pe_un un_neg pe_int) (pa_cons pe_int (pa_cons (pe_op op_sub (pe_call GR (hr.mono (by decide)) rfl mR kR bR .nil pass0 (pa_cons (pv 0) (pa_cons (pe_op op_add (pe_op op_mulW pe_int (pv 2)) pe_int) pa_nil))) (pv 2)) pa_nil))))))) pa_nil))))) pa_nil))), ?_⟩
    refine ⟨_, rfl, n, rfl, by omega, by omega, fun D hD => ?_⟩
    refine lc_range (AccR p H D (fun x => -5 ≤ x ∧ x ≤ 5)) (AccR.zero dc hD) ?_ ?_
    · intro i H8 hi a8
      refine ⟨rfl, ?_⟩
      have a80 := a8
      obtain ⟨q1, ⟨u1, u2, u3, hp8⟩, rest⟩ := a8
      refine ⟨_, rfl, _, rfl, _, rfl, _, rfl, _, _, rfl, rfl, mI, _, _, rfl, rfl, p, u1, u2, u3, 11, rfl, hp8, by decide, by decide, fun r2 a2 c2 r0 r1 => ?_⟩
      refine ⟨_, rfl, _, _, rfl, rfl, (by show 6 ≤ sizeLine; decide), fun l nl => ?_⟩
      have hp9 : (upd H8 p (.lst [.int a2, .int u2, .int c2])) p = some (.lst [.int a2, .int u2, .int c2]) := upd_same
      have nlp : l ≠ p := fun z => by rw [z, hp9] at nl; cases nl
      refine ⟨p, l, a2, u2, c2, _, rfl, same_new nl _ _ hp9, SqL.of upd_same, nlp, by show 0 < 6; decide, by show 6 < 1000; decide, fun j x a3 c3 hx => ?_⟩
      obtain ⟨z, rfl, hz⟩ : ∃ z : Int, x = .int z ∧ (-5 ≤ z ∧ z ≤ 5) := by
        match j, hx with
        | 0, h => cases h; exact ⟨0, rfl, by decide⟩
        | 1, h => cases h; exact ⟨0, rfl, by decide⟩
        | 2, h => cases h; exact ⟨1, rfl, by decide⟩
        | 3, h => cases h; exact ⟨-1, rfl, by decide⟩
        | 4, h => cases h; exact ⟨2, rfl, by decide⟩
        | 5, h => cases h; exact ⟨r2 - 5, rfl, by omega⟩
      exact a80.put dc hD (Kq.trans kq_upd (Kq.trans (kq_same (same_new nl)) kq_upd)) dic_upd hz (by omega)
    · rintro H8 ⟨k8, d8, xs, lx, bx, hx⟩
      refine ⟨D, _, rfl, .inl ⟨SqL.of hx, fun q nq => ?_⟩⟩
      obtain ⟨u1, u2, u3, hp8⟩ := d8
      have nqp : q ≠ p := fun z => by rw [z, hp8] at nq; cases nq
      exact k _ q xs (Kq.trans k8 (kq_same (same_new nq))) (dic_same (same_new nq) ⟨u1, u2, u3, hp8⟩) nqp (by rw [lx]; rfl) bx upd_same
end
end Lk

set_option Elab.async false
set_option linter.all false
set_option maxRecDepth 100000
set_option maxHeartbeats 4000000
set_option exponentiation.threshold 1000000
namespace Lk
open PySem L2
/-! what stands when dice change -/
theorem tup_kq {p t : Addr} {H H' : Hp} {xs : List V} (d : DicAt H p) (k : Kq p H H') (h : H t = some (.tup xs)) : H' t = some (.tup xs) := by
  obtain ⟨a, b, c, e⟩ := d
  exact k t _ (fun z => by rw [z, e] at h; cases h) h
theorem wit_kq {C p q : Addr} {H H' : Hp} {cs gs : List Int} (d : DicAt H p) (k : Kq p H H') (h : WitAt C H q cs gs) : WitAt C H' q cs gs := by
  obtain ⟨dx, tc, tg, h1, h2, h3⟩ := h
  refine ⟨dx, tc, tg, k q _ (fun z => ?_) h1, tup_kq d k h2, tup_kq d k h3⟩
  obtain ⟨a, b, c, e⟩ := d
  rw [z, e] at h1; cases h1
/-! lists and functions from 1 on -/
def ofF (c : Nat → Int) (N : Nat) : List Int := (List.range N).map fun i => c (i + 1)
theorem ofF_len (c : Nat → Int) (N : Nat) : (ofF c N).length = N := by unfold ofF; simp
theorem cf_ofF {c : Nat → Int} {N n : Nat} (n1 : 1 ≤ n) (h : n ≤ N) : cf (ofF c N) n = c n := by
  have := cf_at (cs := ofF c N) n1 (by rw [ofF_len]; exact h)
  unfold ofF at this
  rw [List.getElem?_map, List.getElem?_range (by omega)] at this
  have this : c (n - 1 + 1) = cf (ofF c N) n := Option.some.inj this
  rw [show n - 1 + 1 = n by omega] at this
  exact this.symm
theorem gsOf_cf {cs : List Int} {N n : Nat} (n1 : 1 ≤ n) (h : n ≤ N) : cf (gsOf cs N) n = C68.gh (cf cs) n := cf_ofF n1 h
theorem gsOf_len (cs : List Int) (N : Nat) : (gsOf cs N).length = N := ofF_len _ N
theorem list_ext {a b : List Int} {N : Nat} (ha : a.length = N) (hb : b.length = N) (h : ∀ n, 1 ≤ n → n ≤ N → cf a n = cf b n) : a = b := by
  apply List.ext_getElem?
  intro i
  by_cases l : i < N
  · have e1 : a[i]? = some (cf a (i + 1)) := cf_at (cs := a) (d := i + 1) (by omega) (by omega)
    have e2 : b[i]? = some (cf b (i + 1)) := cf_at (cs := b) (d := i + 1) (by omega) (by omega)
    rw [e1, e2, h (i + 1) (by omega) (by omega)]
  · rw [List.getElem?_eq_none (by omega), List.getElem?_eq_none (by omega)]
theorem cf_map {a : List Int} {f : Int → Int} {n : Nat} (n1 : 1 ≤ n) (h : n ≤ a.length) : cf (a.map f) n = f (cf a n) := by
  have e := cf_at (cs := a.map f) n1 (by rw [List.length_map]; exact h)
  rw [List.getElem?_map, cf_at n1 h] at e
  exact (Option.some.inj e).symm
theorem mod_eq {a b : List Int} {m N : Nat} (ha : a.length = N) (hb : b.length = N) (h : ∀ n, 1 ≤ n → n ≤ N → (m : Int) ∣ cf a n - cf b n) : (a.map fun c => c % (m : Int)) = b.map fun c => c % (m : Int) := by
  refine list_ext (N := N) (by rw [List.length_map, ha]) (by rw [List.length_map, hb]) fun n n1 nN => ?_
  rw [cf_map n1 (by omega), cf_map n1 (by omega)]
  exact Int.emod_eq_emod_iff_emod_sub_eq_zero.mpr (Int.emod_eq_zero_of_dvd (h n n1 nN))
/-- whole coordinates of what keeps the congruences -/
theorem ex_es {N : Nat} (hN : N ≤ 12) {a : Nat → Int} (ha : C68.G N a) (b : ∀ n, 1 ≤ n → n ≤ N → (a n).natAbs < 2 ^ 500) : ∃ es : List Int, es.length = N ∧ (∀ n, 1 ≤ n → n ≤ N → C68.gh (cf es) n = a n) ∧ ∀ c ∈ es, Sm c := by
  obtain ⟨c, hc⟩ := C68.dwork hN ha
  refine ⟨ofF c N, ofF_len c N, fun n n1 nN => ?_, fun z hz => ?_⟩
  · rw [← hc n n1 nN]
    exact C68.gh_congr n1 (by omega) fun d a b => cf_ofF a (by omega)
  · unfold ofF at hz
    obtain ⟨i, hi, rfl⟩ := List.mem_map.mp hz
    have := List.mem_range.mp hi
    exact Nat.lt_of_lt_of_le (C68.sizes hN hc b (i + 1) (by omega) (by omega)) (Nat.pow_le_pow_right (by decide) (by decide))
abbrev Sh (cs : List Int) : Prop := ∀ c ∈ cs, c.natAbs < 2 ^ 15
theorem cf_sh {cs : List Int} (h : Sh cs) (d : Nat) : (cf cs d).natAbs < 2 ^ 15 := by
  unfold cf
  rw [List.getD_eq_getElem?_getD]
  cases e : cs[d - 1]? with
  | none => exact Nat.pow_pos (by decide)
  | some x => exact h x (List.mem_of_getElem? e)
theorem gh_sh {cs : List Int} (h : Sh cs) {n : Nat} (n1 : 1 ≤ n) (n12 : n ≤ 12) : (C68.gh (cf cs) n).natAbs < 2 ^ 190 := C68.gh_size (b := 15) n1 n12 fun d _ _ => cf_sh h d
theorem gsOf_sm {cs : List Int} (h : Sh cs) {N : Nat} (hN : N ≤ 12) : ∀ g ∈ gsOf cs N, g.natAbs < 2 ^ 240000 := by
  intro g hg
  unfold gsOf at hg
  obtain ⟨i, hi, rfl⟩ := List.mem_map.mp hg
  have := List.mem_range.mp hi
  exact Nat.lt_of_lt_of_le (gh_sh h (by omega) (by omega)) (Nat.pow_le_pow_right (by decide) (by decide))
def MD : List Nat := [2, 3, 4, 6, 9, 10, 97, 10000]
theorem md_ok : ∀ m ∈ MD, C68.cB m = true ∧ C68.cC m = true ∧ 2 ≤ m ∧ m ≤ 10000 := by decide +kernel
/-- far coordinates that leave the same -/
def Near (m : Nat) (cs ds : List Int) : Prop := cs.length = ds.length ∧ ∀ n, 1 ≤ n → n ≤ cs.length → (m : Int) ∣ cf cs n - cf ds n
section
variable {N m : Nat} (hN : N ≤ 12) (hm : m ∈ MD) {cs ds cs' ds' : List Int} (l1 : cs.length = N) (l2 : ds.length = N) (n1 : Near m cs cs') (n2 : Near m ds ds')
include hN hm l1 l2 n1 n2
theorem op_rest {op : Int → Int → Int} {es es' : List Int} (le : es.length = N) (le' : es'.length = N) (h : ∀ n, 1 ≤ n → n ≤ N → C68.gh (cf es) n = op (C68.gh (cf cs) n) (C68.gh (cf ds) n)) (h' : ∀ n, 1 ≤ n → n ≤ N → C68.gh (cf es') n = op (C68.gh (cf cs') n) (C68.gh (cf ds') n))
    (ho : ∀ M x y x' y' : Int, M ∣ x - x' → M ∣ y - y' → M ∣ op x y - op x' y') : (es.map fun c => c % (m : Int)) = es'.map fun c => c % (m : Int) := by
  obtain ⟨hB, hC, m2, m9⟩ := md_ok m hm
  refine mod_eq le le' (C68.same_coords hB hC hN fun n a b => ?_)
  rw [h n a b, h' n a b]
  exact ho _ _ _ _ _ (C68.same_ghosts hB a (by omega) fun d d1 dn => n1.2 d d1 (by omega)) (C68.same_ghosts hB a (by omega) fun d d1 dn => n2.2 d d1 (by omega))
end
theorem o_add (M x y x' y' : Int) (h : M ∣ x - x') (k : M ∣ y - y') : M ∣ x + y - (x' + y') := by
  have := Int.dvd_add h k
  rwa [show x - x' + (y - y') = x + y - (x' + y') by omega] at this
theorem o_sub (M x y x' y' : Int) (h : M ∣ x - x') (k : M ∣ y - y') : M ∣ x - y - (x' - y') := by
  have := Int.dvd_sub h k
  rwa [show x - x' - (y - y') = x - y - (x' - y') by omega] at this
theorem o_mul (M x y x' y' : Int) (h : M ∣ x - x') (k : M ∣ y - y') : M ∣ x * y - x' * y' := by
  have := Int.dvd_add (Int.dvd_trans h (Int.dvd_mul_right _ y)) (Int.dvd_trans k (Int.dvd_mul_left x' _))
  rwa [show (x - x') * y + x' * (y - y') = x * y - x' * y' by grind] at this
end Lk

set_option Elab.async false
set_option linter.all false
set_option maxRecDepth 100000
set_option maxHeartbeats 4000000
set_option exponentiation.threshold 1000000
namespace Lk
open PySem L2
theorem flat_rep : ∀ n : Nat, (List.replicate n [V.int 0]).flatten = List.replicate n (V.int 0)
  | 0 => rfl
  | n + 1 => by rw [List.replicate_succ, List.flatten_cons, flat_rep n, List.replicate_succ]; rfl
/-- the primes among the first i of 2, 3, 5, 7 to N -/
def pL (i N : Nat) : List Int := (([2, 3, 5, 7] : List Int).take i).filter fun q => decide (q ≤ (N : Int))
theorem pr_ok : ∀ p ∈ [2, 3, 5, 7], p ∈ C68.PR ∧ C68.cB p = true ∧ 2 ≤ p ∧ p ≤ 7 := by decide +kernel
theorem rep_use {F : V → Hp → Prop} {H : Hp} {z : Addr} {N : Nat} (ez : H z = some (.tup [V.int 0])) (h : ∀ t Hq, Same H Hq → Hq t = some (.tup ((List.replicate N (0 : Int)).map V.int)) → F (.ref t) Hq) :
    ((N : Int) = 1 → F (.ref z) H) ∧ ((N : Int) ≠ 1 → ∀ p, H p = none → F (.ref p) (upd H p (.tup (List.replicate (N : Int).toNat [V.int 0]).flatten))) := by
  have e : (List.replicate (N : Int).toNat [V.int 0]).flatten = (List.replicate N (0 : Int)).map V.int := by
    rw [Int.toNat_natCast, List.map_replicate]
    exact flat_rep N
  refine ⟨fun e1 => ?_, fun _ p np => ?_⟩
  · have : N = 1 := by omega
    subst this
    exact h z H (same_refl H) ez
  · exact h p _ (same_new np) (by rw [upd_same, e])
theorem mem_cf {l : List Int} {g : Int} (h : g ∈ l) : ∃ n, 1 ≤ n ∧ n ≤ l.length ∧ g = cf l n := by
  obtain ⟨i, hi⟩ := List.getElem?_of_mem h
  have il : i < l.length := (List.getElem?_eq_some_iff.mp hi).1
  refine ⟨i + 1, by omega, by omega, ?_⟩
  unfold cf
  rw [List.getD_eq_getElem?_getD, Nat.add_sub_cancel, hi]
  rfl
theorem cf_zip {a b : List Int} {op : Int → Int → Int} {n : Nat} (n1 : 1 ≤ n) (ha : n ≤ a.length) (hb : n ≤ b.length) : cf (List.zipWith op a b) n = op (cf a n) (cf b n) := by
  have e := cf_at (cs := List.zipWith op a b) n1 (by rw [List.length_zipWith]; omega)
  rw [List.getElem?_zipWith, cf_at n1 ha, cf_at n1 hb] at e
  exact (Option.some.inj e).symm
section
variable {P : Program} {w : World} {K : PySem.W.Frag} {mg : Str → Option Value} {base : Heap} {C : Addr}

abbrev sRi : Stmt := top 44
def spRi : Sp := fun vs H Q _ => ∃ p : Addr, vs = [.ref p] ∧ DicAt H p ∧ ∀ H' : Hp, Kq p H H' → DicAt H' p → Q (.bl true) H'
abbrev nRi : List Str := ["_law_dice_here", "_law_size", "_law_modulus", "_law_one", "_law_two", "_law_far", "_law_near", "_law_first", "_law_second", "_law_third", "_law_fourth", "_law_prime", "_law_primes", "_law_powers", "_law_total", "_law_turn", "_law_led", "_law_moved", "_law_entry", "_law_n"]
theorem scRi : FnScope nRi ["_law_dice_here"] (defScope sRi) := ⟨rfl, rfl, rfl, by decide +kernel, rfl, by decide +kernel, by decide +kernel⟩
abbrev HDr (P : Program) (w : World) (K : PySem.W.Frag) (mg : Str → Option Value) (base : Heap) : Prop := Has P w K mg base "_law_gh_drawn" 3 ["_law_dice_here", "_law_size", "_law_most"] spDr
abbrev HPw (P : Program) (w : World) (K : PySem.W.Frag) (mg : Str → Option Value) (base : Heap) : Prop := Has P w K mg base "_law_gh_power" 1 ["_law_number", "_law_many"] spPw
theorem ok_ri {f : Addr} {fd : FuncData} (F : Fun K "_law_right" "_law_right" sRi f fd) (Nn : NN mg) (T : Wt K mg C) (R : HRoll P w K mg base) (Pk : HPick P w K mg base) (Dr : HDr P w K mg base) (Pw : HPw P w K mg base) (I : HWit P w K mg base C)
    (Pl : HasM P w K mg base C "plus" 11 ["self", "other"] (spBi C (fun x y => x + y))) (Mi : HasM P w K mg base C "minus" 11 ["self", "other"] (spBi C (fun x y => x - y))) (Ti : HasM P w K mg base C "times" 11 ["self", "other"] (spBi C (fun x y => x * y))) (Tk : HasM P w K mg base C "taken" 11 ["self", "number"] (spTk C)) (Rs : HasM P w K mg base C "rests" 4 ["self", "modulus"] (spRs C)) :
    FnOk P w K mg base CX0 12 f fd ["_law_dice_here"] spRi := by
  obtain ⟨fR, dR, GR, mR, kR, bR⟩ := R
  obtain ⟨fPk, dPk, GPk, mPk, kPk, bPk⟩ := Pk
  obtain ⟨fDr, dDr, GDr, mDr, kDr, bDr⟩ := Dr
  obtain ⟨fPw, dPw, GPw, mPw, kPw, bPw⟩ := Pw
  obtain ⟨fPl, dPl, GPl, mPl, bPl⟩ := Pl
  obtain ⟨fMi, dMi, GMi, mMi, bMi⟩ := Mi
  obtain ⟨fTi, dTi, GTi, mTi, bTi⟩ := Ti
  obtain ⟨fTk, dTk, GTk, mTk, bTk⟩ := Tk
  obtain ⟨fRs, dRs, GRs, mRs, bRs⟩ := Rs
  obtain ⟨fI, dI, GI, MI, bI⟩ := I
  refine F.ok scRi (fun vs H Q E h => ?_) (fun cdv A outer s H vs Q E hr h => ?_)
  · obtain ⟨p, rfl, _⟩ := h
    rfl
  · obtain ⟨p, rfl, ⟨a, b, c, hp⟩, k⟩ := h
    refine ⟨_, pss_cons (ps_asg (pe_tup (pa_cons (pe_op op_add pe_int (pe_call GR (hr.mono (by decide)) rfl mR kR bR .nil pass0 (pa_cons (pv 0) (pa_cons pe_int pa_nil)))) (pa_cons (pe_call GPk (hr.mono (by decide)) rfl mPk kPk bPk .nil pass0 (pa_cons (pv 0) (pa_cons (pe_lst (pa_cons pe_int (pa_cons pe_int (pa_cons pe_int (pa_cons pe_int (pa_cons pe_int (pa_cons pe_int (pa_cons pe_int (pa_cons pe_int pa_nil))))))))) pa_nil))) pa_nil))) (pg_tup rfl (pgs_cons (pg_name (i := 1) scRi.nd rfl (.inr rfl)) (pgs_cons (pg_name (i := 2) scRi.nd rfl (.inr rfl)) pgs_nil))))
      (pss_cons (ps_par (i := 3) (j := 4) (by rfl) scRi.nd rfl rfl (by decide) rfl rfl (pa_cons (pe_call GDr (hr.mono (by decide)) rfl mDr kDr bDr .nil pass0 (pa_cons (pv 0) (pa_cons (pv 1) (pa_cons pe_int pa_nil)))) (pa_cons (pe_call GDr (hr.mono (by decide)) rfl mDr kDr bDr .nil pass0 (pa_cons (pv 0) (pa_cons (pv 1) (pa_cons pe_int pa_nil)))) pa_nil)) (by rfl))
      (pss_cons (ps_set (i := 5) scRi.nd rfl (.inl rfl) (pe_callTy call_tuple_of (by rfl) Nn.tuple (by decide +kernel) (pa_cons (pe_lc (own := [("_law_entry", 18)]) (g := gName 18) (tt := tYes) rfl scRi.nd (pi_tup (pv 3)) (blkOk_by (own := [("_law_entry", 18)]) (N := nRi) (sc := defScope sRi) (by decide +kernel)) (fun _ _ _ _ _ => (pg_name (i := 18) scRi.nd rfl (.inl rfl))) (fun _ _ _ _ _ => pts_nil) (fun _ _ _ _ _ => (pe_op op_add (pv 18) (pe_op op_mulW (pv 2) (pe_op op_sub (pe_call GR (hr.mono (by decide)) rfl mR kR bR .nil pass0 (pa_cons (pv 0) (pa_cons pe_int pa_nil))) pe_int))))) pa_nil)))
      (pss_cons (ps_set (i := 6) scRi.nd rfl (.inl rfl) (pe_callTy call_tuple_of (by rfl) Nn.tuple (by decide +kernel) (pa_cons (pe_lc (own := [("_law_entry", 18)]) (g := gName 18) (tt := tYes) rfl scRi.nd (pi_tup (pv 4)) (blkOk_by (own := [("_law_entry", 18)]) (N := nRi) (sc := defScope sRi) (by decide +kernel)) (fun _ _ _ _ _ => (pg_name (i := 18) scRi.nd rfl (.inl rfl))) (fun _ _ _ _ _ => pts_nil) (fun _ _ _ _ _ => (pe_op op_add (pv 18) (pe_op op_mulW (pv 2) (pe_op op_sub (pe_call GR (hr.mono (by decide)) rfl mR kR bR .nil pass0 (pa_cons (pv 0) (pa_cons pe_int pa_nil))) pe_int))))) pa_nil)))
      (pss_cons (ps_asg (pe_tup (pa_cons (pe_make MI GI (hr.mono (by decide)) rfl T.mgC bI .nil pass0 (pa_cons (pv 3) pa_nil)) (pa_cons (pe_make MI GI (hr.mono (by decide)) rfl T.mgC bI .nil pass0 (pa_cons (pv 4) pa_nil)) (pa_cons (pe_make MI GI (hr.mono (by decide)) rfl T.mgC bI .nil pass0 (pa_cons (pv 5) pa_nil)) (pa_cons (pe_make MI GI (hr.mono (by decide)) rfl T.mgC bI .nil pass0 (pa_cons (pv 6) pa_nil)) pa_nil))))) (pg_tup rfl (pgs_cons (pg_name (i := 7) scRi.nd rfl (.inl rfl)) (pgs_cons (pg_name (i := 8) scRi.nd rfl (.inl rfl)) (pgs_cons (pg_name (i := 9) scRi.nd rfl (.inl rfl)) (pgs_cons (pg_name (i := 10) scRi.nd rfl (.inl rfl)) pgs_nil))))))
      (pss_cons (ps_if (PW.pt (pw_or (pt_cmpR (op_neD hr.units) (pe_meth (pv 7) T.cl mRs GRs (hr.mono (by decide)) bRs .nil pass0 (pa_cons (pv 2) pa_nil)) (pe_callTy call_tuple_of (by rfl) Nn.tuple (by decide +kernel) (pa_cons (pe_lc (own := [("_law_entry", 18)]) (g := gName 18) (tt := tYes) rfl scRi.nd (pi_tup (pv 3)) (blkOk_by (own := [("_law_entry", 18)]) (N := nRi) (sc := defScope sRi) (by decide +kernel)) (fun _ _ _ _ _ => (pg_name (i := 18) scRi.nd rfl (.inl rfl))) (fun _ _ _ _ _ => pts_nil) (fun _ _ _ _ _ => (pe_op op_modN (pe_callTy call_int1 (by rfl) Nn.int PyProof.Rows.boot_int (pa_cons (pv 18) pa_nil)) (pv 2)))) pa_nil)) (nomark _)) (pw_or1 (pt_cmpR (op_neD hr.units) (pe_meth (pv 7) T.cl mRs GRs (hr.mono (by decide)) bRs .nil pass0 (pa_cons (pv 2) pa_nil)) (pe_meth (pv 9) T.cl mRs GRs (hr.mono (by decide)) bRs .nil pass0 (pa_cons (pv 2) pa_nil)) (nomark _))))) (pss_one (ps_ret pe_bl)) pss_nil)
      (pss_cons (ps_if (pt_cmpR (op_neD hr.units) (pe_meth (pe_meth (pv 7) T.cl mPl GPl (hr.mono (by decide)) bPl .nil pass0 (pa_cons (pv 8) pa_nil)) T.cl mRs GRs (hr.mono (by decide)) bRs .nil pass0 (pa_cons (pv 2) pa_nil)) (pe_meth (pe_meth (pv 9) T.cl mPl GPl (hr.mono (by decide)) bPl .nil pass0 (pa_cons (pv 10) pa_nil)) T.cl mRs GRs (hr.mono (by decide)) bRs .nil pass0 (pa_cons (pv 2) pa_nil)) (nomark _)) (pss_one (ps_ret pe_bl)) pss_nil)
      (pss_cons (ps_if (pt_cmpR (op_neD hr.units) (pe_meth (pe_meth (pv 7) T.cl mMi GMi (hr.mono (by decide)) bMi .nil pass0 (pa_cons (pv 8) pa_nil)) T.cl mRs GRs (hr.mono (by decide)) bRs .nil pass0 (pa_cons (pv 2) pa_nil)) (pe_meth (pe_meth (pv 9) T.cl mMi GMi (hr.mono (by decide)) bMi .nil pass0 (pa_cons (pv 10) pa_nil)) T.cl mRs GRs (hr.mono (by decide)) bRs .nil pass0 (pa_cons (pv 2) pa_nil)) (nomark _)) (pss_one (ps_ret pe_bl)) pss_nil)
      (pss_cons (ps_if (pt_cmpR (op_neD hr.units) (pe_meth (pe_meth (pv 7) T.cl mTi GTi (hr.mono (by decide)) bTi .nil pass0 (pa_cons (pv 8) pa_nil)) T.cl mRs GRs (hr.mono (by decide)) bRs .nil pass0 (pa_cons (pv 2) pa_nil)) (pe_meth (pe_meth (pv 9) T.cl mTi GTi (hr.mono (by decide)) bTi .nil pass0 (pa_cons (pv 10) pa_nil)) T.cl mRs GRs (hr.mono (by decide)) bRs .nil pass0 (pa_cons (pv 2) pa_nil)) (nomark _)) (pss_one (ps_ret pe_bl)) pss_nil)
      (pss_cons (ps_setLc (i := 12) (own := [("_law_prime", 11)]) (g := gName 11) rfl scRi.nd rfl rfl (sw_true rfl rfl rfl (by decide +kernel)) (pi_tup (pe_tup (pa_cons pe_int (pa_cons pe_int (pa_cons pe_int (pa_cons pe_int pa_nil)))))) (blkOk_by (own := [("_law_prime", 11)]) (N := nRi) (sc := defScope sRi) (by decide +kernel)) (fun _ _ _ _ _ => (pg_name (i := 11) scRi.nd rfl (.inl rfl))) (fun _ _ _ _ _ => (pts_one (pt_cmpR op_le (pv 11) (pv 1) (nomark _)))) (fun _ _ _ _ _ => (pv 11)))
      (pss_cons (ps_if (pt_cmpR (op_eqD hr.units) (pv 12) (pe_lst pa_nil) (nomark _)) (pss_one (ps_ret pe_bl)) pss_nil)
      (pss_cons (ps_set (i := 11) scRi.nd rfl (.inr rfl) (pe_call GPk (hr.mono (by decide)) rfl mPk kPk bPk .nil pass0 (pa_cons (pv 0) (pa_cons (pv 12) pa_nil))))
      (pss_cons (ps_set (i := 13) scRi.nd rfl (.inl rfl) (pe_callTy call_tuple_of (by rfl) Nn.tuple (by decide +kernel) (pa_cons (pe_lc (own := [("_law_entry", 18)]) (g := gName 18) (tt := tYes) rfl scRi.nd (pi_tup (pe_slice sl_tupA (pv 3) po_none (po_some (pe_op op_fdivN (pv 1) (pv 11))))) (blkOk_by (own := [("_law_entry", 18)]) (N := nRi) (sc := defScope sRi) (by decide +kernel)) (fun _ _ _ _ _ => (pg_name (i := 18) scRi.nd rfl (.inl rfl))) (fun _ _ _ _ _ => pts_nil) (fun _ _ _ _ _ => (pe_op op_modN (pe_call GPw (hr.mono (by decide)) rfl mPw kPw bPw .nil pass0 (pa_cons (pv 18) (pa_cons (pv 11) pa_nil))) (pv 11)))) pa_nil)))
      (pss_cons (ps_if (pt_cmpR (op_neD hr.units) (pe_meth (pe_meth (pv 7) T.cl mTk GTk (hr.mono (by decide)) bTk .nil pass0 (pa_cons (pv 11) pa_nil)) T.cl mRs GRs (hr.mono (by decide)) bRs .nil pass0 (pa_cons (pv 11) pa_nil)) (pv 13) (nomark _)) (pss_one (ps_ret pe_bl)) pss_nil)
      (pss_cons (ps_set (i := 14) scRi.nd rfl (.inl rfl) (pe_make MI GI (hr.mono (by decide)) rfl T.mgC bI .nil pass0 (pa_cons (pe_op op_repZ (pe_tup (pa_cons pe_int pa_nil)) (pv 1)) pa_nil)))
      (pss_cons (ps_for PassesOwn.never rfl (pi_range1 rfl Nn.range (pa_cons (pv 11) pa_nil)) (pg_name (i := 15) scRi.nd rfl (.inl rfl)) (pss_one (ps_set (i := 14) scRi.nd rfl (.inl rfl) (pe_meth (pv 14) T.cl mPl GPl (hr.mono (by decide)) bPl .nil pass0 (pa_cons (pv 7) pa_nil)))))
      (pss_cons (ps_set (i := 16) scRi.nd rfl (.inr rfl) (pe_lc (own := [("_law_entry", 18)]) (g := gName 18) (tt := tYes) rfl scRi.nd (pi_tup (pv 3)) (blkOk_by (own := [("_law_entry", 18)]) (N := nRi) (sc := defScope sRi) (by decide +kernel)) (fun _ _ _ _ _ => (pg_name (i := 18) scRi.nd rfl (.inl rfl))) (fun _ _ _ _ _ => pts_nil) (fun _ _ _ _ _ => (pe_call GPw (hr.mono (by decide)) rfl mPw kPw bPw .nil pass0 (pa_cons (pv 18) (pa_cons (pv 11) pa_nil))))))
      (pss_cons (ps_setLc (i := 17) (own := [("_law_n", 19)]) (g := gName 19) (tt := tYes) rfl scRi.nd rfl rfl (sw_true rfl rfl rfl (by decide +kernel)) (pi_range2 rfl Nn.range (pa_cons pe_int (pa_cons (pe_op op_add (pv 1) pe_int) pa_nil))) (blkOk_by (own := [("_law_n", 19)]) (N := nRi) (sc := defScope sRi) (by decide +kernel)) (fun _ _ _ _ _ => (pg_name (i := 19) scRi.nd rfl (.inl rfl))) (fun _ _ _ _ _ => pts_nil) (fun _ _ _ _ _ => (pe_ifExp (pt_cmpR op_eq (pe_op op_modN (pv 19) (pv 11)) pe_int (nomark _)) (pe_ix (r := rIxL K) ix_list (pv 16) (pe_op op_sub (pe_op op_fdivN (pv 19) (pv 11)) pe_int) (fun _ _ => rfl)) pe_int)))
      (pss_one (ps_ret (pe_cmpR (op_eqD hr.units) (pe_meth (pv 14) T.cl mRs GRs (hr.mono (by decide)) bRs .nil pass0 (pa_cons (pv 11) pa_nil)) (pe_callTy call_tuple_of (by rfl) Nn.tuple (by decide +kernel) (pa_cons (pe_lc (own := [("_law_entry", 18)]) (g := gName 18) (tt := tYes) rfl scRi.nd (pi_list (pv 17)) (blkOk_by (own := [("_law_entry", 18)]) (N := nRi) (sc := defScope sRi) (by decide +kernel)) (fun _ _ _ _ _ => (pg_name (i := 18) scRi.nd rfl (.inl rfl))) (fun _ _ _ _ _ => pts_nil) (fun _ _ _ _ _ => (pe_op op_modN (pe_callTy call_int1 (by rfl) Nn.int PyProof.Rows.boot_int (pa_cons (pv 18) pa_nil)) (pv 11)))) pa_nil)) (nomark _))))))))))))))))))))), ?_⟩
    refine ⟨_, rfl, p, a, b, c, 12, rfl, hp, by decide, by decide, fun r a' c' r0 r1 => ?_⟩
    have kq : Kq p H (upd H p (.lst [.int a', .int b, .int c'])) := kq_upd
    have hp1 : (upd H p (.lst [.int a', .int b, .int c'])) p = some (.lst [.int a', .int b, .int c']) := upd_same
    generalize upd H p (.lst [.int a', .int b, .int c']) = H1 at *
    refine ⟨_, _, rfl, rfl, _, rfl, (by show 8 ≤ sizeLine; decide), fun l nl => ?_⟩
    have nlp : l ≠ p := fun z => by rw [z, hp1] at nl; cases nl
    refine ⟨p, l, a', b, c', _, rfl, same_new nl _ _ hp1, SqL.of upd_same, nlp, by show 0 < 8; decide, by show 8 < 1000; decide, fun i x a2 c2 hx => ?_⟩
    obtain ⟨m, rfl, hm⟩ : ∃ m : Nat, x = .int (m : Int) ∧ m ∈ MD := by
      match i, hx with
      | 0, h => cases h; exact ⟨2, rfl, by decide⟩
      | 1, h => cases h; exact ⟨3, rfl, by decide⟩
      | 2, h => cases h; exact ⟨4, rfl, by decide⟩
      | 3, h => cases h; exact ⟨6, rfl, by decide⟩
      | 4, h => cases h; exact ⟨9, rfl, by decide⟩
      | 5, h => cases h; exact ⟨10, rfl, by decide⟩
      | 6, h => cases h; exact ⟨97, rfl, by decide⟩
      | 7, h => cases h; exact ⟨10000, rfl, by decide⟩
    obtain ⟨hB, hC, m2, m9⟩ := md_ok m hm
    obtain ⟨N, eN, N1, hN⟩ : ∃ N : Nat, 1 + r = (N : Int) ∧ 1 ≤ N ∧ N ≤ 12 := ⟨(1 + r).toNat, by omega, by omega, by omega⟩
    simp only [eN]
    replace kq := Kq.trans kq (Kq.trans (kq_same (same_new nl (o := .lst [.int 2, .int 3, .int 4, .int 6, .int 9, .int 10, .int 97, .int 10000]))) (kq_upd (p := p) (o := .lst [.int a2, .int b, .int c2])))
    have dc : DicAt (upd (upd H1 l (.lst [.int 2, .int 3, .int 4, .int 6, .int 9, .int 10, .int 97, .int 10000])) p (.lst [.int a2, .int b, .int c2])) p := dic_upd
    generalize upd (upd H1 l (.lst [.int 2, .int 3, .int 4, .int 6, .int 9, .int 10, .int 97, .int 10000])) p (.lst [.int a2, .int b, .int c2]) = H2 at *
    clear nl hp1 hp
    refine ⟨(by show 2 ≤ sizeLine; decide), fun q nq => ?_⟩
    refine ⟨q, _, rfl, .inl (.inl upd_same), rfl, _, _, rfl, _, _, rfl, rfl, ?_⟩
    replace kq := Kq.trans kq (kq_same (same_new nq (o := .tup [.int (N : Int), .int (m : Int)])))
    replace dc := dic_same (same_new nq (o := .tup [.int (N : Int), .int (m : Int)])) dc
    generalize upd H2 q (.tup [.int (N : Int), .int (m : Int)]) = H3 at *
    clear nq
    rw [show L2.start nRi [V.ref p] = [some (V.ref p), none, none, none, none, none, none, none, none, none, none, none, none, none, none, none, none, none, none, none] from rfl]
    simp only [List.set_cons_zero, List.set_cons_succ]
    refine ⟨_, rfl, _, rfl, p, N, rfl, dc, N1, hN, fun H4 t1 cs k4 d4 n1p lcs sm5cs ht1 => ?_⟩
    refine ⟨_, rfl, _, rfl, p, N, rfl, d4, N1, hN, fun H5 t2 ds k5 d5 n2p lds sm5ds ht2 => ?_⟩
    replace ht1 := tup_kq d4 k5 ht1
    replace kq := Kq.trans kq (Kq.trans k4 k5)
    have dc := d5
    clear k4 k5 d4
    refine ⟨_, _, rfl, ?_⟩
    simp only [List.set_cons_zero, List.set_cons_succ]
    refine ⟨_, rfl, t1, rfl, ⟨_, SqT.of ht1⟩, fun D hD => ?_⟩
    refine lc_tup (xs := cs.map V.int) (fun i H' => Kq p H5 H' ∧ DicAt H' p ∧ ∃ ys : List Int, ys.length = i ∧ (∀ n, 1 ≤ n → n ≤ i → (m : Int) ∣ cf cs n - cf ys n) ∧ Sh ys ∧ H' D = some (.lst (ys.map V.int))) ⟨kq_same (same_new hD), dic_same (same_new hD) dc, [], rfl, (fun n a b => absurd b (by omega)), (fun _ z => nomatch z), upd_same⟩ ?_ ?_ ?_
    · rintro i H7 _ ⟨q1, q2, _⟩
      exact SqT.of (tup_kq dc q1 ht1)
    · rintro i v H7 hv ⟨q1, ⟨u1, u2, u3, hp7⟩, ys, ly, ny, sy, hy⟩
      rw [List.getElem?_map] at hv
      obtain ⟨c, hcc, rfl⟩ := Option.map_eq_some_iff.mp hv
      have il : i < cs.length := (List.getElem?_eq_some_iff.mp hcc).1
      refine ⟨rfl, ?_⟩
      have bc := sm5cs c (List.mem_of_getElem? hcc)
      have wm : Wd (m : Int) 14 := ⟨by show (m : Int).natAbs < 16384; omega⟩
      refine ⟨_, rfl, _, rfl, _, rfl, p, u1, u2, u3, 5, rfl, hp7, by decide, by decide, fun r2 a2 c2 r0 r1 => ?_⟩
      have wr : Wd (r2 - 2) 3 := ⟨by show (r2 - 2).natAbs < 8; omega⟩
      refine ⟨_, _, rfl, rfl, _, _, rfl, rfl, mI, _, _, rfl, rfl, ?_⟩
      have nDp : D ≠ p := fun z => by obtain ⟨_, _, _, e⟩ := dc; rw [z, e] at hD; cases hD
      refine ⟨ys.map V.int, by rw [upd_ne nDp]; exact hy, ?_, ?_⟩
      · rw [List.length_map, ly]
        exact Nat.lt_of_lt_of_le (show i < 1000 by omega) (by decide)
      · refine ⟨fun b o nb eb => ?_, ⟨a2, u2, c2, by rw [upd_ne (fun z => nDp z.symm), upd_same]⟩, ys ++ [c + (m : Int) * (r2 - 2)], by rw [List.length_append, ly]; rfl, fun n n1 nn => ?_, fun z hz => ?_, by rw [upd_same, List.map_append]; rfl⟩
        · rw [upd_ne (fun z => by rw [z, hD] at eb; cases eb), upd_ne nb]
          exact q1 b o nb eb
        · rcases Nat.lt_succ_iff_lt_or_eq.mp (Nat.lt_succ_of_le nn) with q | q
          · have := ny n n1 (by omega)
            have e : cf (ys ++ [c + (m : Int) * (r2 - 2)]) n = cf ys n := by
              unfold cf
              rw [List.getD_eq_getElem?_getD, List.getD_eq_getElem?_getD, List.getElem?_append_left (by omega)]
            rw [e]; exact this
          · subst q
            have e : cf (ys ++ [c + (m : Int) * (r2 - 2)]) (i + 1) = c + (m : Int) * (r2 - 2) := by
              unfold cf
              rw [List.getD_eq_getElem?_getD, List.getElem?_append_right (by omega)]
              simp [ly]
            have e2 : cf cs (i + 1) = c := by
              unfold cf
              rw [List.getD_eq_getElem?_getD, Nat.add_sub_cancel, hcc]
              rfl
            rw [e, e2]
            exact ⟨-(r2 - 2), by grind⟩
        · rcases List.mem_append.mp hz with q | q
          · exact sy z q
          · rw [List.mem_singleton.mp q]
            have : ((m : Int) * (r2 - 2)).natAbs ≤ 10000 * 2 := by
              rw [Int.natAbs_mul]
              exact Nat.mul_le_mul (by omega) (by omega)
            show (c + (m : Int) * (r2 - 2)).natAbs < 32768
            omega
    rintro H7 ⟨q1, q2, cs', ly, ny, sy, hy⟩
    rw [List.length_map] at ly ny

    have lcs' : cs'.length = N := by rw [ly, lcs]
    have near1 : Near m cs cs' := ⟨by omega, fun n a b => ny n a (by omega)⟩
    have hcs' : Sh cs' := sy
    refine ⟨D, _, rfl, .inl ⟨SqL.of hy, fun t3 nt3 => ?_⟩⟩
    have S := same_new nt3 (o := .tup (cs'.map V.int))
    have ht3 : (upd H7 t3 (.tup (cs'.map V.int))) t3 = some (.tup (cs'.map V.int)) := upd_same
    replace ht1 := S _ _ (tup_kq dc q1 ht1)
    replace ht2 := S _ _ (tup_kq dc q1 ht2)
    replace kq := Kq.trans kq (Kq.trans q1 (kq_same S))
    replace dc := dic_same S q2
    generalize upd H7 t3 (.tup (cs'.map V.int)) = H6 at *
    simp only [List.set_cons_zero, List.set_cons_succ]
    clear S nt3 hy q1 q2 sy ny ly hD
    refine ⟨_, rfl, t2, rfl, ⟨_, SqT.of ht2⟩, fun D hD => ?_⟩
    refine lc_tup (xs := ds.map V.int) (fun i H' => Kq p H6 H' ∧ DicAt H' p ∧ ∃ ys : List Int, ys.length = i ∧ (∀ n, 1 ≤ n → n ≤ i → (m : Int) ∣ cf ds n - cf ys n) ∧ Sh ys ∧ H' D = some (.lst (ys.map V.int))) ⟨kq_same (same_new hD), dic_same (same_new hD) dc, [], rfl, (fun n a b => absurd b (by omega)), (fun _ z => nomatch z), upd_same⟩ ?_ ?_ ?_
    · rintro i H7 _ ⟨q1, q2, _⟩
      exact SqT.of (tup_kq dc q1 ht2)
    · rintro i v H7 hv ⟨q1, ⟨u1, u2, u3, hp7⟩, ys, ly, ny, sy, hy⟩
      rw [List.getElem?_map] at hv
      obtain ⟨c, hcc, rfl⟩ := Option.map_eq_some_iff.mp hv
      have il : i < ds.length := (List.getElem?_eq_some_iff.mp hcc).1
      refine ⟨rfl, ?_⟩
      have bc := sm5ds c (List.mem_of_getElem? hcc)
      have wm : Wd (m : Int) 14 := ⟨by show (m : Int).natAbs < 16384; omega⟩
      refine ⟨_, rfl, _, rfl, _, rfl, p, u1, u2, u3, 5, rfl, hp7, by decide, by decide, fun r2 a2 c2 r0 r1 => ?_⟩
      have wr : Wd (r2 - 2) 3 := ⟨by show (r2 - 2).natAbs < 8; omega⟩
      refine ⟨_, _, rfl, rfl, _, _, rfl, rfl, mI, _, _, rfl, rfl, ?_⟩
      have nDp : D ≠ p := fun z => by obtain ⟨_, _, _, e⟩ := dc; rw [z, e] at hD; cases hD
      refine ⟨ys.map V.int, by rw [upd_ne nDp]; exact hy, ?_, ?_⟩
      · rw [List.length_map, ly]
        exact Nat.lt_of_lt_of_le (show i < 1000 by omega) (by decide)
      · refine ⟨fun b o nb eb => ?_, ⟨a2, u2, c2, by rw [upd_ne (fun z => nDp z.symm), upd_same]⟩, ys ++ [c + (m : Int) * (r2 - 2)], by rw [List.length_append, ly]; rfl, fun n n1 nn => ?_, fun z hz => ?_, by rw [upd_same, List.map_append]; rfl⟩
        · rw [upd_ne (fun z => by rw [z, hD] at eb; cases eb), upd_ne nb]
          exact q1 b o nb eb
        · rcases Nat.lt_succ_iff_lt_or_eq.mp (Nat.lt_succ_of_le nn) with q | q
          · have := ny n n1 (by omega)
            have e : cf (ys ++ [c + (m : Int) * (r2 - 2)]) n = cf ys n := by
              unfold cf
              rw [List.getD_eq_getElem?_getD, List.getD_eq_getElem?_getD, List.getElem?_append_left (by omega)]
            rw [e]; exact this
          · subst q
            have e : cf (ys ++ [c + (m : Int) * (r2 - 2)]) (i + 1) = c + (m : Int) * (r2 - 2) := by
              unfold cf
              rw [List.getD_eq_getElem?_getD, List.getElem?_append_right (by omega)]
              simp [ly]
            have e2 : cf ds (i + 1) = c := by
              unfold cf
              rw [List.getD_eq_getElem?_getD, Nat.add_sub_cancel, hcc]
              rfl
            rw [e, e2]
            exact ⟨-(r2 - 2), by grind⟩
        · rcases List.mem_append.mp hz with q | q
          · exact sy z q
          · rw [List.mem_singleton.mp q]
            have : ((m : Int) * (r2 - 2)).natAbs ≤ 10000 * 2 := by
              rw [Int.natAbs_mul]
              exact Nat.mul_le_mul (by omega) (by omega)
            show (c + (m : Int) * (r2 - 2)).natAbs < 32768
            omega
    rintro H7 ⟨q1, q2, ds', ly, ny, sy, hy⟩
    rw [List.length_map] at ly ny

    have lds' : ds'.length = N := by rw [ly, lds]
    have near2 : Near m ds ds' := ⟨by omega, fun n a b => ny n a (by omega)⟩
    have hds' : Sh ds' := sy
    refine ⟨D, _, rfl, .inl ⟨SqL.of hy, fun t4 nt4 => ?_⟩⟩
    have S := same_new nt4 (o := .tup (ds'.map V.int))
    have ht4 : (upd H7 t4 (.tup (ds'.map V.int))) t4 = some (.tup (ds'.map V.int)) := upd_same
    replace ht1 := S _ _ (tup_kq dc q1 ht1)
    replace ht2 := S _ _ (tup_kq dc q1 ht2)
    replace ht3 := S _ _ (tup_kq dc q1 ht3)
    replace kq := Kq.trans kq (Kq.trans q1 (kq_same S))
    replace dc := dic_same S q2
    generalize upd H7 t4 (.tup (ds'.map V.int)) = H8 at *
    simp only [List.set_cons_zero, List.set_cons_succ]
    clear S nt4 hy q1 q2 sy ny ly hD
    have hcs : Sh cs := fun c hc => by have := sm5cs c hc; show c.natAbs < 32768; omega
    have hds : Sh ds := fun c hc => by have := sm5ds c hc; show c.natAbs < 32768; omega
    have scs' := hcs'
    have sds' := hds'
    have hone := ht1
    refine ⟨_, rfl, fun x1 dx1 nx nd ne => ⟨x1, dx1, t1, cs, rfl, upd_same, ?_, by omega, by omega, ?_, fun Hw1 tg bu hx ht hg => ⟨rfl, ?_⟩⟩⟩
    · rw [upd_ne (ne_of_none ht1 nx), upd_ne (ne_of_none ht1 nd)]
      exact ht1
    · intro c hc
      have := sm5cs c hc
  
      unfold LONG
      omega
    have Sw := made_wit (t := t1) (tg := tg) (cs := [0]) nx nd bu
    have wx1 : WitAt C Hw1 x1 cs (gsOf cs cs.length) := ⟨dx1, t1, tg, hx, ht, hg⟩
    clear bu hx hg nx nd ne

    replace ht2 := Sw _ _ ht2
    replace ht3 := Sw _ _ ht3
    replace ht4 := Sw _ _ ht4
    replace hone := Sw _ _ hone
    replace kq := Kq.trans kq (kq_same Sw)
    replace dc := dic_same Sw dc
    clear Sw ht
    refine ⟨_, rfl, fun x2 dx2 nx nd ne => ⟨x2, dx2, t2, ds, rfl, upd_same, ?_, by omega, by omega, ?_, fun Hw2 tg bu hx ht hg => ⟨rfl, ?_⟩⟩⟩
    · rw [upd_ne (ne_of_none ht2 nx), upd_ne (ne_of_none ht2 nd)]
      exact ht2
    · intro c hc
      have := sm5ds c hc
  
      unfold LONG
      omega
    have Sw := made_wit (t := t2) (tg := tg) (cs := [0]) nx nd bu
    have wx2 : WitAt C Hw2 x2 ds (gsOf ds ds.length) := ⟨dx2, t2, tg, hx, ht, hg⟩
    clear bu hx hg nx nd ne

    replace ht3 := Sw _ _ ht3
    replace ht4 := Sw _ _ ht4
    replace hone := Sw _ _ hone
    replace wx1 := wx1.same Sw
    replace kq := Kq.trans kq (kq_same Sw)
    replace dc := dic_same Sw dc
    clear Sw ht
    refine ⟨_, rfl, fun x3 dx3 nx nd ne => ⟨x3, dx3, t3, cs', rfl, upd_same, ?_, by omega, by omega, ?_, fun Hw3 tg bu hx ht hg => ⟨rfl, ?_⟩⟩⟩
    · rw [upd_ne (ne_of_none ht3 nx), upd_ne (ne_of_none ht3 nd)]
      exact ht3
    · intro c hc
      have := scs' c hc
      have : c.natAbs < 32768 := this
      unfold LONG
      omega
    have Sw := made_wit (t := t3) (tg := tg) (cs := [0]) nx nd bu
    have wx3 : WitAt C Hw3 x3 cs' (gsOf cs' cs'.length) := ⟨dx3, t3, tg, hx, ht, hg⟩
    clear bu hx hg nx nd ne

    replace ht4 := Sw _ _ ht4
    replace hone := Sw _ _ hone
    replace wx1 := wx1.same Sw
    replace wx2 := wx2.same Sw
    replace kq := Kq.trans kq (kq_same Sw)
    replace dc := dic_same Sw dc
    clear Sw ht
    refine ⟨_, rfl, fun x4 dx4 nx nd ne => ⟨x4, dx4, t4, ds', rfl, upd_same, ?_, by omega, by omega, ?_, fun Hw4 tg bu hx ht hg => ⟨rfl, ?_⟩⟩⟩
    · rw [upd_ne (ne_of_none ht4 nx), upd_ne (ne_of_none ht4 nd)]
      exact ht4
    · intro c hc
      have := sds' c hc
      have : c.natAbs < 32768 := this
      unfold LONG
      omega
    have Sw := made_wit (t := t4) (tg := tg) (cs := [0]) nx nd bu
    have wx4 : WitAt C Hw4 x4 ds' (gsOf ds' ds'.length) := ⟨dx4, t4, tg, hx, ht, hg⟩
    clear bu hx hg nx nd ne

    refine ⟨(by show 4 ≤ sizeLine; decide), fun q nq => ?_⟩
    refine ⟨q, _, rfl, .inl (.inl upd_same), rfl, _, _, rfl, _, _, rfl, _, _, rfl, _, _, rfl, rfl, ?_⟩
    have S := Same.tr Sw (same_new nq (o := .tup [.ref x1, .ref x2, .ref x3, .ref x4]))
    replace hone := S _ _ hone
    have wA := wx1.same S
    have wB := wx2.same S
    have wC := wx3.same S
    have wD := wx4.same (same_new nq (o := .tup [.ref x1, .ref x2, .ref x3, .ref x4]))
    replace kq := Kq.trans kq (kq_same S)
    replace dc := dic_same S dc
    clear Sw ht S wx1 wx2 wx3 wx4
    generalize upd Hw4 q (.tup [.ref x1, .ref x2, .ref x3, .ref x4]) = H9 at *
    simp only [List.set_cons_zero, List.set_cons_succ]
    clear nq
    rw [lcs] at wA
    rw [lds] at wB
    rw [lcs'] at wC
    rw [lds'] at wD
    -- rests as they are
    have wA0 := wA
    obtain ⟨dA, tA, uA, hA, _, _⟩ := wA0
    refine ⟨_, rfl, x1, dA, _, rfl, hA, wf_no _ _ (by decide +kernel) (by decide +kernel), _, rfl, x1, cs, _, m, rfl, wA, by omega, by omega, by omega, fun Ha ta sa na hta => ?_⟩
    refine ⟨_, rfl, t1, rfl, ⟨_, SqT.of (sa _ _ hone)⟩, fun D hD => ?_⟩
    refine lc_tup (xs := cs.map V.int) (Acc Ha D fun i => ((cs.take i).map fun c => c % (m : Int)).map V.int) (Acc.zero hD rfl) ?_ ?_ ?_
    · intro i H2 _ b
      exact SqT.of (b.1 _ _ (sa _ _ hone))
    · intro i v H2 hv b
      rw [List.getElem?_map] at hv
      obtain ⟨c, hcc, rfl⟩ := Option.map_eq_some_iff.mp hv
      have il : i < cs.length := (List.getElem?_eq_some_iff.mp hcc).1
      refine ⟨rfl, ?_⟩
      refine ⟨_, rfl, .inl ⟨_, rfl, _, rfl, _, _, rfl, rfl, (by show (m : Int) ≠ 0; omega), b.put hD (same_refl _) ?_ ?_⟩⟩
      · rw [List.length_map, List.length_map, List.length_take]
        exact Nat.lt_of_le_of_lt (Nat.min_le_left _ _) (Nat.lt_of_lt_of_le (show i < 1000 by omega) (by decide))
      · rw [List.take_add_one, hcc, List.map_append, List.map_append]
        show _ ++ [V.int (c % (m : Int))] = _ ++ [V.int (Int.fmod c (m : Int))]
        rw [fm]
    intro H2 b
    have b2 : H2 D = some (.lst (((cs.take (cs.map V.int).length).map fun c => c % (m : Int)).map V.int)) := b.2
    rw [List.length_map, List.take_length] at b2
    refine ⟨D, _, rfl, .inl ⟨SqL.of b2, fun t nt => ?_⟩⟩
    have s2 := Same.tr b.1 (same_new nt (o := .tup ((cs.map fun c => c % (m : Int)).map V.int)))
    refine ⟨_, _, .tup (SqT.of (s2 _ _ hta)) (dp_ints _), .tup (SqT.of upd_same) (dp_ints _), (sh_tup _).1, (sh_tup _).1, ?_⟩
    rw [(sh_tup _).2]
    refine ⟨_, rfl, itF rfl ?_⟩
    have S := Same.tr sa s2
    replace wA := wA.same S
    replace wB := wB.same S
    replace wC := wC.same S
    replace wD := wD.same S
    replace kq := Kq.trans kq (kq_same S)
    replace dc := dic_same S dc
    replace hone := S _ _ hone
    generalize upd H2 t (.tup ((cs.map fun c => c % (m : Int)).map V.int)) = H10 at *
    clear S s2 nt b b2 hD hta sa na hA
    have wA0 := wA
    obtain ⟨dA, tA, uA, hA, _, _⟩ := wA0
    refine ⟨_, rfl, x1, dA, _, rfl, hA, wf_no _ _ (by decide +kernel) (by decide +kernel), _, rfl, x1, cs, _, m, rfl, wA, by omega, by omega, by omega, fun Ha ta sa na hta => ?_⟩
    have wC1 := wC.same sa
    have wC10 := wC1
    obtain ⟨dC, tC, uC, hC3, _, _⟩ := wC10
    refine ⟨_, rfl, x3, dC, _, rfl, hC3, wf_no _ _ (by decide +kernel) (by decide +kernel), _, rfl, x3, cs', _, m, rfl, wC1, by omega, by omega, by omega, fun Hb tb sb nb htb => ?_⟩
    refine ⟨_, _, .tup (SqT.of (sb _ _ hta)) (dp_ints _), .tup (SqT.of htb) (dp_ints _), (sh_tup _).1, (sh_tup _).1, ?_⟩
    rw [mod_eq lcs lcs' (fun n a b => near1.2 n a (by omega)), (sh_tup _).2]
    refine ⟨_, rfl, itF rfl ?_⟩
    have S := Same.tr sa sb
    replace wA := wA.same S
    replace wB := wB.same S
    replace wC := wC.same S
    replace wD := wD.same S
    replace kq := Kq.trans kq (kq_same S)
    replace dc := dic_same S dc
    replace hone := S _ _ hone
    clear S sa sb na nb hta htb wC1 hC3 hA
    have wA0 := wA
    obtain ⟨e1, le1, ge1, be1⟩ := ex_es hN (C68.G.add (C68.gh_G (cf cs) hN) (C68.gh_G (cf ds) hN)) (fun n a b => by
      haveI : Wd (C68.gh (cf cs) n) 190 := ⟨gh_sh hcs a (by omega)⟩
      haveI : Wd (C68.gh (cf ds) n) 190 := ⟨gh_sh hds a (by omega)⟩
      exact Nat.lt_of_lt_of_le (Wd.h (x := C68.gh (cf cs) n + C68.gh (cf ds) n)) (Nat.pow_le_pow_right (by decide) (by decide)))
    obtain ⟨e2, le2, ge2, be2⟩ := ex_es hN (C68.G.add (C68.gh_G (cf cs') hN) (C68.gh_G (cf ds') hN)) (fun n a b => by
      haveI : Wd (C68.gh (cf cs') n) 190 := ⟨gh_sh hcs' a (by omega)⟩
      haveI : Wd (C68.gh (cf ds') n) 190 := ⟨gh_sh hds' a (by omega)⟩
      exact Nat.lt_of_lt_of_le (Wd.h (x := C68.gh (cf cs') n + C68.gh (cf ds') n)) (Nat.pow_le_pow_right (by decide) (by decide)))
    obtain ⟨dA, tA, uA, hA, _, _⟩ := wA0
    refine ⟨_, rfl, x1, dA, _, rfl, hA, wf_no _ _ (by decide +kernel) (by decide +kernel), _, rfl, x1, x2, cs, gsOf cs N, ds, gsOf ds N, e1, rfl, wA, wB, by rw [gsOf_len, le1], by rw [gsOf_len, le1], by omega, by omega, gsOf_sm hcs hN, gsOf_sm hds hN, (fun n a b => by rw [ge1 n a (by omega), gsOf_cf a (by omega), gsOf_cf a (by omega)]), be1, fun Ha ra sa wra => ?_⟩
    have wra0 := wra
    obtain ⟨dr, tr, ur, hra, _, _⟩ := wra
    refine ⟨ra, dr, _, rfl, hra, wf_no _ _ (by decide +kernel) (by decide +kernel), _, rfl, ra, e1, _, m, rfl, wra0, by omega, by omega, by omega, fun Hb ta sb na hta => ?_⟩
    have wC1 := wC.same (Same.tr sa sb)
    have wD1 := wD.same (Same.tr sa sb)
    have wC10 := wC1
    obtain ⟨dC, tC, uC, hC3, _, _⟩ := wC10
    refine ⟨_, rfl, x3, dC, _, rfl, hC3, wf_no _ _ (by decide +kernel) (by decide +kernel), _, rfl, x3, x4, cs', gsOf cs' N, ds', gsOf ds' N, e2, rfl, wC1, wD1, by rw [gsOf_len, le2], by rw [gsOf_len, le2], by omega, by omega, gsOf_sm hcs' hN, gsOf_sm hds' hN, (fun n a b => by rw [ge2 n a (by omega), gsOf_cf a (by omega), gsOf_cf a (by omega)]), be2, fun Hc rb sc wrb => ?_⟩
    have wrb0 := wrb
    obtain ⟨dr2, tr2, ur2, hrb, _, _⟩ := wrb
    refine ⟨rb, dr2, _, rfl, hrb, wf_no _ _ (by decide +kernel) (by decide +kernel), _, rfl, rb, e2, _, m, rfl, wrb0, by omega, by omega, by omega, fun Hd tb sd nb htb => ?_⟩
    have S := Same.tr sa (Same.tr sb (Same.tr sc sd))
    refine ⟨_, _, .tup (SqT.of (sd _ _ (sc _ _ hta))) (dp_ints _), .tup (SqT.of htb) (dp_ints _), (sh_tup _).1, (sh_tup _).1, ?_⟩
    rw [op_rest hN hm lcs lds near1 near2 le1 le2 ge1 ge2 o_add, (sh_tup _).2]
    refine ⟨_, rfl, itF rfl ?_⟩
    replace wA := wA.same S
    replace wB := wB.same S
    replace wC := wC.same S
    replace wD := wD.same S
    replace kq := Kq.trans kq (kq_same S)
    replace dc := dic_same S dc
    replace hone := S _ _ hone
    clear S sa sb sc sd hta htb na nb hA hra hC3 hrb wra0 wrb0 wC1 wD1 be1 be2 ge1 ge2 le1 le2
    have wA0 := wA
    obtain ⟨e1, le1, ge1, be1⟩ := ex_es hN (C68.G.sub (C68.gh_G (cf cs) hN) (C68.gh_G (cf ds) hN)) (fun n a b => by
      haveI : Wd (C68.gh (cf cs) n) 190 := ⟨gh_sh hcs a (by omega)⟩
      haveI : Wd (C68.gh (cf ds) n) 190 := ⟨gh_sh hds a (by omega)⟩
      exact Nat.lt_of_lt_of_le (Wd.h (x := C68.gh (cf cs) n - C68.gh (cf ds) n)) (Nat.pow_le_pow_right (by decide) (by decide)))
    obtain ⟨e2, le2, ge2, be2⟩ := ex_es hN (C68.G.sub (C68.gh_G (cf cs') hN) (C68.gh_G (cf ds') hN)) (fun n a b => by
      haveI : Wd (C68.gh (cf cs') n) 190 := ⟨gh_sh hcs' a (by omega)⟩
      haveI : Wd (C68.gh (cf ds') n) 190 := ⟨gh_sh hds' a (by omega)⟩
      exact Nat.lt_of_lt_of_le (Wd.h (x := C68.gh (cf cs') n - C68.gh (cf ds') n)) (Nat.pow_le_pow_right (by decide) (by decide)))
    obtain ⟨dA, tA, uA, hA, _, _⟩ := wA0
    refine ⟨_, rfl, x1, dA, _, rfl, hA, wf_no _ _ (by decide +kernel) (by decide +kernel), _, rfl, x1, x2, cs, gsOf cs N, ds, gsOf ds N, e1, rfl, wA, wB, by rw [gsOf_len, le1], by rw [gsOf_len, le1], by omega, by omega, gsOf_sm hcs hN, gsOf_sm hds hN, (fun n a b => by rw [ge1 n a (by omega), gsOf_cf a (by omega), gsOf_cf a (by omega)]), be1, fun Ha ra sa wra => ?_⟩
    have wra0 := wra
    obtain ⟨dr, tr, ur, hra, _, _⟩ := wra
    refine ⟨ra, dr, _, rfl, hra, wf_no _ _ (by decide +kernel) (by decide +kernel), _, rfl, ra, e1, _, m, rfl, wra0, by omega, by omega, by omega, fun Hb ta sb na hta => ?_⟩
    have wC1 := wC.same (Same.tr sa sb)
    have wD1 := wD.same (Same.tr sa sb)
    have wC10 := wC1
    obtain ⟨dC, tC, uC, hC3, _, _⟩ := wC10
    refine ⟨_, rfl, x3, dC, _, rfl, hC3, wf_no _ _ (by decide +kernel) (by decide +kernel), _, rfl, x3, x4, cs', gsOf cs' N, ds', gsOf ds' N, e2, rfl, wC1, wD1, by rw [gsOf_len, le2], by rw [gsOf_len, le2], by omega, by omega, gsOf_sm hcs' hN, gsOf_sm hds' hN, (fun n a b => by rw [ge2 n a (by omega), gsOf_cf a (by omega), gsOf_cf a (by omega)]), be2, fun Hc rb sc wrb => ?_⟩
    have wrb0 := wrb
    obtain ⟨dr2, tr2, ur2, hrb, _, _⟩ := wrb
    refine ⟨rb, dr2, _, rfl, hrb, wf_no _ _ (by decide +kernel) (by decide +kernel), _, rfl, rb, e2, _, m, rfl, wrb0, by omega, by omega, by omega, fun Hd tb sd nb htb => ?_⟩
    have S := Same.tr sa (Same.tr sb (Same.tr sc sd))
    refine ⟨_, _, .tup (SqT.of (sd _ _ (sc _ _ hta))) (dp_ints _), .tup (SqT.of htb) (dp_ints _), (sh_tup _).1, (sh_tup _).1, ?_⟩
    rw [op_rest hN hm lcs lds near1 near2 le1 le2 ge1 ge2 o_sub, (sh_tup _).2]
    refine ⟨_, rfl, itF rfl ?_⟩
    replace wA := wA.same S
    replace wB := wB.same S
    replace wC := wC.same S
    replace wD := wD.same S
    replace kq := Kq.trans kq (kq_same S)
    replace dc := dic_same S dc
    replace hone := S _ _ hone
    clear S sa sb sc sd hta htb na nb hA hra hC3 hrb wra0 wrb0 wC1 wD1 be1 be2 ge1 ge2 le1 le2
    have wA0 := wA
    obtain ⟨e1, le1, ge1, be1⟩ := ex_es hN (C68.G.mul (C68.gh_G (cf cs) hN) (C68.gh_G (cf ds) hN)) (fun n a b => by
      haveI : Wd (C68.gh (cf cs) n) 190 := ⟨gh_sh hcs a (by omega)⟩
      haveI : Wd (C68.gh (cf ds) n) 190 := ⟨gh_sh hds a (by omega)⟩
      exact Nat.lt_of_lt_of_le (Wd.h (x := C68.gh (cf cs) n * C68.gh (cf ds) n)) (Nat.pow_le_pow_right (by decide) (by decide)))
    obtain ⟨e2, le2, ge2, be2⟩ := ex_es hN (C68.G.mul (C68.gh_G (cf cs') hN) (C68.gh_G (cf ds') hN)) (fun n a b => by
      haveI : Wd (C68.gh (cf cs') n) 190 := ⟨gh_sh hcs' a (by omega)⟩
      haveI : Wd (C68.gh (cf ds') n) 190 := ⟨gh_sh hds' a (by omega)⟩
      exact Nat.lt_of_lt_of_le (Wd.h (x := C68.gh (cf cs') n * C68.gh (cf ds') n)) (Nat.pow_le_pow_right (by decide) (by decide)))
    obtain ⟨dA, tA, uA, hA, _, _⟩ := wA0
    refine ⟨_, rfl, x1, dA, _, rfl, hA, wf_no _ _ (by decide +kernel) (by decide +kernel), _, rfl, x1, x2, cs, gsOf cs N, ds, gsOf ds N, e1, rfl, wA, wB, by rw [gsOf_len, le1], by rw [gsOf_len, le1], by omega, by omega, gsOf_sm hcs hN, gsOf_sm hds hN, (fun n a b => by rw [ge1 n a (by omega), gsOf_cf a (by omega), gsOf_cf a (by omega)]), be1, fun Ha ra sa wra => ?_⟩
    have wra0 := wra
    obtain ⟨dr, tr, ur, hra, _, _⟩ := wra
    refine ⟨ra, dr, _, rfl, hra, wf_no _ _ (by decide +kernel) (by decide +kernel), _, rfl, ra, e1, _, m, rfl, wra0, by omega, by omega, by omega, fun Hb ta sb na hta => ?_⟩
    have wC1 := wC.same (Same.tr sa sb)
    have wD1 := wD.same (Same.tr sa sb)
    have wC10 := wC1
    obtain ⟨dC, tC, uC, hC3, _, _⟩ := wC10
    refine ⟨_, rfl, x3, dC, _, rfl, hC3, wf_no _ _ (by decide +kernel) (by decide +kernel), _, rfl, x3, x4, cs', gsOf cs' N, ds', gsOf ds' N, e2, rfl, wC1, wD1, by rw [gsOf_len, le2], by rw [gsOf_len, le2], by omega, by omega, gsOf_sm hcs' hN, gsOf_sm hds' hN, (fun n a b => by rw [ge2 n a (by omega), gsOf_cf a (by omega), gsOf_cf a (by omega)]), be2, fun Hc rb sc wrb => ?_⟩
    have wrb0 := wrb
    obtain ⟨dr2, tr2, ur2, hrb, _, _⟩ := wrb
    refine ⟨rb, dr2, _, rfl, hrb, wf_no _ _ (by decide +kernel) (by decide +kernel), _, rfl, rb, e2, _, m, rfl, wrb0, by omega, by omega, by omega, fun Hd tb sd nb htb => ?_⟩
    have S := Same.tr sa (Same.tr sb (Same.tr sc sd))
    refine ⟨_, _, .tup (SqT.of (sd _ _ (sc _ _ hta))) (dp_ints _), .tup (SqT.of htb) (dp_ints _), (sh_tup _).1, (sh_tup _).1, ?_⟩
    rw [op_rest hN hm lcs lds near1 near2 le1 le2 ge1 ge2 o_mul, (sh_tup _).2]
    refine ⟨_, rfl, itF rfl ?_⟩
    replace wA := wA.same S
    replace wB := wB.same S
    replace wC := wC.same S
    replace wD := wD.same S
    replace kq := Kq.trans kq (kq_same S)
    replace dc := dic_same S dc
    replace hone := S _ _ hone
    clear S sa sb sc sd hta htb na nb hA hra hC3 hrb wra0 wrb0 wC1 wD1 be1 be2 ge1 ge2 le1 le2

    clear wB wC wD near1 near2 hcs' hds' hds lds lds' lcs' scs' sds'
    -- the primes
    refine ⟨(by show 4 ≤ sizeLine; decide), fun tp ntp => ?_⟩
    have etp : (upd Hd tp (.tup [V.int 2, .int 3, .int 5, .int 7])) tp = some (.tup [V.int 2, .int 3, .int 5, .int 7]) := upd_same
    have S := same_new ntp (o := .tup [V.int 2, .int 3, .int 5, .int 7])
    replace wA := wA.same S
    replace kq := Kq.trans kq (kq_same S)
    replace dc := dic_same S dc
    replace hone := S _ _ hone
    generalize upd Hd tp (.tup [V.int 2, .int 3, .int 5, .int 7]) = G1 at *
    clear S ntp
    refine ⟨tp, rfl, ⟨_, SqT.of etp⟩, fun D hD => ?_⟩
    refine lc_tup (xs := [V.int 2, .int 3, .int 5, .int 7]) (Acc G1 D fun i => (pL i N).map V.int) (Acc.zero hD rfl) ?_ ?_ ?_
    · intro i H2 _ b
      exact SqT.of (b.1 _ _ etp)
    · intro i v H2 hv b
      have il : i < 4 := (List.getElem?_eq_some_iff.mp hv).1
      obtain ⟨z, hz, rfl⟩ : ∃ z : Int, ([2, 3, 5, 7] : List Int)[i]? = some z ∧ v = .int z := by
        match i, hv with
        | 0, h => cases h; exact ⟨2, rfl, rfl⟩
        | 1, h => cases h; exact ⟨3, rfl, rfl⟩
        | 2, h => cases h; exact ⟨5, rfl, rfl⟩
        | 3, h => cases h; exact ⟨7, rfl, rfl⟩
      have pe : pL (i + 1) N = pL i N ++ ([z].filter fun q => decide (q ≤ (N : Int))) := by
        unfold pL
        rw [List.take_add_one, hz, List.filter_append]
        rfl
      refine ⟨rfl, ?_⟩
      refine ⟨_, rfl, _, rfl, _, _, rfl, rfl, _, rfl, ?_⟩
      by_cases cz : z ≤ (N : Int)
      · refine itT (decide_eq_true cz) ⟨_, rfl, b.put hD (same_refl _) ?_ ?_⟩
        · rw [List.length_map]
          refine Nat.lt_of_le_of_lt (Nat.le_trans (List.length_filter_le _ _) (?_ : _ ≤ 4)) (by decide)
          rw [List.length_take]
          exact Nat.min_le_right _ _
        · rw [pe, List.filter_cons_of_pos (by simpa using cz), List.map_append]
          rfl
      · refine itF (decide_eq_false cz) (b.skip (same_refl _) ?_)
        rw [pe, List.filter_cons_of_neg (by simpa using cz)]
        simp
    intro G2 b
    have nDp : D ≠ p := fun z => by obtain ⟨_, _, _, e⟩ := dc; rw [z, e] at hD; cases hD
    have eD : G2 D = some (.lst ((pL 4 N).map V.int)) := b.2
    simp only [List.set_cons_zero, List.set_cons_succ]
    have S := b.1
    replace wA := wA.same S
    replace kq := Kq.trans kq (kq_same S)
    replace dc := dic_same S dc
    replace hone := S _ _ hone
    clear S b hD etp
    refine ⟨_, rfl, (by show 0 ≤ sizeLine; decide), fun z nz => ?_⟩
    have S := same_new nz (o := .lst [])
    have ez : (upd G2 z (.lst [])) z = some (.lst []) := upd_same
    replace wA := wA.same S
    replace kq := Kq.trans kq (kq_same S)
    replace dc := dic_same S dc
    replace hone := S _ _ hone
    replace eD := S _ _ eD
    generalize upd G2 z (.lst []) = G3 at *
    clear S nz
    refine ⟨_, _, .lst (SqL.of eD) (dp_ints _), .lst (SqL.of ez) .nil, (sh_ints _).1, rfl, ?_⟩
    by_cases N2 : N = 1
    · subst N2
      refine ⟨_, rfl, itT (by decide +kernel) ?_⟩
      exact k _ kq dc
    obtain ⟨rest, er⟩ : ∃ rest, pL 4 N = 2 :: rest := by
      unfold pL
      rw [List.take_of_length_le (by decide), List.filter_cons_of_pos (by have : (2 : Int) ≤ (N : Int) := by omega
                                                                          simpa using this)]
      exact ⟨_, rfl⟩
    have eqn : PyData.eqv (.list ((pL 4 N).map PyData.int)) (.list []) = false := by rw [er]; rfl
    rw [eqn]
    refine ⟨_, rfl, itF rfl ?_⟩
    -- a prime is picked
    obtain ⟨ua, ub, uc, hp3⟩ := dc
    refine ⟨_, rfl, _, rfl, p, D, ua, ub, uc, _, rfl, hp3, SqL.of eD, nDp, by rw [er]; simp, ?_, fun i x a9 c9 hx => ?_⟩
    · rw [List.length_map]
      exact Nat.lt_of_le_of_lt (Nat.le_trans (List.length_filter_le _ _) (by decide : _ ≤ 4)) (by decide)
    obtain ⟨pr, rfl, prm, prN⟩ : ∃ pr : Nat, x = .int (pr : Int) ∧ pr ∈ [2, 3, 5, 7] ∧ pr ≤ N := by
      rw [List.getElem?_map] at hx
      obtain ⟨z, hz, rfl⟩ := Option.map_eq_some_iff.mp hx
      have mz := List.mem_of_getElem? hz
      unfold pL at mz
      obtain ⟨m1, m2⟩ := List.mem_filter.mp mz
      have m2 := of_decide_eq_true m2
      have m1 := List.mem_of_mem_take m1
      simp only [List.mem_cons, List.not_mem_nil, or_false] at m1
      rcases m1 with rfl | rfl | rfl | rfl
      · exact ⟨2, rfl, by decide, by omega⟩
      · exact ⟨3, rfl, by decide, by omega⟩
      · exact ⟨5, rfl, by decide, by omega⟩
      · exact ⟨7, rfl, by decide, by omega⟩
    obtain ⟨pP, pM, p2, p7⟩ := pr_ok pr prm
    obtain ⟨pB, pC, _, _⟩ := C68.pr_checks pr pP
    replace wA := wit_kq ⟨ua, ub, uc, hp3⟩ (kq_upd (o := .lst [.int a9, .int ub, .int c9])) wA
    replace hone := tup_kq ⟨ua, ub, uc, hp3⟩ (kq_upd (o := .lst [.int a9, .int ub, .int c9])) hone
    replace kq := Kq.trans kq (kq_upd (o := .lst [.int a9, .int ub, .int c9]))
    have dc : DicAt (upd G3 p (.lst [.int a9, .int ub, .int c9])) p := dic_upd
    generalize upd G3 p (.lst [.int a9, .int ub, .int c9]) = G4 at *
    simp only [List.set_cons_zero, List.set_cons_succ]
    clear hp3 eD ez nDp hx er eqn
    have pz : (pr : Int) ≠ 0 := by omega
    have qN : N / pr < N := Nat.div_lt_self (by omega) (by omega)
    -- its powers
    refine ⟨_, rfl, _, rfl, _, rfl, _, _, rfl, rfl, ⟨pz, by omega⟩, ((N / pr : Nat) : Int), (by show V.int ((N : Int).fdiv (pr : Int)) = _; rw [fdiv_nat]), t1, cs.map V.int, rfl, SqT.of hone, (fun z => ?_), fun _ q nq => ?_⟩
    · have := z.2
      rw [HT.sIx_nat, List.length_map, lcs] at this
      omega
    have ecut : cutV (cs.map V.int) none (some ((N / pr : Nat) : Int)) = (cs.take (N / pr)).map V.int := by
      unfold cutV
      rw [HT.sIx_nat, HT.sIx_none, List.drop_zero, List.length_map, lcs, Nat.min_eq_left (by omega), Nat.sub_zero, List.map_take]
    rw [ecut]
    have eq1 : (upd G4 q (.tup ((cs.take (N / pr)).map V.int))) q = some (.tup ((cs.take (N / pr)).map V.int)) := upd_same
    have S := same_new nq (o := .tup ((cs.take (N / pr)).map V.int))
    replace wA := wA.same S
    replace kq := Kq.trans kq (kq_same S)
    replace dc := dic_same S dc
    replace hone := S _ _ hone
    generalize upd G4 q (.tup ((cs.take (N / pr)).map V.int)) = G5 at *
    clear S nq
    have cpow : ∀ c ∈ cs, c.natAbs < 2 ^ 30000 := fun c hc => Nat.lt_of_lt_of_le (hcs c hc) (Nat.pow_le_pow_right (by decide) (by decide))
    refine ⟨q, rfl, ⟨_, SqT.of eq1⟩, fun D2 hD2 => ?_⟩
    refine lc_tup (xs := (cs.take (N / pr)).map V.int) (Acc G5 D2 fun i => (((cs.take (N / pr)).take i).map fun c => c ^ pr % (pr : Int)).map V.int) (Acc.zero hD2 rfl) ?_ ?_ ?_
    · intro i H2 _ b
      exact SqT.of (b.1 _ _ eq1)
    · intro i v H2 hv b
      rw [List.getElem?_map] at hv
      obtain ⟨c, hcc, rfl⟩ := Option.map_eq_some_iff.mp hv
      have il : i < (cs.take (N / pr)).length := (List.getElem?_eq_some_iff.mp hcc).1
      rw [List.length_take] at il
      refine ⟨rfl, ?_⟩
      refine ⟨_, rfl, _, rfl, c, pr, rfl, by omega, cpow c (List.mem_of_mem_take (List.mem_of_getElem? hcc)), fun H3 s3 => ?_⟩
      refine ⟨_, rfl, _, _, rfl, rfl, pz, b.put hD2 s3 ?_ ?_⟩
      · rw [List.length_map, List.length_map, List.length_take]
        exact Nat.lt_of_le_of_lt (Nat.min_le_left _ _) (Nat.lt_of_lt_of_le (show i < 1000 by omega) (by decide))
      · rw [List.take_add_one, hcc, List.map_append, List.map_append]
        show _ ++ [V.int (c ^ pr % (pr : Int))] = _ ++ [V.int (Int.fmod (c ^ pr) (pr : Int))]
        rw [fm]
    intro G6 b
    have b2 : G6 D2 = some (.lst ((((cs.take (N / pr)).take ((cs.take (N / pr)).map V.int).length).map fun c => c ^ pr % (pr : Int)).map V.int)) := b.2
    rw [List.length_map, List.take_length] at b2
    refine ⟨D2, _, rfl, .inl ⟨SqL.of b2, fun tw ntw => ?_⟩⟩
    have S := Same.tr b.1 (same_new ntw (o := .tup (((cs.take (N / pr)).map fun c => c ^ pr % (pr : Int)).map V.int)))
    have ew : (upd G6 tw (.tup (((cs.take (N / pr)).map fun c => c ^ pr % (pr : Int)).map V.int))) tw = some (.tup (((cs.take (N / pr)).map fun c => c ^ pr % (pr : Int)).map V.int)) := upd_same
    replace wA := wA.same S
    replace kq := Kq.trans kq (kq_same S)
    replace dc := dic_same S dc
    replace hone := S _ _ hone
    generalize upd G6 tw (.tup (((cs.take (N / pr)).map fun c => c ^ pr % (pr : Int)).map V.int)) = G7 at *
    simp only [List.set_cons_zero, List.set_cons_succ]
    clear S ntw b b2 hD2 eq1
    -- taken by the prime
    have kN : pr ≤ N := prN
    obtain ⟨et, let_, get_, bet⟩ := ex_es (N := N / pr) (by omega) (C68.G.take hN (C68.gh_G (cf cs) hN) (show 1 ≤ pr by omega) kN) (fun n a b => by
      have pn : pr * n ≤ N := Nat.le_trans (Nat.mul_le_mul_left pr b) (Nat.mul_div_le N pr)
      exact Nat.lt_of_lt_of_le (gh_sh hcs (Nat.mul_pos (by omega) a) (by omega)) (Nat.pow_le_pow_right (by decide) (by decide)))
    have wA0 := wA
    obtain ⟨dA, tA, uA, hA, _, _⟩ := wA0
    refine ⟨_, rfl, x1, dA, _, rfl, hA, wf_no _ _ (by decide +kernel) (by decide +kernel), _, rfl, x1, cs, gsOf cs N, et, pr, rfl, wA, by rw [gsOf_len, lcs], by rw [gsOf_len]; omega, p2, by rw [gsOf_len]; exact kN, by rw [gsOf_len, let_], (fun n a b => ?_), (fun g hg => Nat.lt_of_lt_of_le (gsOf_sm hcs hN g hg) (Nat.pow_le_pow_right (by decide) (by decide))), bet, fun Ha ra sa wra => ?_⟩
    · rw [tk_len, gsOf_len] at b
      rw [get_ n a b, tk_cf a (by rw [gsOf_len]; exact b), gsOf_cf (Nat.mul_pos (by omega) a) (Nat.le_trans (Nat.mul_le_mul_left pr b) (Nat.mul_div_le N pr))]
    have wra0 := wra
    obtain ⟨dr, tr, ur, hra, _, _⟩ := wra
    refine ⟨ra, dr, _, rfl, hra, wf_no _ _ (by decide +kernel) (by decide +kernel), _, rfl, ra, et, _, pr, rfl, wra0, by omega, by omega, by omega, fun Hb ta sb na hta => ?_⟩
    have S := Same.tr sa sb
    refine ⟨_, rfl, ?_⟩
    have ecmp : (et.map fun c => c % (pr : Int)) = (cs.take (N / pr)).map fun c => c ^ pr % (pr : Int) := by
      refine list_ext (N := N / pr) (by rw [List.length_map, let_]) (by rw [List.length_map, List.length_take, lcs]; omega) fun n a b => ?_
      rw [cf_map a (by omega), cf_map a (by rw [List.length_take, lcs]; omega), cf_take a b]
      refine Int.emod_eq_emod_iff_emod_sub_eq_zero.mpr (Int.emod_eq_zero_of_dvd ?_)
      refine C68.same_coords (c := cf et) (e := fun d => cf cs d ^ pr) pB pC (N := N / pr) (by omega) (fun n a b => ?_) n a b
      have pn : pr * n ≤ N := Nat.le_trans (Nat.mul_le_mul_left pr b) (Nat.mul_div_le N pr)
      rw [get_ n a b]
      exact C68.taken_frob pP a (by omega)
    refine ⟨_, _, .tup (SqT.of hta) (dp_ints _), .tup (SqT.of (S _ _ ew)) (dp_ints _), (sh_tup _).1, (sh_tup _).1, ?_⟩
    rw [ecmp, (sh_tup _).2]
    refine ⟨_, rfl, itF rfl ?_⟩
    replace wA := wA.same S
    replace kq := Kq.trans kq (kq_same S)
    replace dc := dic_same S dc
    replace hone := S _ _ hone
    clear S sa sb hta na hA hra wra0 ew bet get_ let_ ecmp
    -- the total
    refine ⟨(by show 1 ≤ sizeLine; decide), fun z nz => ?_⟩
    have S0 := same_new nz (o := .tup [V.int 0])
    have ez : (upd Hb z (.tup [V.int 0])) z = some (.tup [V.int 0]) := upd_same
    generalize upd Hb z (.tup [V.int 0]) = G8 at *
    refine ⟨_, rfl, z, (N : Int), V.int 0, rfl, rfl, ez, by omega, by omega, fun t Hq s ht => ?_⟩
    rw [Int.toNat_natCast] at ht
    have ht : Hq t = some (.tup ((List.replicate N (0 : Int)).map V.int)) := by rw [List.map_replicate]; exact ht
    have S1 := Same.tr S0 s
    replace wA := wA.same S1
    replace kq := Kq.trans kq (kq_same S1)
    replace dc := dic_same S1 dc
    have hone := S1 _ _ hone
    clear S0 S1 s ez nz
    refine fun xT dT nx nd ne => ?_
    refine ⟨xT, dT, t, List.replicate N 0, rfl, upd_same, ?_, by rw [List.length_replicate]; exact N1, by rw [List.length_replicate]; omega, (fun c hc => by rw [(List.mem_replicate.mp hc).2]; unfold LONG; omega), fun G9 tg bu hx ht2 hg => ⟨rfl, ?_⟩⟩
    · rw [upd_ne (ne_of_none ht nx), upd_ne (ne_of_none ht nd)]
      exact ht
    have S := made_wit (t := t) (tg := tg) (cs := [0]) nx nd bu
    have wT : WitAt C G9 xT (List.replicate N 0) (gsOf (List.replicate N 0) (List.replicate N (0 : Int)).length) := ⟨dT, t, tg, hx, ht2, hg⟩
    rw [List.length_replicate] at wT
    replace wA := wA.same S
    replace kq := Kq.trans kq (kq_same S)
    replace dc := dic_same S dc
    replace hone := S _ _ hone
    clear S bu hx ht2 hg nx nd ne ht
    simp only [List.set_cons_zero, List.set_cons_succ]
    have gh0 : ∀ n, 1 ≤ n → n ≤ N → C68.gh (cf (List.replicate N 0)) n = 0 := by
      intro n a b
      rw [C68.gh_n a (by omega)]
      refine C68.S_zero fun d d1 dn => ?_
      unfold C68.tm
      split
      · have : cf (List.replicate N 0) d = 0 := by
          unfold cf
          rw [List.getD_eq_getElem?_getD, List.getElem?_replicate]
          split <;> rfl
        have q0 : 0 < n / d := Nat.div_pos dn d1
        rw [this, Int.zero_pow (by omega), Int.mul_zero]
      · rfl
    refine ⟨_, rfl, (pr : Int), rfl, by omega, by omega, for_range (fun j σ H' => ∃ (xT : Addr) (es gs' : List Int) (u15 : Option V), σ = [some (.ref p), some (.int (N : Int)), some (.int (m : Int)), some (.ref t1), some (.ref t2), some (.ref t3), some (.ref t4), some (.ref x1), some (.ref x2), some (.ref x3), some (.ref x4), some (.int (pr : Int)), some (.ref D), some (.ref tw), some (.ref xT), u15, none, none, none, none] ∧
        Same G9 H' ∧ WitAt C H' xT es gs' ∧ es.length = N ∧ gs'.length = N ∧ (∀ n, 1 ≤ n → n ≤ N → C68.gh (cf es) n = (j : Int) * C68.gh (cf cs) n) ∧ (∀ n, 1 ≤ n → n ≤ N → cf gs' n = (j : Int) * C68.gh (cf cs) n)) ?_ ?_ ?_⟩
    · refine ⟨xT, _, _, none, rfl, same_refl _, wT, List.length_replicate, gsOf_len _ _, fun n a b => ?_, fun n a b => ?_⟩
      · rw [gh0 n a b]; simp
      · rw [gsOf_cf a b, gh0 n a b]; simp
    · rintro j σ H' hj ⟨xT, es, gs', u15, rfl, sm, wT, les, lgs, ges, cgs⟩
      have j7 : j < 7 := by omega
      have wj : Wd ((j : Nat) : Int) 3 := ⟨by show (j : Int).natAbs < 8; omega⟩
      have gg : C68.G N fun n => ((j + 1 : Nat) : Int) * C68.gh (cf cs) n := fun q hq n a b hn => by
        have := C68.gh_G (cf cs) hN q hq n a b hn
        rw [← Int.mul_sub]
        exact Int.dvd_trans this (Int.dvd_mul_left _ _)
      have wj1 : Wd ((j + 1 : Nat) : Int) 4 := ⟨by show ((j + 1 : Nat) : Int).natAbs < 16; omega⟩
      obtain ⟨e1, le1, ge1, be1⟩ := ex_es hN gg (fun n a b => by
        haveI : Wd (C68.gh (cf cs) n) 190 := ⟨gh_sh hcs a (by omega)⟩
        exact Nat.lt_of_lt_of_le (Wd.h (x := ((j + 1 : Nat) : Int) * C68.gh (cf cs) n)) (Nat.pow_le_pow_right (by decide) (by decide)))
      have wT0 := wT
      obtain ⟨dx0, tx0, ux0, hx0, _, _⟩ := wT0
      have mulS : ((j + 1 : Nat) : Int) = (j : Int) + 1 := by omega
      refine ⟨_, rfl, xT, dx0, _, rfl, hx0, wf_no _ _ (by decide +kernel) (by decide +kernel), _, rfl, xT, x1, es, gs', cs, gsOf cs N, e1, rfl, wT, wA.same sm, by rw [lgs, le1], by rw [gsOf_len, le1], by omega, by omega, (fun g hg => ?_), gsOf_sm hcs hN, (fun n a b => ?_), be1, fun Ha ra sa wra => ?_⟩
      · obtain ⟨n, a, b, rfl⟩ := mem_cf hg
        rw [cgs n a (by omega)]
        haveI : Wd (C68.gh (cf cs) n) 190 := ⟨gh_sh hcs a (by omega)⟩
        exact Nat.lt_of_lt_of_le (Wd.h (x := (j : Int) * C68.gh (cf cs) n)) (Nat.pow_le_pow_right (by decide) (by decide))
      · rw [ge1 n a (by omega), cgs n a (by omega), gsOf_cf a (by omega), mulS, Int.add_mul, Int.one_mul]
      · refine ⟨ra, e1, _, some (.int (0 + (j : Nat))), rfl, Same.tr sm sa, wra, le1, by rw [List.length_zipWith, lgs, gsOf_len, Nat.min_self], ge1, fun n a b => ?_⟩
        rw [cf_zip a (by omega) (by rw [gsOf_len]; omega), cgs n a b, gsOf_cf a b, mulS, Int.add_mul, Int.one_mul]
    · rintro σ H' ⟨xT, es, gs', u15, rfl, sm, wT, les, lgs, ges, cgs⟩
      have etn : ((pr : Int)).toNat = pr := by omega
      rw [etn] at ges
      replace wA := wA.same sm
      replace kq := Kq.trans kq (kq_same sm)
      replace dc := dic_same sm dc
      have hone := sm _ _ hone
      clear cgs gh0 sm wA
      -- the powers, moved
      refine ⟨_, rfl, t1, rfl, ⟨_, SqT.of hone⟩, fun D3 hD3 => ?_⟩
      refine lc_tup (xs := cs.map V.int) (Acc H' D3 fun i => ((cs.take i).map fun c => c ^ pr).map V.int) (Acc.zero hD3 rfl) ?_ ?_ ?_
      · intro i H2 _ b
        exact SqT.of (b.1 _ _ hone)
      · intro i v H2 hv b
        rw [List.getElem?_map] at hv
        obtain ⟨c, hcc, rfl⟩ := Option.map_eq_some_iff.mp hv
        have il : i < cs.length := (List.getElem?_eq_some_iff.mp hcc).1
        refine ⟨rfl, ?_⟩
        refine ⟨_, rfl, _, rfl, c, pr, rfl, by omega, cpow c (List.mem_of_getElem? hcc), fun H3 s3 => ?_⟩
        refine b.put hD3 s3 ?_ ?_
        · rw [List.length_map, List.length_map, List.length_take]
          exact Nat.lt_of_le_of_lt (Nat.min_le_left _ _) (Nat.lt_of_lt_of_le (show i < 1000 by omega) (by decide))
        · rw [List.take_add_one, hcc, List.map_append, List.map_append]
          rfl
      intro L1 b
      have eL : L1 D3 = some (.lst (((cs.take (cs.map V.int).length).map fun c => c ^ pr).map V.int)) := b.2
      rw [List.length_map, List.take_length] at eL
      have S := b.1
      replace wT := wT.same S
      replace kq := Kq.trans kq (kq_same S)
      replace dc := dic_same S dc
      clear S b hD3 hone
      refine ⟨_, rfl, _, _, rfl, rfl, 1, ((N + 1 : Nat) : Int), rfl, ⟨by decide, by decide, by omega, by omega⟩, fun D4 hD4 => ?_⟩
      have en : (((N + 1 : Nat) : Int) - 1).toNat = N := by omega
      rw [en]
      refine lc_range (lo := 1) (n := N) (Acc L1 D4 fun i => (ofF (C68.mv pr (cf cs)) i).map V.int) (Acc.zero hD4 rfl) ?_ ?_
      · intro i H2 hi b
        have e1 : (1 : Int) + (i : Nat) = ((i + 1 : Nat) : Int) := by omega
        have stepF : ofF (C68.mv pr (cf cs)) (i + 1) = ofF (C68.mv pr (cf cs)) i ++ [C68.mv pr (cf cs) (i + 1)] := by
          unfold ofF
          rw [List.range_succ, List.map_append]
          rfl
        have szF : ((ofF (C68.mv pr (cf cs)) i).map V.int).length < sizeLine := by
          rw [List.length_map, ofF_len]
          exact Nat.lt_of_lt_of_le (show i < 1000 by omega) (by decide)
        rw [e1]
        refine ⟨rfl, ?_⟩
        refine ⟨_, rfl, _, rfl, _, _, rfl, rfl, pz, rfl, _, rfl, ?_⟩
        by_cases cm : (i + 1) % pr = 0
        · have ev : Int.fmod ((i + 1 : Nat) : Int) (pr : Int) = 0 := by rw [fm]; exact_mod_cast cm
          refine itT (decide_eq_true (by show V.int (Int.fmod ((i + 1 : Nat) : Int) (pr : Int)) = V.int 0; rw [ev])) ?_
          have q1 : 1 ≤ (i + 1) / pr := Nat.div_pos (Nat.le_of_dvd (by omega) (Nat.dvd_of_mod_eq_zero cm)) (by omega)
          have q2 : (i + 1) / pr ≤ i + 1 := Nat.div_le_self _ _
          refine ⟨_, rfl, _, rfl, _, rfl, _, _, rfl, rfl, ⟨pz, by omega⟩, _, _, rfl, rfl, D3, _, (((i + 1) / pr - 1 : Nat) : Int), .int (cf cs ((i + 1) / pr) ^ pr), rfl, (by show V.int (Int.fdiv ((i + 1 : Nat) : Int) (pr : Int) - 1) = _; rw [fdiv_nat]; congr 1; omega), SqL.of (b.1 _ _ eL), atI_nat (by rw [List.getElem?_map, List.getElem?_map, cf_at q1 (by omega)]; rfl), ?_⟩
          refine b.put hD4 (same_refl _) szF ?_
          rw [stepF, List.map_append]
          unfold C68.mv
          rw [if_pos cm]
          rfl
        · have ev : Int.fmod ((i + 1 : Nat) : Int) (pr : Int) ≠ 0 := by rw [fm]; exact_mod_cast cm
          refine itF (decide_eq_false (fun z => ev (V.int.inj z))) ?_
          refine b.put hD4 (same_refl _) szF ?_
          rw [stepF, List.map_append]
          unfold C68.mv
          rw [if_neg cm]
          rfl
      intro L2 b
      have eM : L2 D4 = some (.lst ((ofF (C68.mv pr (cf cs)) N).map V.int)) := b.2
      have S := b.1
      replace wT := wT.same S
      replace kq := Kq.trans kq (kq_same S)
      replace dc := dic_same S dc
      clear S b hD4 eL
      have wT0 := wT
      obtain ⟨dx0, tx0, ux0, hx0, _, _⟩ := wT0
      refine ⟨_, rfl, xT, dx0, _, rfl, hx0, wf_no _ _ (by decide +kernel) (by decide +kernel), _, rfl, xT, es, _, pr, rfl, wT, by omega, by omega, by omega, fun Hb ta sb na hta => ?_⟩
      replace eM := sb _ _ eM
      refine ⟨_, rfl, D4, rfl, ⟨_, SqL.of eM⟩, fun D5 hD5 => ?_⟩
      refine lc_list (xs := (ofF (C68.mv pr (cf cs)) N).map V.int) (Acc Hb D5 fun i => (((ofF (C68.mv pr (cf cs)) N).take i).map fun c => c % (pr : Int)).map V.int) (Acc.zero hD5 rfl) ?_ ?_ ?_
      · intro i H2 _ b
        exact SqL.of (b.1 _ _ eM)
      · intro i v H2 hv b
        rw [List.getElem?_map] at hv
        obtain ⟨c, hcc, rfl⟩ := Option.map_eq_some_iff.mp hv
        have il : i < (ofF (C68.mv pr (cf cs)) N).length := (List.getElem?_eq_some_iff.mp hcc).1
        rw [ofF_len] at il
        refine ⟨rfl, ?_⟩
        refine ⟨_, rfl, .inl ⟨_, rfl, _, rfl, _, _, rfl, rfl, pz, b.put hD5 (same_refl _) ?_ ?_⟩⟩
        · rw [List.length_map, List.length_map, List.length_take]
          exact Nat.lt_of_le_of_lt (Nat.min_le_left _ _) (Nat.lt_of_lt_of_le (show i < 1000 by omega) (by decide))
        · rw [List.take_add_one, hcc, List.map_append, List.map_append]
          show _ ++ [V.int (c % (pr : Int))] = _ ++ [V.int (Int.fmod c (pr : Int))]
          rw [fm]
      intro L3 b
      have b2 : L3 D5 = some (.lst ((((ofF (C68.mv pr (cf cs)) N).take ((ofF (C68.mv pr (cf cs)) N).map V.int).length).map fun c => c % (pr : Int)).map V.int)) := b.2
      rw [List.length_map, List.take_length] at b2
      refine ⟨D5, _, rfl, .inl ⟨SqL.of b2, fun tz ntz => ?_⟩⟩
      have S := Same.tr b.1 (same_new ntz (o := .tup (((ofF (C68.mv pr (cf cs)) N).map fun c => c % (pr : Int)).map V.int)))
      refine ⟨_, _, .tup (SqT.of (S _ _ hta)) (dp_ints _), .tup (SqT.of upd_same) (dp_ints _), (sh_tup _).1, (sh_tup _).1, ?_⟩
      have ecmp : (es.map fun c => c % (pr : Int)) = (ofF (C68.mv pr (cf cs)) N).map fun c => c % (pr : Int) := by
        refine mod_eq les (ofF_len _ _) fun n a b => ?_
        rw [cf_ofF a b]
        refine C68.same_coords (c := cf es) (e := C68.mv pr (cf cs)) pB pC hN (fun n a b => ?_) n a b
        rw [ges n a b]
        exact C68.times_moved pP a (by omega)
      rw [ecmp, (sh_tup _).2]
      exact k _ (Kq.trans kq (kq_same (Same.tr sb S))) (dic_same (Same.tr sb S) dc)

end
end Lk

set_option Elab.async false
set_option linter.all false
set_option maxRecDepth 100000
set_option maxHeartbeats 4000000
set_option exponentiation.threshold 1000000
namespace Lk
open PySem L2
theorem gs4 (n : Nat) (a : 1 ≤ n) (b : n ≤ 4) : C68.gh (cf [2, -1, -2, -4]) n = cf (gsOf [1, 0, 0, 0] 4) n + cf (gsOf [1, 0, 0, 0] 4) n := by
  have h : ∀ n, n < 5 → 1 ≤ n → C68.gh (cf [2, -1, -2, -4]) n = cf (gsOf [1, 0, 0, 0] 4) n + cf (gsOf [1, 0, 0, 0] 4) n := by decide +kernel
  exact h n (by omega) a
theorem es4 : ∀ c ∈ ([2, -1, -2, -4] : List Int), Sm c := by
  intro c hc
  refine Nat.lt_of_lt_of_le (?_ : c.natAbs < 2 ^ 3) (Nat.pow_le_pow_right (by decide) (by decide))
  simp only [List.mem_cons, List.not_mem_nil, or_false] at hc
  rcases hc with rfl | rfl | rfl | rfl <;> decide
theorem gz : ∀ g ∈ gsOf [1, 0, 0, 0] 4, g.natAbs < 2 ^ 240000 := gsOf_sm (fun c hc => by
  simp only [List.mem_cons, List.not_mem_nil, or_false] at hc
  rcases hc with rfl | rfl | rfl | rfl <;> decide) (by decide)
section
variable {P : Program} {w : World} {K : PySem.W.Frag} {mg : Str → Option Value} {base : Heap} {C : Addr}
abbrev sLaw : Stmt := top 45
abbrev HRi (P : Program) (w : World) (K : PySem.W.Frag) (mg : Str → Option Value) (base : Heap) : Prop := Has P w K mg base "_law_right" 12 ["_law_dice_here"] spRi
abbrev HDi (P : Program) (w : World) (K : PySem.W.Frag) (mg : Str → Option Value) (base : Heap) : Prop := Has P w K mg base "_law_dice" 1 ["_law_script", "_law_spot"] (spDic K)
def HSi (P : Program) (w : World) (K : PySem.W.Frag) (mg : Str → Option Value) (base : Heap) (C : Addr) : Prop :=
  ∃ mc p g fd, ClX.CRead K C mc ∧ ClX.CMet K C mc "single" p g ∧ FnOk P w K mg base CX0 10 g fd ["cls", "number", "degree"] (spSi C) ∧ Binds K fd ["cls", "number", "degree"] []
def spLaw (K : PySem.W.Frag) : Sp := fun vs H Q _ => ∃ (a : Addr) (ns : List Int), vs = [.ref a] ∧ SqL K H a (ns.map V.int) ∧ ∀ H', Q (.bl true) H'
abbrev nLaw : List Str := ["_law_script", "_law_spot", "_law_dice_here", "_law_turn", "_law_one"]
theorem scLaw : FnScope nLaw ["_law_script"] (defScope sLaw) := ⟨rfl, rfl, rfl, by decide +kernel, rfl, by decide +kernel, by decide +kernel⟩
theorem ok_law {f : Addr} {fd : FuncData} (F : Fun K "law" "law" sLaw f fd) (N : NN mg) (T : Wt K mg C) (Di : HDi P w K mg base) (Ri : HRi P w K mg base) (Si : HSi P w K mg base C)
    (Pl : HasM P w K mg base C "plus" 11 ["self", "other"] (spBi C (fun x y => x + y))) (Rs : HasM P w K mg base C "rests" 4 ["self", "modulus"] (spRs C)) : FnOk P w K mg base CX0 13 f fd ["_law_script"] (spLaw K) := by
  obtain ⟨fDi, dDi, GDi, mDi, kDi, bDi⟩ := Di
  obtain ⟨fRi, dRi, GRi, mRi, kRi, bRi⟩ := Ri
  obtain ⟨fPl, dPl, GPl, mPl, bPl⟩ := Pl
  obtain ⟨fRs, dRs, GRs, mRs, bRs⟩ := Rs
  obtain ⟨mc, pS, gS, dS, cr, cm, GS, bS⟩ := Si
  have GSi : FnR P w K mg base CX0 10 gS (fun vs H Q E => spSi C (vs ++ []) H Q E) := GS.raw bS .nil
  refine F.ok scLaw (fun vs H Q E h => ?_) (fun cdv A outer s H vs Q E hr h => ?_)
  · obtain ⟨a, ns, rfl, _⟩ := h
    rfl
  · obtain ⟨a, ns, rfl, hL, k⟩ := h
    refine ⟨_, pss_cons (ps_for PassesOwn.never rfl (pi_range1 rfl N.range (pa_cons (pe_callB (call_max2 rfl) (by rfl) N.max (by decide +kernel) (pa_cons pe_int (pa_cons (pe_callB (call_min2 rfl) (by rfl) N.min (by decide +kernel) (pa_cons pe_int (pa_cons (pe_callB call_len_seq (by rfl) N.len (by decide +kernel) (pa_cons (pv 0) pa_nil)) pa_nil))) pa_nil))) pa_nil)) (pg_name (i := 1) scLaw.nd rfl (.inl rfl)) (pss_cons (ps_set (i := 2) scLaw.nd rfl (.inl rfl) (pe_call GDi (hr.mono (by decide)) rfl mDi kDi bDi .nil pass0 (pa_cons (pv 0) (pa_cons (pv 1) pa_nil))))
      (pss_one (ps_for PassesOwn.never rfl (pi_range1 rfl N.range (pa_cons pe_int pa_nil)) (pg_name (i := 3) scLaw.nd rfl (.inl rfl)) (pss_one (ps_if (pt_not (pt_val (pe_call GRi (hr.mono (by decide)) rfl mRi kRi bRi .nil pass0 (pa_cons (pv 2) pa_nil)))) (pss_one (ps_ret pe_bl)) pss_nil))))))
      (pss_cons (ps_set (i := 4) scLaw.nd rfl (.inl rfl) (ClX.pe_cmeth (pe_glob rfl T.mgC (show RelV (.ref C) (.ref C) from rfl)) cr cm GSi (hr.mono (by decide)) pass0 (pa_cons pe_int (pa_cons pe_int pa_nil))))
      (pss_one (ps_ret (pe_and (pe_cmpR (op_eqD hr.units) (pe_meth (pe_meth (pv 4) T.cl mPl GPl (hr.mono (by decide)) bPl .nil pass0 (pa_cons (pv 4) pa_nil)) T.cl mRs GRs (hr.mono (by decide)) bRs .nil pass0 (pa_cons pe_int pa_nil)) (pe_tup (pa_cons pe_int (pa_cons pe_int (pa_cons pe_int (pa_cons pe_int pa_nil))))) (nomark _)) (pe_one (pe_cmpR (op_eqD hr.units) (pe_meth (pe_meth (pv 4) T.cl mPl GPl (hr.mono (by decide)) bPl .nil pass0 (pa_cons (pv 4) pa_nil)) T.cl mRs GRs (hr.mono (by decide)) bRs .nil pass0 (pa_cons pe_int pa_nil)) (pe_tup (pa_cons pe_int (pa_cons pe_int (pa_cons pe_int (pa_cons pe_int pa_nil))))) (nomark _))))))), ?_⟩
    refine ⟨_, rfl, a, _, rfl, .inl hL, _, _, rfl, _, _, rfl, _, rfl, ?_, ?_, for_range (fun i σ H' => ∃ u1 u2 u3 : Option V, σ = [some (.ref a), u1, u2, u3, none] ∧ Same H H') ⟨none, none, none, rfl, same_refl H⟩ ?_ ?_⟩
    · split <;> (try split) <;> omega
    · split <;> (try split) <;> omega
    · rintro i σ H' hi ⟨u1, u2, u3, rfl, sm⟩
      have hi4 : i < 64 := by
        have e : ∀ z : Int, (if (if z < 3 then z else 3) > 1 then (if z < 3 then z else 3) else 1).toNat ≤ 4 := fun z => by split <;> (try split) <;> omega
        exact Nat.lt_of_lt_of_le hi (Nat.le_trans (e _) (by decide))
      refine ⟨_, rfl, _, rfl, a, ns, i, (by rw [Int.zero_add]; rfl), sqL_same sm hL, hi4, fun p x y np => ?_⟩
      have npH : H p = none := none_of sm np
      have S0 := Same.tr sm (same_new np (o := .lst [.int x, .int y, .int 0]))
      have d0 : DicAt (upd H' p (.lst [.int x, .int y, .int 0])) p := ⟨x, y, 0, upd_same⟩
      refine ⟨2, rfl, by decide, by decide, for_range (fun j σ H2 => ∃ u3 : Option V, σ = [some (.ref a), some (.int (0 + (i : Nat))), some (.ref p), u3, none] ∧ Same H H2 ∧ DicAt H2 p) ⟨u3, rfl, S0, d0⟩ ?_ ?_⟩
      · rintro j σ H2 hj ⟨u3, rfl, s2, d2⟩
        refine ⟨_, rfl, p, rfl, d2, fun H3 k3 d3 => ⟨_, rfl, itF rfl ?_⟩⟩
        exact ⟨_, rfl, same_kq s2 npH k3, d3⟩
      · rintro σ H2 ⟨u3, rfl, s2, d2⟩
        exact ⟨_, _, _, rfl, s2⟩
    rintro σ H1 ⟨u1, u2, u3, rfl, sm⟩
    refine ⟨rfl, rfl, fun H2 r1 s2 w1 => ?_⟩
    have w0 := w1
    obtain ⟨dA, tA, uA, hA, _, _⟩ := w0
    refine ⟨_, rfl, r1, dA, _, rfl, hA, wf_no _ _ (by decide +kernel) (by decide +kernel), _, rfl, r1, r1, [1, 0, 0, 0], gsOf [1, 0, 0, 0] 4, [1, 0, 0, 0], gsOf [1, 0, 0, 0] 4, [2, -1, -2, -4], rfl, w1, w1, rfl, rfl, by decide, by decide, gz, gz, (fun n a b => gs4 n a b), es4, fun Ha ra sa wra => ?_⟩
    have wra0 := wra
    obtain ⟨dr, tr, ur, hra, _, _⟩ := wra
    refine ⟨ra, dr, _, rfl, hra, wf_no _ _ (by decide +kernel) (by decide +kernel), ra, [2, -1, -2, -4], _, 5, rfl, wra0, by decide, by decide, by decide, fun Hb ta sb na hta => ?_⟩
    refine ⟨(by show 4 ≤ sizeLine; decide), fun z nz => ?_⟩
    have eqv5 : (([2, -1, -2, -4] : List Int).map fun c => c % 5) = [2, 4, 3, 1] := by decide
    rw [eqv5] at hta
    refine ⟨_, _, .tup (SqT.of (same_new nz _ _ hta)) (dp_ints _), .tup (SqT.of upd_same) (dp_ints [2, 4, 3, 1]), (sh_tup _).1, (sh_tup _).1, ?_⟩
    rw [(sh_tup _).2]

    refine ⟨_, rfl, itT rfl ?_⟩
    have w2 := w1.same (Same.tr sa (Same.tr sb (same_new nz (o := .tup (([2, 4, 3, 1] : List Int).map V.int)))))
    have w0 := w2
    obtain ⟨dA, tA, uA, hA, _, _⟩ := w0
    refine ⟨_, rfl, r1, dA, _, rfl, hA, wf_no _ _ (by decide +kernel) (by decide +kernel), _, rfl, r1, r1, [1, 0, 0, 0], gsOf [1, 0, 0, 0] 4, [1, 0, 0, 0], gsOf [1, 0, 0, 0] 4, [2, -1, -2, -4], rfl, w2, w2, rfl, rfl, by decide, by decide, gz, gz, (fun n a b => gs4 n a b), es4, fun Ha ra sa wra => ?_⟩
    have wra0 := wra
    obtain ⟨dr, tr, ur, hra, _, _⟩ := wra
    refine ⟨ra, dr, _, rfl, hra, wf_no _ _ (by decide +kernel) (by decide +kernel), ra, [2, -1, -2, -4], _, 2, rfl, wra0, by decide, by decide, by decide, fun Hb ta sb na hta => ?_⟩
    refine ⟨(by show 4 ≤ sizeLine; decide), fun z nz => ?_⟩
    have eqv2 : (([2, -1, -2, -4] : List Int).map fun c => c % 2) = [0, 1, 0, 0] := by decide
    rw [eqv2] at hta
    refine ⟨_, _, .tup (SqT.of (same_new nz _ _ hta)) (dp_ints _), .tup (SqT.of upd_same) (dp_ints [0, 1, 0, 0]), (sh_tup _).1, (sh_tup _).1, ?_⟩
    rw [(sh_tup _).2]

    exact k _
end
end Lk

set_option Elab.async false
set_option linter.all false
set_option maxRecDepth 100000
set_option maxHeartbeats 8000000
set_option exponentiation.threshold 10000
namespace Lk
open PySem L2
theorem loose__TOO_LONG {p : Program} {mg : Str → Option Value} {h : Heap} (x : PySem.W.XL p [(Str.ofString "_TOO_LONG", PySem.W.WData.int 1000000000000000000000000000000000000000000000000000000000000), (Str.ofString "MAX_FACTORED", PySem.W.WData.int 1000000000)] mg h) : ∃ t, mg "_TOO_LONG" = some (.int 1000000000000000000000000000000000000000000000000000000000000 t) := by
  obtain ⟨v, e, r⟩ := x.2.val _ (List.Mem.head _)
  cases r with
  | int i t => exact ⟨t, e⟩
theorem loose_MAX_FACTORED {p : Program} {mg : Str → Option Value} {h : Heap} (x : PySem.W.XL p [(Str.ofString "_TOO_LONG", PySem.W.WData.int 1000000000000000000000000000000000000000000000000000000000000), (Str.ofString "MAX_FACTORED", PySem.W.WData.int 1000000000)] mg h) : ∃ t, mg "MAX_FACTORED" = some (.int 1000000000 t) := by
  obtain ⟨v, e, r⟩ := x.2.val _ (List.Mem.tail _ (List.Mem.head _))
  cases r with
  | int i t => exact ⟨t, e⟩
/-- as LawAtS, of any program -/
def LawAtC (prog : Program) (w : World) (K : PySem.W.Frag) (CX : CXT) (k : Nat) (x : Str) (mg : Str → Option Value) (fa : Addr) (h : Heap) : Prop :=
  ∃ (fd : FuncData) (cs : List (Addr × Addr)) (sp : Sp), (∀ p ∈ cs, h.get? p.2 = some { cls := .none, data := .fields #[] }) ∧ (∀ p ∈ cs, K.lookup p.2 = none) ∧ (∀ p ∈ cs, PySem.W.CodeHd h p.1 p.2) ∧ (∀ (s : Shared) (u : Value), BindsTo s fd ⟨[u], []⟩ [(x, u)]) ∧
    (∀ (H : Hp) (a : Addr) (ns : List Int), ns.length ≤ 63 → True → (∀ p ∈ cs, H p.2 = some (.tbl #[])) → SqL K H a (ns.map V.int) → sp [.ref a] H (fun v _ => v = .bl true) fun _ _ _ => False) ∧
    ∀ base : Heap, K.In base → base.Ns mainGlobals mg → (∀ p ∈ cs, LamX.TabB base mg p.1 p.2) → FnOk prog w K mg base CX k fa fd [x] sp
theorem walkT {l : PySem.W.OpenLaw} {q : Program} {loose : List Str} {XP : (Str → Option Value) → Heap → Prop} {YP : World → Heap → Prop} {d : DefRec} {K : Params → PySem.W.Frag} {k : Nat} (hn : l.most = some 63) (hdf : d.params.defaults = []) (hr : Room k callerA)
    (hY : ∀ (w : World) (h : Heap), YP w h → (K w.params).In h)
    (F : ∀ (w : World) (mg : Str → Option Value) (fa : Addr) (h : Heap), YP w h → (K w.params).In h → h.Ns mainGlobals mg → XP mg h → mg d.name = some (.ref fa) → LawAtC l.prog w (K w.params) CX0 k "_law_script" mg fa h) :
    PySem.W.WalkO q loose XP YP l.row.toRowW d [] (fun f vs => PySem.call f vs) := by
  refine Att.attach_call hn hdf fun w s₀ s₁ mg mb fa o pm cd doc a vs ns G Y ho hd hcd hmg hobj hints hlen hg => ?_
  have KX := hY w _ Y
  obtain ⟨fd, cs, sp, hT, nT, C, hb, hsp, hF⟩ := F w mg fa _ Y KX G.T.g G.X hmg
  exact LamX.law_callTs KX G.T.g G.T.b G.T.builtins G.T.nolimit hg hT nT C G.T.bmain hobj hints (Nat.le_trans hlen (by decide)) hr hF hb (fun H hH hS => hsp H a ns hlen trivial hH hS) fun H e s' z => z
theorem scGet : FnScope ["self"] ["self"] (defScope (sIn 6)) := ⟨rfl, rfl, rfl, by decide +kernel, rfl, by decide +kernel, by decide +kernel⟩
theorem all_mk {P : Program} {w : World} {K : PySem.W.Frag} {h : Heap} {mg : Str → Option Value} {fa : Addr} (X : K.In h) (G : h.Ns mainGlobals mg) (hfa : mg "law" = some (.ref fa)) (h__TOO_LONG : ∃ t, mg "_TOO_LONG" = some (.int 1000000000000000000000000000000000000000000000000000000000000 t)) (h_MAX_FACTORED : ∃ t, mg "MAX_FACTORED" = some (.int 1000000000 t))
    {Cw fIw qpw4 fpw4 qpw6 fpw6 fmw9 fmw10 fmw11 fmw14 fmw16 qkwsingle fkwsingle fd11 fd14 fd15 fd18 fd19 fd20 fd21 fd22 fd23 fd24 fd26 fd27 fd31 fd32 fd33 fd34 fd35 fd36 fd37 fd39 fd40 fd41 fd42 fd43 fd44 fd45 : Addr} {odIw anIw odpw4 anpw4 odpw6 anpw6 odmw9 anmw9 odmw10 anmw10 odmw11 anmw11 odmw14 anmw14 odmw16 anmw16 odkwsingle ankwsingle odd11 and11 odd14 and14 odd15 and15 odd18 and18 odd19 and19 odd20 and20 odd21 and21 odd22 and22 odd23 and23 odd24 and24 odd26 and26 odd27 and27 odd31 and31 odd32 and32 odd33 and33 odd34 and34 odd35 and35 odd36 and36 odd37 and37 odd39 and39 odd40 and40 odd41 and41 odd42 and42 odd43 and43 odd44 and44 odd45 and45 : Option Addr} {slIw slpw4 slpw6 slmw9 slmw10 slmw11 slmw14 slmw16 slkwsingle sld11 sld14 sld15 sld18 sld19 sld20 sld21 sld22 sld23 sld24 sld26 sld27 sld31 sld32 sld33 sld34 sld35 sld36 sld37 sld39 sld40 sld41 sld42 sld43 sld44 sld45 : Array (Option Value)} {ocIw kVIw dcIw pmIw ctIw cdIw ocpw4 kVpw4 dcpw4 pmpw4 ctpw4 cdpw4 ocpw6 kVpw6 dcpw6 pmpw6 ctpw6 cdpw6 ocmw9 kVmw9 dcmw9 pmmw9 ctmw9 cdmw9 ocmw10 kVmw10 dcmw10 pmmw10 ctmw10 cdmw10 ocmw11 kVmw11 dcmw11 pmmw11 ctmw11 cdmw11 ocmw14 kVmw14 dcmw14 pmmw14 ctmw14 cdmw14 ocmw16 kVmw16 dcmw16 pmmw16 ctmw16 cdmw16 ockwsingle kVkwsingle dckwsingle pmkwsingle ctkwsingle cdkwsingle ocd11 kVd11 dcd11 pmd11 ctd11 cdd11 ocd14 kVd14 dcd14 pmd14 ctd14 cdd14 ocd15 kVd15 dcd15 pmd15 ctd15 cdd15 ocd18 kVd18 dcd18 pmd18 ctd18 cdd18 ocd19 kVd19 dcd19 pmd19 ctd19 cdd19 ocd20 kVd20 dcd20 pmd20 ctd20 cdd20 ocd21 kVd21 dcd21 pmd21 ctd21 cdd21 ocd22 kVd22 dcd22 pmd22 ctd22 cdd22 ocd23 kVd23 dcd23 pmd23 ctd23 cdd23 ocd24 kVd24 dcd24 pmd24 ctd24 cdd24 ocd26 kVd26 dcd26 pmd26 ctd26 cdd26 ocd27 kVd27 dcd27 pmd27 ctd27 cdd27 ocd31 kVd31 dcd31 pmd31 ctd31 cdd31 ocd32 kVd32 dcd32 pmd32 ctd32 cdd32 ocd33 kVd33 dcd33 pmd33 ctd33 cdd33 ocd34 kVd34 dcd34 pmd34 ctd34 cdd34 ocd35 kVd35 dcd35 pmd35 ctd35 cdd35 ocd36 kVd36 dcd36 pmd36 ctd36 cdd36 ocd37 kVd37 dcd37 pmd37 ctd37 cdd37 ocd39 kVd39 dcd39 pmd39 ctd39 cdd39 ocd40 kVd40 dcd40 pmd40 ctd40 cdd40 ocd41 kVd41 dcd41 pmd41 ctd41 cdd41 ocd42 kVd42 dcd42 pmd42 ctd42 cdd42 ocd43 kVd43 dcd43 pmd43 ctd43 cdd43 ocd44 kVd44 dcd44 pmd44 ctd44 cdd44 ocd45 kVd45 dcd45 pmd45 ctd45 cdd45 : Value}
    {rspw4 rspw6 rskwsingle : List Value}
    {tkMAX_MODULUS tkMAX_GHOSTS : Tok}
    (aCw : PySem.W.nsIn K mainGlobals "Witt" = some (some (.ref Cw)))
    (pgw : PySem.W.plainGet K Cw Str.empty = true)
    (hdw : PySem.W.hasDictIn K Cw = true)
    (pow : PySem.W.plainOver K Cw = true)
    (saw : PySem.W.findIn K (.ref Cw) "__setattr__" = some (some (.builtin "object.__setattr__")))
    (mkw : PySem.W.makesIn K Cw = true)
    (kCw : PySem.W.keepIn K (.ref Cw) = true)
    (nw_coordinates : PySem.W.findIn K (.ref Cw) "_coordinates" = some none)
    (nw_ghosts : PySem.W.findIn K (.ref Cw) "_ghosts" = some none)
    (caw : PySem.W.findIn K (.ref Cw) "__class__" = some (some (.builtin "object.__class__")))
    (cnw : PySem.W.specialIn K (.builtin "object.__class__") "__get__" = some (some (.builtin "getset_descriptor.__get__")))
    (ctw : PySem.W.takesIn K (.builtin "object.__class__") = some true)
    (mow : PySem.W.mroIn K Cw (.type "object") = some true)
    (iCw : PySem.W.isClsIn K Cw = true)
    (tCw : PySem.W.typeIn K (.ref Cw) = some (.type "type"))
    (sKwint : PySem.W.subIn K (.type "int") (.ref Cw) = some false)
    (aIw : PySem.W.findIn K (.ref Cw) "__init__" = some (some (.ref fIw)))
    (iIw : PySem.W.isFn K (.ref fIw) = true)
    (lIw : K.lookup fIw = some ⟨ocIw, odIw, .func (PySem.W.fnOf "__init__" "Witt.__init__" (defArgs (sIn 0)) (defBody (sIn 0)) (defScope (sIn 0)) .none kVIw dcIw pmIw anIw cdIw ctIw), slIw⟩)
    (cIw : PySem.W.codeIn K cdIw "Witt.__init__" = true)
    (kIw : PySem.W.keepIn K (.ref fIw) = true)
    (apw4 : PySem.W.findIn K (.ref Cw) "degree" = some (some (.ref qpw4)))
    (gpw4 : PySem.W.specialIn K (.ref qpw4) "__get__" = some (some (.builtin "property.__get__")))
    (tpw4 : PySem.W.takesIn K (.ref qpw4) = some true)
    (rpw4 : PySem.W.recIn K qpw4 "property" = some (.ref fpw4 :: rspw4))
    (lpw4 : K.lookup fpw4 = some ⟨ocpw4, odpw4, .func (PySem.W.fnOf "degree" "Witt.degree" (defArgs (sIn 4)) (defBody (sIn 4)) (defScope (sIn 4)) .none kVpw4 dcpw4 pmpw4 anpw4 cdpw4 ctpw4), slpw4⟩)
    (cpw4 : PySem.W.codeIn K cdpw4 "Witt.degree" = true)
    (kpw4 : PySem.W.keepIn K (.ref fpw4) = true)
    (apw6 : PySem.W.findIn K (.ref Cw) "ghosts" = some (some (.ref qpw6)))
    (gpw6 : PySem.W.specialIn K (.ref qpw6) "__get__" = some (some (.builtin "property.__get__")))
    (tpw6 : PySem.W.takesIn K (.ref qpw6) = some true)
    (rpw6 : PySem.W.recIn K qpw6 "property" = some (.ref fpw6 :: rspw6))
    (lpw6 : K.lookup fpw6 = some ⟨ocpw6, odpw6, .func (PySem.W.fnOf "ghosts" "Witt.ghosts" (defArgs (sIn 6)) (defBody (sIn 6)) (defScope (sIn 6)) .none kVpw6 dcpw6 pmpw6 anpw6 cdpw6 ctpw6), slpw6⟩)
    (cpw6 : PySem.W.codeIn K cdpw6 "Witt.ghosts" = true)
    (kpw6 : PySem.W.keepIn K (.ref fpw6) = true)
    (amw9 : PySem.W.findIn K (.ref Cw) "plus" = some (some (.ref fmw9)))
    (imw9 : PySem.W.isFn K (.ref fmw9) = true)
    (lmw9 : K.lookup fmw9 = some ⟨ocmw9, odmw9, .func (PySem.W.fnOf "plus" "Witt.plus" (defArgs (sIn 9)) (defBody (sIn 9)) (defScope (sIn 9)) .none kVmw9 dcmw9 pmmw9 anmw9 cdmw9 ctmw9), slmw9⟩)
    (cmw9 : PySem.W.codeIn K cdmw9 "Witt.plus" = true)
    (kmw9 : PySem.W.keepIn K (.ref fmw9) = true)
    (amw10 : PySem.W.findIn K (.ref Cw) "minus" = some (some (.ref fmw10)))
    (imw10 : PySem.W.isFn K (.ref fmw10) = true)
    (lmw10 : K.lookup fmw10 = some ⟨ocmw10, odmw10, .func (PySem.W.fnOf "minus" "Witt.minus" (defArgs (sIn 10)) (defBody (sIn 10)) (defScope (sIn 10)) .none kVmw10 dcmw10 pmmw10 anmw10 cdmw10 ctmw10), slmw10⟩)
    (cmw10 : PySem.W.codeIn K cdmw10 "Witt.minus" = true)
    (kmw10 : PySem.W.keepIn K (.ref fmw10) = true)
    (amw11 : PySem.W.findIn K (.ref Cw) "times" = some (some (.ref fmw11)))
    (imw11 : PySem.W.isFn K (.ref fmw11) = true)
    (lmw11 : K.lookup fmw11 = some ⟨ocmw11, odmw11, .func (PySem.W.fnOf "times" "Witt.times" (defArgs (sIn 11)) (defBody (sIn 11)) (defScope (sIn 11)) .none kVmw11 dcmw11 pmmw11 anmw11 cdmw11 ctmw11), slmw11⟩)
    (cmw11 : PySem.W.codeIn K cdmw11 "Witt.times" = true)
    (kmw11 : PySem.W.keepIn K (.ref fmw11) = true)
    (amw14 : PySem.W.findIn K (.ref Cw) "taken" = some (some (.ref fmw14)))
    (imw14 : PySem.W.isFn K (.ref fmw14) = true)
    (lmw14 : K.lookup fmw14 = some ⟨ocmw14, odmw14, .func (PySem.W.fnOf "taken" "Witt.taken" (defArgs (sIn 14)) (defBody (sIn 14)) (defScope (sIn 14)) .none kVmw14 dcmw14 pmmw14 anmw14 cdmw14 ctmw14), slmw14⟩)
    (cmw14 : PySem.W.codeIn K cdmw14 "Witt.taken" = true)
    (kmw14 : PySem.W.keepIn K (.ref fmw14) = true)
    (amw16 : PySem.W.findIn K (.ref Cw) "rests" = some (some (.ref fmw16)))
    (imw16 : PySem.W.isFn K (.ref fmw16) = true)
    (lmw16 : K.lookup fmw16 = some ⟨ocmw16, odmw16, .func (PySem.W.fnOf "rests" "Witt.rests" (defArgs (sIn 16)) (defBody (sIn 16)) (defScope (sIn 16)) .none kVmw16 dcmw16 pmmw16 anmw16 cdmw16 ctmw16), slmw16⟩)
    (cmw16 : PySem.W.codeIn K cdmw16 "Witt.rests" = true)
    (kmw16 : PySem.W.keepIn K (.ref fmw16) = true)
    (rdkwsingle : PySem.W.readsIn K Cw (.type "type") = true)
    (gakwsingle : PySem.W.specialIn K (.ref Cw) "__getattribute__" = some (some (.builtin "type.__getattribute__")))
    (akwsingle : PySem.W.findCls K (.ref Cw) (.type "type") "single" = some (.get (.builtin "classmethod.__get__") (.ref qkwsingle) .none (.ref Cw)))
    (rkwsingle : PySem.W.recIn K qkwsingle "classmethod" = some (.ref fkwsingle :: rskwsingle))
    (fnkwsingle : PySem.W.fnIn K fkwsingle = true)
    (lkwsingle : K.lookup fkwsingle = some ⟨ockwsingle, odkwsingle, .func (PySem.W.fnOf "single" "Witt.single" (defArgs (sIn 1)) (defBody (sIn 1)) (defScope (sIn 1)) .none kVkwsingle dckwsingle pmkwsingle ankwsingle cdkwsingle ctkwsingle), slkwsingle⟩)
    (ckwsingle : PySem.W.codeIn K cdkwsingle "Witt.single" = true)
    (kkwsingle : PySem.W.keepIn K (.ref fkwsingle) = true)
    (ad11 : PySem.W.nsIn K mainGlobals "is_short_integer" = some (some (.ref fd11)))
    (ld11 : K.lookup fd11 = some ⟨ocd11, odd11, .func (PySem.W.fnOf "is_short_integer" "is_short_integer" (defArgs (sShort)) (defBody (sShort)) (defScope (sShort)) .none kVd11 dcd11 pmd11 and11 cdd11 ctd11), sld11⟩)
    (cd11 : PySem.W.codeIn K cdd11 "is_short_integer" = true)
    (kd11 : PySem.W.keepIn K (.ref fd11) = true)
    (ad14 : PySem.W.nsIn K mainGlobals "check_modulus" = some (some (.ref fd14)))
    (ld14 : K.lookup fd14 = some ⟨ocd14, odd14, .func (PySem.W.fnOf "check_modulus" "check_modulus" (defArgs (sCm)) (defBody (sCm)) (defScope (sCm)) .none kVd14 dcd14 pmd14 and14 cdd14 ctd14), sld14⟩)
    (cd14 : PySem.W.codeIn K cdd14 "check_modulus" = true)
    (kd14 : PySem.W.keepIn K (.ref fd14) = true)
    (ad15 : PySem.W.nsIn K mainGlobals "check_leading" = some (some (.ref fd15)))
    (ld15 : K.lookup fd15 = some ⟨ocd15, odd15, .func (PySem.W.fnOf "check_leading" "check_leading" (defArgs (sCl)) (defBody (sCl)) (defScope (sCl)) .none kVd15 dcd15 pmd15 and15 cdd15 ctd15), sld15⟩)
    (cd15 : PySem.W.codeIn K cdd15 "check_leading" = true)
    (kd15 : PySem.W.keepIn K (.ref fd15) = true)
    (ad18 : PySem.W.nsIn K mainGlobals "is_integer" = some (some (.ref fd18)))
    (ld18 : K.lookup fd18 = some ⟨ocd18, odd18, .func (PySem.W.fnOf "is_integer" "is_integer" (defArgs (sIsI)) (defBody (sIsI)) (defScope (sIsI)) .none kVd18 dcd18 pmd18 and18 cdd18 ctd18), sld18⟩)
    (cd18 : PySem.W.codeIn K cdd18 "is_integer" = true)
    (kd18 : PySem.W.keepIn K (.ref fd18) = true)
    (ad19 : PySem.W.nsIn K mainGlobals "check_count" = some (some (.ref fd19)))
    (ld19 : K.lookup fd19 = some ⟨ocd19, odd19, .func (PySem.W.fnOf "check_count" "check_count" (defArgs (sChk)) (defBody (sChk)) (defScope (sChk)) .none kVd19 dcd19 pmd19 and19 cdd19 ctd19), sld19⟩)
    (cd19 : PySem.W.codeIn K cdd19 "check_count" = true)
    (kd19 : PySem.W.keepIn K (.ref fd19) = true)
    (ad20 : PySem.W.nsIn K mainGlobals "divisors" = some (some (.ref fd20)))
    (ld20 : K.lookup fd20 = some ⟨ocd20, odd20, .func (PySem.W.fnOf "divisors" "divisors" (defArgs (sDv)) (defBody (sDv)) (defScope (sDv)) .none kVd20 dcd20 pmd20 and20 cdd20 ctd20), sld20⟩)
    (cd20 : PySem.W.codeIn K cdd20 "divisors" = true)
    (kd20 : PySem.W.keepIn K (.ref fd20) = true)
    (ad21 : PySem.W.nsIn K mainGlobals "prime_powers" = some (some (.ref fd21)))
    (ld21 : K.lookup fd21 = some ⟨ocd21, odd21, .func (PySem.W.fnOf "prime_powers" "prime_powers" (defArgs (sPp)) (defBody (sPp)) (defScope (sPp)) .none kVd21 dcd21 pmd21 and21 cdd21 ctd21), sld21⟩)
    (cd21 : PySem.W.codeIn K cdd21 "prime_powers" = true)
    (kd21 : PySem.W.keepIn K (.ref fd21) = true)
    (ad22 : PySem.W.nsIn K mainGlobals "_check_factored" = some (some (.ref fd22)))
    (ld22 : K.lookup fd22 = some ⟨ocd22, odd22, .func (PySem.W.fnOf "_check_factored" "_check_factored" (defArgs (sFct)) (defBody (sFct)) (defScope (sFct)) .none kVd22 dcd22 pmd22 and22 cdd22 ctd22), sld22⟩)
    (cd22 : PySem.W.codeIn K cdd22 "_check_factored" = true)
    (kd22 : PySem.W.keepIn K (.ref fd22) = true)
    (ad23 : PySem.W.nsIn K mainGlobals "_least_factor" = some (some (.ref fd23)))
    (ld23 : K.lookup fd23 = some ⟨ocd23, odd23, .func (PySem.W.fnOf "_least_factor" "_least_factor" (defArgs (sLf)) (defBody (sLf)) (defScope (sLf)) .none kVd23 dcd23 pmd23 and23 cdd23 ctd23), sld23⟩)
    (cd23 : PySem.W.codeIn K cdd23 "_least_factor" = true)
    (kd23 : PySem.W.keepIn K (.ref fd23) = true)
    (ad24 : PySem.W.nsIn K mainGlobals "_times_divided" = some (some (.ref fd24)))
    (ld24 : K.lookup fd24 = some ⟨ocd24, odd24, .func (PySem.W.fnOf "_times_divided" "_times_divided" (defArgs (sTd)) (defBody (sTd)) (defScope (sTd)) .none kVd24 dcd24 pmd24 and24 cdd24 ctd24), sld24⟩)
    (cd24 : PySem.W.codeIn K cdd24 "_times_divided" = true)
    (kd24 : PySem.W.keepIn K (.ref fd24) = true)
    (ad26 : PySem.W.nsIn K mainGlobals "powers_to" = some (some (.ref fd26)))
    (ld26 : K.lookup fd26 = some ⟨ocd26, odd26, .func (PySem.W.fnOf "powers_to" "powers_to" (defArgs (sPt)) (defBody (sPt)) (defScope (sPt)) .none kVd26 dcd26 pmd26 and26 cdd26 ctd26), sld26⟩)
    (cd26 : PySem.W.codeIn K cdd26 "powers_to" = true)
    (kd26 : PySem.W.keepIn K (.ref fd26) = true)
    (ad27 : PySem.W.nsIn K mainGlobals "power_of" = some (some (.ref fd27)))
    (ld27 : K.lookup fd27 = some ⟨ocd27, odd27, .func (PySem.W.fnOf "power_of" "power_of" (defArgs (sPo)) (defBody (sPo)) (defScope (sPo)) .none kVd27 dcd27 pmd27 and27 cdd27 ctd27), sld27⟩)
    (cd27 : PySem.W.codeIn K cdd27 "power_of" = true)
    (kd27 : PySem.W.keepIn K (.ref fd27) = true)
    (ad31 : PySem.W.nsIn K mainGlobals "check_integers" = some (some (.ref fd31)))
    (ld31 : K.lookup fd31 = some ⟨ocd31, odd31, .func (PySem.W.fnOf "check_integers" "check_integers" (defArgs (sCi)) (defBody (sCi)) (defScope (sCi)) .none kVd31 dcd31 pmd31 and31 cdd31 ctd31), sld31⟩)
    (cd31 : PySem.W.codeIn K cdd31 "check_integers" = true)
    (kd31 : PySem.W.keepIn K (.ref fd31) = true)
    (ad32 : PySem.W.nsIn K mainGlobals "_are_integers" = some (some (.ref fd32)))
    (ld32 : K.lookup fd32 = some ⟨ocd32, odd32, .func (PySem.W.fnOf "_are_integers" "_are_integers" (defArgs (sAi)) (defBody (sAi)) (defScope (sAi)) .none kVd32 dcd32 pmd32 and32 cdd32 ctd32), sld32⟩)
    (cd32 : PySem.W.codeIn K cdd32 "_are_integers" = true)
    (kd32 : PySem.W.keepIn K (.ref fd32) = true)
    (ad33 : PySem.W.nsIn K mainGlobals "_check_witt" = some (some (.ref fd33)))
    (ld33 : K.lookup fd33 = some ⟨ocd33, odd33, .func (PySem.W.fnOf "_check_witt" "_check_witt" (defArgs (sCw)) (defBody (sCw)) (defScope (sCw)) .none kVd33 dcd33 pmd33 and33 cdd33 ctd33), sld33⟩)
    (cd33 : PySem.W.codeIn K cdd33 "_check_witt" = true)
    (kd33 : PySem.W.keepIn K (.ref fd33) = true)
    (ad34 : PySem.W.nsIn K mainGlobals "_made_witt" = some (some (.ref fd34)))
    (ld34 : K.lookup fd34 = some ⟨ocd34, odd34, .func (PySem.W.fnOf "_made_witt" "_made_witt" (defArgs (sMw)) (defBody (sMw)) (defScope (sMw)) .none kVd34 dcd34 pmd34 and34 cdd34 ctd34), sld34⟩)
    (cd34 : PySem.W.codeIn K cdd34 "_made_witt" = true)
    (kd34 : PySem.W.keepIn K (.ref fd34) = true)
    (ad35 : PySem.W.nsIn K mainGlobals "_ghosts_of" = some (some (.ref fd35)))
    (ld35 : K.lookup fd35 = some ⟨ocd35, odd35, .func (PySem.W.fnOf "_ghosts_of" "_ghosts_of" (defArgs (sGh)) (defBody (sGh)) (defScope (sGh)) .none kVd35 dcd35 pmd35 and35 cdd35 ctd35), sld35⟩)
    (cd35 : PySem.W.codeIn K cdd35 "_ghosts_of" = true)
    (kd35 : PySem.W.keepIn K (.ref fd35) = true)
    (ad36 : PySem.W.nsIn K mainGlobals "_coordinates_of" = some (some (.ref fd36)))
    (ld36 : K.lookup fd36 = some ⟨ocd36, odd36, .func (PySem.W.fnOf "_coordinates_of" "_coordinates_of" (defArgs (sCo)) (defBody (sCo)) (defScope (sCo)) .none kVd36 dcd36 pmd36 and36 cdd36 ctd36), sld36⟩)
    (cd36 : PySem.W.codeIn K cdd36 "_coordinates_of" = true)
    (kd36 : PySem.W.keepIn K (.ref fd36) = true)
    (ad37 : PySem.W.nsIn K mainGlobals "_power_sum" = some (some (.ref fd37)))
    (ld37 : K.lookup fd37 = some ⟨ocd37, odd37, .func (PySem.W.fnOf "_power_sum" "_power_sum" (defArgs (sPs)) (defBody (sPs)) (defScope (sPs)) .none kVd37 dcd37 pmd37 and37 cdd37 ctd37), sld37⟩)
    (cd37 : PySem.W.codeIn K cdd37 "_power_sum" = true)
    (kd37 : PySem.W.keepIn K (.ref fd37) = true)
    (ad39 : PySem.W.nsIn K mainGlobals "_law_dice" = some (some (.ref fd39)))
    (ld39 : K.lookup fd39 = some ⟨ocd39, odd39, .func (PySem.W.fnOf "_law_dice" "_law_dice" (defArgs (sDic)) (defBody (sDic)) (defScope (sDic)) .none kVd39 dcd39 pmd39 and39 cdd39 ctd39), sld39⟩)
    (cd39 : PySem.W.codeIn K cdd39 "_law_dice" = true)
    (kd39 : PySem.W.keepIn K (.ref fd39) = true)
    (ad40 : PySem.W.nsIn K mainGlobals "_law_roll" = some (some (.ref fd40)))
    (ld40 : K.lookup fd40 = some ⟨ocd40, odd40, .func (PySem.W.fnOf "_law_roll" "_law_roll" (defArgs (sRoll)) (defBody (sRoll)) (defScope (sRoll)) .none kVd40 dcd40 pmd40 and40 cdd40 ctd40), sld40⟩)
    (cd40 : PySem.W.codeIn K cdd40 "_law_roll" = true)
    (kd40 : PySem.W.keepIn K (.ref fd40) = true)
    (ad41 : PySem.W.nsIn K mainGlobals "_law_pick" = some (some (.ref fd41)))
    (ld41 : K.lookup fd41 = some ⟨ocd41, odd41, .func (PySem.W.fnOf "_law_pick" "_law_pick" (defArgs (sPick)) (defBody (sPick)) (defScope (sPick)) .none kVd41 dcd41 pmd41 and41 cdd41 ctd41), sld41⟩)
    (cd41 : PySem.W.codeIn K cdd41 "_law_pick" = true)
    (kd41 : PySem.W.keepIn K (.ref fd41) = true)
    (ad42 : PySem.W.nsIn K mainGlobals "_law_gh_power" = some (some (.ref fd42)))
    (ld42 : K.lookup fd42 = some ⟨ocd42, odd42, .func (PySem.W.fnOf "_law_gh_power" "_law_gh_power" (defArgs (sPw)) (defBody (sPw)) (defScope (sPw)) .none kVd42 dcd42 pmd42 and42 cdd42 ctd42), sld42⟩)
    (cd42 : PySem.W.codeIn K cdd42 "_law_gh_power" = true)
    (kd42 : PySem.W.keepIn K (.ref fd42) = true)
    (ad43 : PySem.W.nsIn K mainGlobals "_law_gh_drawn" = some (some (.ref fd43)))
    (ld43 : K.lookup fd43 = some ⟨ocd43, odd43, .func (PySem.W.fnOf "_law_gh_drawn" "_law_gh_drawn" (defArgs (sDr)) (defBody (sDr)) (defScope (sDr)) .none kVd43 dcd43 pmd43 and43 cdd43 ctd43), sld43⟩)
    (cd43 : PySem.W.codeIn K cdd43 "_law_gh_drawn" = true)
    (kd43 : PySem.W.keepIn K (.ref fd43) = true)
    (ad44 : PySem.W.nsIn K mainGlobals "_law_right" = some (some (.ref fd44)))
    (ld44 : K.lookup fd44 = some ⟨ocd44, odd44, .func (PySem.W.fnOf "_law_right" "_law_right" (defArgs (sRi)) (defBody (sRi)) (defScope (sRi)) .none kVd44 dcd44 pmd44 and44 cdd44 ctd44), sld44⟩)
    (cd44 : PySem.W.codeIn K cdd44 "_law_right" = true)
    (kd44 : PySem.W.keepIn K (.ref fd44) = true)
    (ad45 : PySem.W.nsIn K mainGlobals "law" = some (some (.ref fd45)))
    (ld45 : K.lookup fd45 = some ⟨ocd45, odd45, .func (PySem.W.fnOf "law" "law" (defArgs (sLaw)) (defBody (sLaw)) (defScope (sLaw)) .none kVd45 dcd45 pmd45 and45 cdd45 ctd45), sld45⟩)
    (cd45 : PySem.W.codeIn K cdd45 "law" = true)
    (kd45 : PySem.W.keepIn K (.ref fd45) = true)
    (g_MAX_MODULUS : PySem.W.nsIn K mainGlobals "MAX_MODULUS" = some (some (.int 10000 tkMAX_MODULUS)))
    (g_MAX_GHOSTS : PySem.W.nsIn K mainGlobals "MAX_GHOSTS" = some (some (.int 24 tkMAX_GHOSTS)))
    (g_isqrt : PySem.W.nsIn K mainGlobals "isqrt" = some (some (.builtin "math.isqrt")))
    (z_int : PySem.W.nsIn K mainGlobals "int" = some none)
    (z_len : PySem.W.nsIn K mainGlobals "len" = some none)
    (z_abs : PySem.W.nsIn K mainGlobals "abs" = some none)
    (z_max : PySem.W.nsIn K mainGlobals "max" = some none)
    (z_min : PySem.W.nsIn K mainGlobals "min" = some none)
    (z_isinstance : PySem.W.nsIn K mainGlobals "isinstance" = some none)
    (z_bool : PySem.W.nsIn K mainGlobals "bool" = some none)
    (z_range : PySem.W.nsIn K mainGlobals "range" = some none)
    (z_all : PySem.W.nsIn K mainGlobals "all" = some none)
    (z_tuple : PySem.W.nsIn K mainGlobals "tuple" = some none)
    (z_sum : PySem.W.nsIn K mainGlobals "sum" = some none)
    (z_zip : PySem.W.nsIn K mainGlobals "zip" = some none)
    (z_sorted : PySem.W.nsIn K mainGlobals "sorted" = some none)
    : LawAtC P w K CX0 13 "_law_script" mg fa h := by
  have e := hfa.symm.trans (PySem.W.mg_of X G ad45)
  cases e
  have clw : Cls K Cw := ⟨pgw, hdw, pow, saw⟩
  have FIw := fun_mk (st := sIn 0) lIw cIw kIw
  have bIw := FIw.binds (ps := ["self", "coordinates"]) fun _ _ _ _ _ _ us hl => match us, hl with | [_, _], _ => rfl
  have Fpw4 := fun_mk (st := sIn 4) lpw4 cpw4 kpw4
  have bpw4 := Fpw4.binds (ps := ["self"]) fun _ _ _ _ _ _ us hl => match us, hl with | [_], _ => rfl
  have Fpw6 := fun_mk (st := sIn 6) lpw6 cpw6 kpw6
  have bpw6 := Fpw6.binds (ps := ["self"]) fun _ _ _ _ _ _ us hl => match us, hl with | [_], _ => rfl
  have Fmw9 := fun_mk (st := sIn 9) lmw9 cmw9 kmw9
  have bmw9 := Fmw9.binds (ps := ["self", "other"]) fun _ _ _ _ _ _ us hl => match us, hl with | [_, _], _ => rfl
  have Fmw10 := fun_mk (st := sIn 10) lmw10 cmw10 kmw10
  have bmw10 := Fmw10.binds (ps := ["self", "other"]) fun _ _ _ _ _ _ us hl => match us, hl with | [_, _], _ => rfl
  have Fmw11 := fun_mk (st := sIn 11) lmw11 cmw11 kmw11
  have bmw11 := Fmw11.binds (ps := ["self", "other"]) fun _ _ _ _ _ _ us hl => match us, hl with | [_, _], _ => rfl
  have Fmw14 := fun_mk (st := sIn 14) lmw14 cmw14 kmw14
  have bmw14 := Fmw14.binds (ps := ["self", "number"]) fun _ _ _ _ _ _ us hl => match us, hl with | [_, _], _ => rfl
  have Fmw16 := fun_mk (st := sIn 16) lmw16 cmw16 kmw16
  have bmw16 := Fmw16.binds (ps := ["self", "modulus"]) fun _ _ _ _ _ _ us hl => match us, hl with | [_, _], _ => rfl
  have Fkwsingle := fun_mk (st := sIn 1) lkwsingle ckwsingle kkwsingle
  have bkwsingle := Fkwsingle.binds (ps := ["cls", "number", "degree"]) fun _ _ _ _ _ _ us hl => match us, hl with | [_, _, _], _ => rfl
  have crkwsingle : ClX.CRead K Cw (.type "type") := ⟨rdkwsingle, gakwsingle⟩
  have cmkwsingle : ClX.CMet K Cw (.type "type") "single" qkwsingle fkwsingle := ⟨akwsingle, ⟨_, rkwsingle⟩, fnkwsingle⟩
  have F11 := fun_mk (st := sShort) ld11 cd11 kd11
  have b11 := F11.binds (ps := ["value"]) fun _ _ _ _ _ _ us hl => match us, hl with | [_], _ => rfl
  have g11 := PySem.W.mg_of X G ad11
  have F14 := fun_mk (st := sCm) ld14 cd14 kd14
  have b14 := F14.binds (ps := ["modulus"]) fun _ _ _ _ _ _ us hl => match us, hl with | [_], _ => rfl
  have g14 := PySem.W.mg_of X G ad14
  have F15 := fun_mk (st := sCl) ld15 cd15 kd15
  have b15 := F15.binds (ps := ["modulus"]) fun _ _ _ _ _ _ us hl => match us, hl with | [_], _ => rfl
  have g15 := PySem.W.mg_of X G ad15
  have F18 := fun_mk (st := sIsI) ld18 cd18 kd18
  have b18 := F18.binds (ps := ["value"]) fun _ _ _ _ _ _ us hl => match us, hl with | [_], _ => rfl
  have g18 := PySem.W.mg_of X G ad18
  have F19 := fun_mk (st := sChk) ld19 cd19 kd19
  have b19 := F19.binds (ps := ["value", "low", "high"]) fun _ _ _ _ _ _ us hl => match us, hl with | [_, _, _], _ => rfl
  have g19 := PySem.W.mg_of X G ad19
  have F20 := fun_mk (st := sDv) ld20 cd20 kd20
  have b20 := F20.binds (ps := ["number"]) fun _ _ _ _ _ _ us hl => match us, hl with | [_], _ => rfl
  have g20 := PySem.W.mg_of X G ad20
  have F21 := fun_mk (st := sPp) ld21 cd21 kd21
  have b21 := F21.binds (ps := ["number"]) fun _ _ _ _ _ _ us hl => match us, hl with | [_], _ => rfl
  have g21 := PySem.W.mg_of X G ad21
  have F22 := fun_mk (st := sFct) ld22 cd22 kd22
  have b22 := F22.binds (ps := ["number"]) fun _ _ _ _ _ _ us hl => match us, hl with | [_], _ => rfl
  have g22 := PySem.W.mg_of X G ad22
  have F23 := fun_mk (st := sLf) ld23 cd23 kd23
  have b23 := F23.binds (ps := ["number", "start"]) fun _ _ _ _ _ _ us hl => match us, hl with | [_, _], _ => rfl
  have g23 := PySem.W.mg_of X G ad23
  have F24 := fun_mk (st := sTd) ld24 cd24 kd24
  have b24 := F24.binds (ps := ["prime", "number"]) fun _ _ _ _ _ _ us hl => match us, hl with | [_, _], _ => rfl
  have g24 := PySem.W.mg_of X G ad24
  have F26 := fun_mk (st := sPt) ld26 cd26 kd26
  have b26 := F26.binds (ps := ["number", "many"]) fun _ _ _ _ _ _ us hl => match us, hl with | [_, _], _ => rfl
  have g26 := PySem.W.mg_of X G ad26
  have F27 := fun_mk (st := sPo) ld27 cd27 kd27
  have b27 := F27.binds (ps := ["number", "many"]) fun _ _ _ _ _ _ us hl => match us, hl with | [_, _], _ => rfl
  have g27 := PySem.W.mg_of X G ad27
  have F31 := fun_mk (st := sCi) ld31 cd31 kd31
  have b31 := F31.binds (ps := ["numbers"]) fun _ _ _ _ _ _ us hl => match us, hl with | [_], _ => rfl
  have g31 := PySem.W.mg_of X G ad31
  have F32 := fun_mk (st := sAi) ld32 cd32 kd32
  have b32 := F32.binds (ps := ["value"]) fun _ _ _ _ _ _ us hl => match us, hl with | [_], _ => rfl
  have g32 := PySem.W.mg_of X G ad32
  have F33 := fun_mk (st := sCw) ld33 cd33 kd33
  have b33 := F33.binds (ps := ["other"]) fun _ _ _ _ _ _ us hl => match us, hl with | [_], _ => rfl
  have g33 := PySem.W.mg_of X G ad33
  have F34 := fun_mk (st := sMw) ld34 cd34 kd34
  have b34 := F34.binds (ps := ["ghosts"]) fun _ _ _ _ _ _ us hl => match us, hl with | [_], _ => rfl
  have g34 := PySem.W.mg_of X G ad34
  have F35 := fun_mk (st := sGh) ld35 cd35 kd35
  have b35 := F35.binds (ps := ["coordinates"]) fun _ _ _ _ _ _ us hl => match us, hl with | [_], _ => rfl
  have g35 := PySem.W.mg_of X G ad35
  have F36 := fun_mk (st := sCo) ld36 cd36 kd36
  have b36 := F36.binds (ps := ["ghosts"]) fun _ _ _ _ _ _ us hl => match us, hl with | [_], _ => rfl
  have g36 := PySem.W.mg_of X G ad36
  have F37 := fun_mk (st := sPs) ld37 cd37 kd37
  have b37 := F37.binds (ps := ["coordinates", "n", "places"]) fun _ _ _ _ _ _ us hl => match us, hl with | [_, _, _], _ => rfl
  have g37 := PySem.W.mg_of X G ad37
  have F39 := fun_mk (st := sDic) ld39 cd39 kd39
  have b39 := F39.binds (ps := ["_law_script", "_law_spot"]) fun _ _ _ _ _ _ us hl => match us, hl with | [_, _], _ => rfl
  have g39 := PySem.W.mg_of X G ad39
  have F40 := fun_mk (st := sRoll) ld40 cd40 kd40
  have b40 := F40.binds (ps := ["_law_dice_here", "_law_total"]) fun _ _ _ _ _ _ us hl => match us, hl with | [_, _], _ => rfl
  have g40 := PySem.W.mg_of X G ad40
  have F41 := fun_mk (st := sPick) ld41 cd41 kd41
  have b41 := F41.binds (ps := ["_law_dice_here", "_law_items"]) fun _ _ _ _ _ _ us hl => match us, hl with | [_, _], _ => rfl
  have g41 := PySem.W.mg_of X G ad41
  have F42 := fun_mk (st := sPw) ld42 cd42 kd42
  have b42 := F42.binds (ps := ["_law_number", "_law_many"]) fun _ _ _ _ _ _ us hl => match us, hl with | [_, _], _ => rfl
  have g42 := PySem.W.mg_of X G ad42
  have F43 := fun_mk (st := sDr) ld43 cd43 kd43
  have b43 := F43.binds (ps := ["_law_dice_here", "_law_size", "_law_most"]) fun _ _ _ _ _ _ us hl => match us, hl with | [_, _, _], _ => rfl
  have g43 := PySem.W.mg_of X G ad43
  have F44 := fun_mk (st := sRi) ld44 cd44 kd44
  have b44 := F44.binds (ps := ["_law_dice_here"]) fun _ _ _ _ _ _ us hl => match us, hl with | [_], _ => rfl
  have g44 := PySem.W.mg_of X G ad44
  have F45 := fun_mk (st := sLaw) ld45 cd45 kd45
  have b45 := F45.binds (ps := ["_law_script"]) fun _ _ _ _ _ _ us hl => match us, hl with | [_], _ => rfl
  have g45 := PySem.W.mg_of X G ad45
  refine ⟨PySem.W.fnOf "law" "law" (defArgs sLaw) (defBody sLaw) (defScope sLaw) .none kVd45 dcd45 pmd45 and45 cdd45 ctd45, [], spLaw K, (fun _ z => nomatch z), (fun _ z => nomatch z), (fun _ z => nomatch z), fun s v => .of_eq rfl, (fun H a ns _ _ _ hS => ⟨a, ns, rfl, hS, fun _ => rfl⟩), fun base _ _ _ => ?_⟩
  have N : NN mg := { int := PySem.W.mg_none_of X G z_int, len := PySem.W.mg_none_of X G z_len, abs := PySem.W.mg_none_of X G z_abs, max := PySem.W.mg_none_of X G z_max, min := PySem.W.mg_none_of X G z_min, isinstance := PySem.W.mg_none_of X G z_isinstance, bool := PySem.W.mg_none_of X G z_bool, range := PySem.W.mg_none_of X G z_range, all := PySem.W.mg_none_of X G z_all, tuple := PySem.W.mg_none_of X G z_tuple, sum := PySem.W.mg_none_of X G z_sum, zip := PySem.W.mg_none_of X G z_zip, sorted := PySem.W.mg_none_of X G z_sorted, tl := h__TOO_LONG, mf := h_MAX_FACTORED, mm := ⟨_, PySem.W.mg_of X G g_MAX_MODULUS⟩, mgh := ⟨_, PySem.W.mg_of X G g_MAX_GHOSTS⟩, isqrt := PySem.W.mg_of X G g_isqrt }
  have T : Wt K mg Cw := { mgC := PySem.W.mg_of X G aCw, cl := clw, nG := nw_ghosts, nC := nw_coordinates, ca := caw, cn := cnw, ct := ctw, mo := mow }
  have hSh : HSh P w K mg base := ⟨_, _, ok_short F11 N, g11, kd11, b11⟩
  have hIsI : HIsI P w K mg base := ⟨_, _, ok_isI F18 hSh, g18, kd18, b18⟩
  have hLf : HLf P w K mg base := ⟨_, _, ok_lf F23 N.isqrt N.range, g23, kd23, b23⟩
  have hTd : HTd P w K mg base := ⟨_, _, ok_td F24, g24, kd24, b24⟩
  have hFct : HFct P w K mg base := ⟨_, _, ok_fct F22 N hIsI, g22, kd22, b22⟩
  have hPp : HPp P w K mg base := ⟨_, _, ok_pp F21 hFct hLf hTd, g21, kd21, b21⟩
  have hDv : HDv P w K mg base := ⟨_, _, ok_dvs (ok_dv F20 hPp N.range N.tuple N.sorted), g20, kd20, b20⟩
  have hCm : Has P w K mg base "check_modulus" 2 ["modulus"] spCm := ⟨_, _, ok_cm F14 N hSh, g14, kd14, b14⟩
  have hCl : Has P w K mg base "check_leading" 3 ["modulus"] spCm := ⟨_, _, ok_cl F15 hCm, g15, kd15, b15⟩
  have hCk : Has P w K mg base "check_count" 3 ["value", "low", "high"] spChk := ⟨_, _, ok_chk F19 hIsI, g19, kd19, b19⟩
  have hPt : HPt P w K mg base := ⟨_, _, ok_pt F26 N, g26, kd26, b26⟩
  have hPo : HPo P w K mg base := ⟨_, _, ok_po F27 hPt, g27, kd27, b27⟩
  have hPs : HPs P w K mg base := ⟨_, _, ok_ps F37 N hPo, g37, kd37, b37⟩
  have hGh : HGh P w K mg base := ⟨_, _, ok_gh F35 N hPs hDv, g35, kd35, b35⟩
  have hCo : HCo P w K mg base := ⟨_, _, ok_co F36 N hPs hDv, g36, kd36, b36⟩
  have hAi : Has P w K mg base "_are_integers" 2 ["value"] (spAi K) := ⟨_, _, ok_ai F32 N hSh, g32, kd32, b32⟩
  have hCi : Has P w K mg base "check_integers" 3 ["numbers"] (spCi K) := ⟨_, _, ok_ci F31 hAi, g31, kd31, b31⟩
  have hI : HWit P w K mg base Cw := ⟨_, _, ok_ini FIw T hCi hGh, ⟨mkw, aIw, iIw, kCw⟩, bIw⟩
  have hMw : HMw P w K mg base Cw := ⟨_, _, ok_mw F34 N T hI hCo, g34, kd34, b34⟩
  have hCw : HCw P w K mg base Cw := ⟨_, _, ok_cw F33 N T, g33, kd33, b33⟩
  have hGs : HasP P w K mg base Cw "ghosts" 1 (getSp Cw "_ghosts") := ⟨_, _, _, ⟨apw6, gpw6, tpw6, _, rpw6⟩, fn_getter lpw6 cpw6 scGet rfl rfl clw nw_ghosts, bpw6⟩
  have hDe : HasP P w K mg base Cw "degree" 1 (spDe Cw) := ⟨_, _, _, ⟨apw4, gpw4, tpw4, _, rpw4⟩, ok_de Fpw4 N T, bpw4⟩
  have h_plus : HasM P w K mg base Cw "plus" 11 ["self", "other"] (spBi Cw (fun x y => x + y)) := ⟨_, _, ok_plus Fmw9 N T hCw hMw hGs, ⟨amw9, imw9, kmw9⟩, bmw9⟩
  have h_minus : HasM P w K mg base Cw "minus" 11 ["self", "other"] (spBi Cw (fun x y => x - y)) := ⟨_, _, ok_minus Fmw10 N T hCw hMw hGs, ⟨amw10, imw10, kmw10⟩, bmw10⟩
  have h_times : HasM P w K mg base Cw "times" 11 ["self", "other"] (spBi Cw (fun x y => x * y)) := ⟨_, _, ok_times Fmw11 N T hCw hMw hGs, ⟨amw11, imw11, kmw11⟩, bmw11⟩
  have hTk : HasM P w K mg base Cw "taken" 11 ["self", "number"] (spTk Cw) := ⟨_, _, ok_tk Fmw14 N T hCk hDe hMw, ⟨amw14, imw14, kmw14⟩, bmw14⟩
  have hRs : HasM P w K mg base Cw "rests" 4 ["self", "modulus"] (spRs Cw) := ⟨_, _, ok_rs Fmw16 N T hCl, ⟨amw16, imw16, kmw16⟩, bmw16⟩
  have hSi : HSi P w K mg base Cw := ⟨_, _, _, _, crkwsingle, cmkwsingle, ok_si Fkwsingle N T hSh hCk hI, bkwsingle⟩
  have oRoll := ok_roll (P := P) (w := w) (base := base) F40 N.bl
  have hRoll : HRoll P w K mg base := ⟨_, _, oRoll, g40, kd40, b40⟩
  have hPick : HPick P w K mg base := ⟨_, _, ok_pick F41 N.bl g40 kd40 b40 oRoll, g41, kd41, b41⟩
  have hDi : HDi P w K mg base := ⟨_, _, ok_dic F39 N.bl, g39, kd39, b39⟩
  have hPw : HPw P w K mg base := ⟨_, _, ok_pw F42 N, g42, kd42, b42⟩
  have hDr : HDr P w K mg base := ⟨_, _, ok_dr F43 N hRoll hPick, g43, kd43, b43⟩
  have hRi : HRi P w K mg base := ⟨_, _, ok_ri F44 N T hRoll hPick hDr hPw hI h_plus h_minus h_times hTk hRs, g44, kd44, b44⟩
  exact ok_law F45 N T hDi hRi hSi h_plus hRs
end Lk

set_option Elab.async false
set_option maxRecDepth 100000
open PySem PySem.W PyProof.Rows in
set_option maxRecDepth 100000 in
set_option maxHeartbeats 0 in
theorem PySem.Challenge.cw_lawseries_k68_whole_rests_of_coordinates_holds : PySem.Challenge.rw_lawseries_k68_whole_rests_of_coordinates.Holds := by
  w_on; o_law; k_head; (case hw => w_witness2)
  k_fill
  refine Lk.walkT (l := PySem.Challenge.rw_lawseries_k68_whole_rests_of_coordinates) (k := 13) rfl rfl ⟨rfl, by decide, by decide⟩ (fun w h Y => PySem.W.kIn_of Y) ?F
  case F =>
    intro w mg fa h Y KX G XX hmg
    refine' Lk.all_mk KX G hmg (Lk.loose__TOO_LONG XX) (Lk.loose_MAX_FACTORED XX) ?aCw ?pgw ?hdw ?pow ?saw ?mkw ?kCw ?nw_coordinates ?nw_ghosts ?caw ?cnw ?ctw ?mow ?iCw ?tCw ?sKwint ?aIw ?iIw ?lIw ?cIw ?kIw ?apw4 ?gpw4 ?tpw4 ?rpw4 ?lpw4 ?cpw4 ?kpw4 ?apw6 ?gpw6 ?tpw6 ?rpw6 ?lpw6 ?cpw6 ?kpw6 ?amw9 ?imw9 ?lmw9 ?cmw9 ?kmw9 ?amw10 ?imw10 ?lmw10 ?cmw10 ?kmw10 ?amw11 ?imw11 ?lmw11 ?cmw11 ?kmw11 ?amw14 ?imw14 ?lmw14 ?cmw14 ?kmw14 ?amw16 ?imw16 ?lmw16 ?cmw16 ?kmw16 ?rdkwsingle ?gakwsingle ?akwsingle ?rkwsingle ?fnkwsingle ?lkwsingle ?ckwsingle ?kkwsingle ?ad11 ?ld11 ?cd11 ?kd11 ?ad14 ?ld14 ?cd14 ?kd14 ?ad15 ?ld15 ?cd15 ?kd15 ?ad18 ?ld18 ?cd18 ?kd18 ?ad19 ?ld19 ?cd19 ?kd19 ?ad20 ?ld20 ?cd20 ?kd20 ?ad21 ?ld21 ?cd21 ?kd21 ?ad22 ?ld22 ?cd22 ?kd22 ?ad23 ?ld23 ?cd23 ?kd23 ?ad24 ?ld24 ?cd24 ?kd24 ?ad26 ?ld26 ?cd26 ?kd26 ?ad27 ?ld27 ?cd27 ?kd27 ?ad31 ?ld31 ?cd31 ?kd31 ?ad32 ?ld32 ?cd32 ?kd32 ?ad33 ?ld33 ?cd33 ?kd33 ?ad34 ?ld34 ?cd34 ?kd34 ?ad35 ?ld35 ?cd35 ?kd35 ?ad36 ?ld36 ?cd36 ?kd36 ?ad37 ?ld37 ?cd37 ?kd37 ?ad39 ?ld39 ?cd39 ?kd39 ?ad40 ?ld40 ?cd40 ?kd40 ?ad41 ?ld41 ?cd41 ?kd41 ?ad42 ?ld42 ?cd42 ?kd42 ?ad43 ?ld43 ?cd43 ?kd43 ?ad44 ?ld44 ?cd44 ?kd44 ?ad45 ?ld45 ?cd45 ?kd45 ?g_MAX_MODULUS ?g_MAX_GHOSTS ?g_isqrt ?z_int ?z_len ?z_abs ?z_max ?z_min ?z_isinstance ?z_bool ?z_range ?z_all ?z_tuple ?z_sum ?z_zip ?z_sorted 
    (case aCw => k_is)
    (case pgw => k_is)
    (case hdw => k_is)
    (case pow => k_is)
    (case saw => k_is)
    (case mkw => k_is)
    (case kCw => k_is)
    (case nw_coordinates => k_is)
    (case nw_ghosts => k_is)
    (case caw => k_is)
    (case cnw => k_is)
    (case ctw => k_is)
    (case mow => k_is)
    (case iCw => k_is)
    (case tCw => k_is)
    (case sKwint => k_is)
    (case aIw => k_is)
    (case iIw => k_is)
    (case lIw => k_is)
    (case cIw => k_is)
    (case kIw => k_is)
    (case apw4 => k_is)
    (case gpw4 => k_is)
    (case tpw4 => k_is)
    (case rpw4 => k_is)
    (case lpw4 => k_is)
    (case cpw4 => k_is)
    (case kpw4 => k_is)
    (case apw6 => k_is)
    (case gpw6 => k_is)
    (case tpw6 => k_is)
    (case rpw6 => k_is)
    (case lpw6 => k_is)
    (case cpw6 => k_is)
    (case kpw6 => k_is)
    (case amw9 => k_is)
    (case imw9 => k_is)
    (case lmw9 => k_is)
    (case cmw9 => k_is)
    (case kmw9 => k_is)
    (case amw10 => k_is)
    (case imw10 => k_is)
    (case lmw10 => k_is)
    (case cmw10 => k_is)
    (case kmw10 => k_is)
    (case amw11 => k_is)
    (case imw11 => k_is)
    (case lmw11 => k_is)
    (case cmw11 => k_is)
    (case kmw11 => k_is)
    (case amw14 => k_is)
    (case imw14 => k_is)
    (case lmw14 => k_is)
    (case cmw14 => k_is)
    (case kmw14 => k_is)
    (case amw16 => k_is)
    (case imw16 => k_is)
    (case lmw16 => k_is)
    (case cmw16 => k_is)
    (case kmw16 => k_is)
    (case rdkwsingle => k_is)
    (case gakwsingle => k_is)
    (case akwsingle => k_is)
    (case rkwsingle => k_is)
    (case fnkwsingle => k_is)
    (case lkwsingle => k_is)
    (case ckwsingle => k_is)
    (case kkwsingle => k_is)
    (case ad11 => k_is)
    (case ld11 => k_is)
    (case cd11 => k_is)
    (case kd11 => k_is)
    (case ad14 => k_is)
    (case ld14 => k_is)
    (case cd14 => k_is)
    (case kd14 => k_is)
    (case ad15 => k_is)
    (case ld15 => k_is)
    (case cd15 => k_is)
    (case kd15 => k_is)
    (case ad18 => k_is)
    (case ld18 => k_is)
    (case cd18 => k_is)
    (case kd18 => k_is)
    (case ad19 => k_is)
    (case ld19 => k_is)
    (case cd19 => k_is)
    (case kd19 => k_is)
    (case ad20 => k_is)
    (case ld20 => k_is)
    (case cd20 => k_is)
    (case kd20 => k_is)
    (case ad21 => k_is)
    (case ld21 => k_is)
    (case cd21 => k_is)
    (case kd21 => k_is)
    (case ad22 => k_is)
    (case ld22 => k_is)
    (case cd22 => k_is)
    (case kd22 => k_is)
    (case ad23 => k_is)
    (case ld23 => k_is)
    (case cd23 => k_is)
    (case kd23 => k_is)
    (case ad24 => k_is)
    (case ld24 => k_is)
    (case cd24 => k_is)
    (case kd24 => k_is)
    (case ad26 => k_is)
    (case ld26 => k_is)
    (case cd26 => k_is)
    (case kd26 => k_is)
    (case ad27 => k_is)
    (case ld27 => k_is)
    (case cd27 => k_is)
    (case kd27 => k_is)
    (case ad31 => k_is)
    (case ld31 => k_is)
    (case cd31 => k_is)
    (case kd31 => k_is)
    (case ad32 => k_is)
    (case ld32 => k_is)
    (case cd32 => k_is)
    (case kd32 => k_is)
    (case ad33 => k_is)
    (case ld33 => k_is)
    (case cd33 => k_is)
    (case kd33 => k_is)
    (case ad34 => k_is)
    (case ld34 => k_is)
    (case cd34 => k_is)
    (case kd34 => k_is)
    (case ad35 => k_is)
    (case ld35 => k_is)
    (case cd35 => k_is)
    (case kd35 => k_is)
    (case ad36 => k_is)
    (case ld36 => k_is)
    (case cd36 => k_is)
    (case kd36 => k_is)
    (case ad37 => k_is)
    (case ld37 => k_is)
    (case cd37 => k_is)
    (case kd37 => k_is)
    (case ad39 => k_is)
    (case ld39 => k_is)
    (case cd39 => k_is)
    (case kd39 => k_is)
    (case ad40 => k_is)
    (case ld40 => k_is)
    (case cd40 => k_is)
    (case kd40 => k_is)
    (case ad41 => k_is)
    (case ld41 => k_is)
    (case cd41 => k_is)
    (case kd41 => k_is)
    (case ad42 => k_is)
    (case ld42 => k_is)
    (case cd42 => k_is)
    (case kd42 => k_is)
    (case ad43 => k_is)
    (case ld43 => k_is)
    (case cd43 => k_is)
    (case kd43 => k_is)
    (case ad44 => k_is)
    (case ld44 => k_is)
    (case cd44 => k_is)
    (case kd44 => k_is)
    (case ad45 => k_is)
    (case ld45 => k_is)
    (case cd45 => k_is)
    (case kd45 => k_is)
    (case g_MAX_MODULUS => k_is)
    (case g_MAX_GHOSTS => k_is)
    (case g_isqrt => k_is)
    (case z_int => k_is)
    (case z_len => k_is)
    (case z_abs => k_is)
    (case z_max => k_is)
    (case z_min => k_is)
    (case z_isinstance => k_is)
    (case z_bool => k_is)
    (case z_range => k_is)
    (case z_all => k_is)
    (case z_tuple => k_is)
    (case z_sum => k_is)
    (case z_zip => k_is)
    (case z_sorted => k_is)

