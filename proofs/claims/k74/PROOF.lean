import PyProof.Rows.All
import Flt.RightSqrt
import HandS.AnyAll
import HandS.ClsMeth
import HandS.Defaults
import HandS.EndTab
import HandS.Ends
import HandS.ForExc
import HandS.ForMost
import HandS.Gcd
import HandS.HotCalls
import HandS.IsInst
import HandS.Iter
import HandS.OwnEq
import HandS.Property
import HandS.SlotsOwn
import HandS.Style
import HandS.Wide
import HandS.WideBits
import KE.KCallOwn
import KE.KFmtOwn
import KE.KMathG
import KE.KMathGC
import KE.KNest
import OpenK.AllK
import PyProof.InstNe
import PyProof.InstStoreFacts
import PyProof.Rows.ChunkLeaf
import Wide.All
import Wide.FinOn
import PySem.Challenge.RW_lawseries_k74_whole_traces_and_kinds_of
set_option Elab.async false
set_option linter.all false
set_option maxRecDepth 100000
set_option maxHeartbeats 4000000
/-! math.isqrt and math.comb, as rules for a call (with pe_callBfun, as cr_gcd) -/
namespace Lk
open PySem PySem.Spec PyProof.Rows L2
section
variable {X : Cx}
def rSqrt : List V → Hp → VK → Prop := fun vs H Q => ∃ a : Int, vs = [.int a] ∧ 0 ≤ a ∧ a < 2 ^ 64 ∧ Q (.int ((Float64.isqrt a.toNat : Nat) : Int)) H
theorem cr_isqrt : CallR X (.builtin "math.isqrt") rSqrt := by
  intro pins s σ H vs us Q I r h
  obtain ⟨a, rfl, h0, h1, q⟩ := h
  obtain ⟨u, rfl, t, rfl⟩ := vals1 r
  exact PySem.W.mg_isqrt h0 h1 ⟨.int _, H, I.tok _, ⟨_, rfl⟩, q⟩
def rComb : List V → Hp → VK → Prop := fun vs H Q => ∃ a b : Int, vs = [.int a, .int b] ∧ 0 ≤ a ∧ 0 ≤ b ∧ a ≤ 18000 ∧ Q (.int (PySem.W.mcComb a b)) H
theorem cr_comb : CallR X (.builtin "math.comb") rComb := by
  intro pins s σ H vs us Q I r h
  obtain ⟨a, b, rfl, ha, hb, hk, q⟩ := h
  obtain ⟨t, u, rfl⟩ := Vals.int2 r
  exact PySem.W.mc_comb ha hb (by omega) (.inr hk) fun _ => ⟨.int _, H, I.tok _, ⟨_, rfl⟩, q⟩
end
end Lk

set_option Elab.async false
set_option linter.all false
set_option maxRecDepth 100000
set_option maxHeartbeats 4000000
namespace Lk
open PySem PySem.Spec L2
section
variable {X : Cx}
/-- // by any divisor but 0, below 2 ^ 9000 in size -/
def CDivG (_ j : Int) : Prop := j ≠ 0 ∧ j.natAbs.log2 < 9000
theorem divG {i j : Int} {b : Nat} (h : j ≠ 0) (hb : j.natAbs < 2 ^ b) (h0 : 0 < b) (h9 : b ≤ 9000) : CDivG i j :=
  ⟨h, Nat.lt_of_lt_of_le (PySem.Flt.log2_lt_of h0 hb) h9⟩
theorem op_fdivG : OpR X (binaryOp .FloorDiv) (rI CDivG fun i j => .int (i.fdiv j)) := opI fun i j _ _ _ _ _ hc q =>
  PyProof.Rows.floordiv_int hc.1 q (.inl (PyProof.noPylong_of_log2 hc.2))
/-- o.f as a target -/
def gFld (K : PySem.W.Frag) (to : TE) (f : Str) : TG := fun v σ H Q => to σ H fun x H1 =>
  ∃ a C dx fs, x = .ref a ∧ H1 a = some (.ins C dx fs) ∧ Cls K C ∧ NoAttr K C f ∧ fs.length < 1000 ∧ Q σ (upd H1 a (.ins C dx (putF f v fs)))
theorem pg_fld {o : Expr} {to : TE} {f : Str} {pos : Pos} (ho : PE X o to) : PG X (.Attribute o f pos) (gFld X.K to f) := by
  refine ⟨fun pins s σ H v u Q I r h => ?_⟩
  rw [assign_Attribute]
  refine wpAny_bind (wpAny_holding (thn (ho.run pins s σ H _ I h) fun ov s1 ⟨x, H1, I1, rx, a, C, dx, fs, ex, ea, c, n, l, q⟩ => ?_))
  subst ex
  obtain rfl : ov = Value.ref a := rx
  refine wpAny_bind (wpAny_standAt (wpAny_bind (wpAny_holding (setattr_ok I1 ea c n l r fun s3 I3 => wpAny_release ?_))))
  exact ⟨σ, _, I3, q⟩
/-- how a promise's call comes back as a value of a comparison or a text -/
theorem strback {P : Value → Shared → Prop} {y : Str} {v : Value} {s' : Shared} (r : RelV (.str y) v) (h : P v s') : PySem.W.StrBack P v s' := by
  obtain ⟨t, rfl⟩ := (show ∃ t, v = Value.str y t from r)
  exact h
/-- str(x), x an instance whose class has its own __str__ -/
def rStrOwn (C : Addr) (sp : Sp) (E : XK) : List V → Hp → VK → Prop := fun xs H Q =>
  ∃ a dx fs, xs = [.ref a] ∧ H a = some (.ins C dx fs) ∧ sp [.ref a] H (fun z H' => ∃ y, z = .str y ∧ Q z H') E
section
variable {CX : CXT} {C g : Addr} {k : Nat} {fd : FuncData} {ps : List Str} {sp : Sp} {E : XK}
theorem call_strOwn (hs : PySem.W.findIn X.K (.ref C) "__str__" = some (some (.ref g))) (hf : PySem.W.isFn X.K (.ref g) = true)
    (F : FnOk X.prog X.w X.K X.mg X.base CX k g fd ps sp) (hr : Room (k + 2) X.A) (hb : Binds X.K fd ps [])
    (hx : Passes CX X E) : CallR X (.type "str") (rStrOwn C sp E) := by
  intro pins s σ H xs us Q I r h
  obtain ⟨a, dx, fs, rfl, ea, q⟩ := h
  cases r with
  | cons rx rr =>
    cases rr
    cases rx
    obtain ⟨mA, O, _, _, _, _⟩ := ins_get I.hok ea
    obtain ⟨od, J, _⟩ := O.look
    have r2 : Room k X.A.in1.in1 := (show Room (k + 1) X.A.in1 from Room.in1 hr).in1
    have hl : ([Value.ref a] ++ []).length = ps.length := (F.len _ _ _ _ q) ▸ rfl
    refine PySem.W.kso_call (by have := r2.un; omega) I.kIn J hs hf (wpAny_call (codeAny_mono (F.run X.A.in1.in1 X.stack s H ⟨[.ref a], []⟩ [.ref a] [.ref a] _ E r2 I.env0.in1.in1 (hb s [.ref a] I.kIn hl) (.cons rfl .nil) q) fun r s' hq => ?_))
    cases r with
    | error e => exact hx pins σ H s e s' I hq
    | ok fl =>
      cases fl with
      | ret u =>
        obtain ⟨v, H', I2, rv, y, ey, q2⟩ := I.after hq
        subst ey
        exact strback rv ⟨.str y, H', I2, rv, q2⟩
      | next => exact False.elim hq
      | brk => exact False.elim hq
      | cont => exact False.elim hq
/-- what stands on the right of an own ==: an instance of the same class, a tuple, a whole number -/
inductive Rgt (H : Hp) (C : Addr) : V → Prop where
  | own {b dx fs} : H b = some (.ins C dx fs) → Rgt H C (.ref b)
  | tup {b xs} : H b = some (.tup xs) → Rgt H C (.ref b)
  | int (i : Int) : Rgt H C (.int i)
theorem rgt_type {pins : List (Addr × Obj)} {σ : L2.St} {H : Hp} {s : Shared} {y : V} {u : Value} (I : Inv X pins σ H s) (h : Rgt H C y) (r : RelV y u) (M : Model)
    (nt : PySem.W.notFirst X.K C (.ref C) = true) (n1 : PySem.W.notFirst X.K C (.type "tuple") = true) (n2 : PySem.W.notFirst X.K C (.type "int") = true) :
    ∃ tb, PySem.W.Looks M s.heap (typeOf u) tb ∧ PySem.W.notFirst X.K C tb = true := by
  cases h with
  | own e =>
    cases r
    obtain ⟨mA, O, _, _, _, _⟩ := ins_get I.hok e
    obtain ⟨od, J, _⟩ := O.look
    exact ⟨.ref C, J.type, nt⟩
  | tup e =>
    cases r
    obtain ⟨_, us, _, o, ho, hc, _⟩ := (show ObjOk X.prog X.w H s.heap _ (.tup _) from I.hok _ _ e)
    exact ⟨.type "tuple", fun A Q E s k q => wpAny_typeOf_ref (k _ _ ho) (by rw [hc]; exact q), n1⟩
  | int i =>
    obtain ⟨t, rfl⟩ := (show ∃ t, u = Value.int i t from r)
    exact ⟨.type "int", fun A Q E s k q => wpAny_typeOf (typeIs_int s i t) q, n2⟩
structure OwnEq (K : PySem.W.Frag) (C g : Addr) : Prop where
  eq : PySem.W.findIn K (.ref C) "__eq__" = some (some (.ref g))
  ne : PySem.W.findIn K (.ref C) "__ne__" = some (some (.builtin "object.__ne__"))
  fn : PySem.W.isFn K (.ref g) = true
  n0 : PySem.W.notFirst K C (.ref C) = true
  n1 : PySem.W.notFirst K C (.type "tuple") = true
  n2 : PySem.W.notFirst K C (.type "int") = true
  mo : PySem.W.mroIn K C (.type "object") = some true
/-- x == y by an own __eq__ -/
def rEqOwn (C : Addr) (sp : Sp) (E : XK) : R2 := fun x y H Q => ∃ a dx fs, x = .ref a ∧ H a = some (.ins C dx fs) ∧ Rgt H C y ∧ sp [x, y] H Q E
theorem op_eqOwn (T : OwnEq X.K C g) (F : FnOk X.prog X.w X.K X.mg X.base CX k g fd ps sp) (hr : Room k X.A) (hb : Binds X.K fd ps [])
    (hx : Passes CX X E) : OpR X (compareOp .Eq) (rEqOwn C sp E) := by
  intro pins s σ H x y v u Q I rx ry h
  obtain ⟨a, dx, fs, rfl, ea, hy, q⟩ := h
  cases (show v = Value.ref a from rx)
  obtain ⟨mA, O, _, _, _, _⟩ := ins_get I.hok ea
  obtain ⟨od, J, _⟩ := O.look
  obtain ⟨tb, hb1, hb2⟩ := rgt_type I hy ry (model X.prog X.w) T.n0 T.n1 T.n2
  obtain ⟨m, hF⟩ := I.fr
  show wpAny _ _ (richCompare .Eq (.ref a) u) _ _ _
  refine PySem.W.cmp_K (op := .Eq) (tb := tb) hr.units0 hF I.ok.mod.kin J hb1 hb2 T.eq T.fn ?_
  refine wpAny_mono (run_fn (us := [.ref a, u]) (vs := [.ref a, y]) (dvs := []) (ds := []) F hr hb .nil hx I (.cons rfl (.cons ry .nil)) q) (fun w s' z => ?_) fun _ _ x => x
  obtain ⟨z', H', I', rz, qz⟩ := z
  exact SlX.cmpback rz ⟨z', H', I', rz, qz⟩
/-- x != y, where the class has an own __eq__ and object's __ne__ -/
def rNeOwn (C : Addr) (sp : Sp) (E : XK) : R2 := fun x y H Q => ∃ a dx fs, x = .ref a ∧ H a = some (.ins C dx fs) ∧ Rgt H C y ∧
  sp [x, y] H (fun z H' => ∃ b, z = .bl b ∧ Q (.bl (!b)) H') E
theorem ifB {M : Model} {A : Around} {E' : Value → Shared → Prop} {s : Shared} {K : PySem.W.Frag} {x : Addr} {ox : Obj} {od : Option Obj} {name : Str} {id : String} {args : List Value} {Q : Option Value → Shared → Prop}
    (Y : K.In s.heap) (J : PySem.W.InstAt s.heap x ox C od) (hs : PySem.W.findIn K (.ref C) name = some (some (.builtin id)))
    (hb : ∀ self, bindSpecial (.builtin id) self = pure (.builtin id, [self]))
    (h : wpAny M A (call (.builtin id) (.ref x :: args)) (fun v => Q (some v)) E' s) : wpAny M A (callSpecialIfBound? (.ref x) name args) Q E' s := by
  have fin : wpAny M A (call (.builtin id) ([.ref x] ++ args) >>= fun v => pure (some v)) Q E' s :=
    wpAny_bind (wpAny_mono h (fun v s' z => wpAny_pure z) fun _ _ z => z)
  simp only [callSpecialIfBound?, bindSpecialIfBound?]
  refine wpAny_holding (wpAny_bind (wpAny_bind (wpAny_bind (J.type.here ((PySem.W.looks_findIn Y hs).here (wpAny_bind (wpAny_askSetting (wpAny_ite ?_))))))))
  split
  · exact wpAny_bind ((PySem.W.Looks.of_pure (hb _)).here (wpAny_pure (by exact fin)))
  · exact wpAny_tryCatch (wpAny_bind ((PySem.W.Looks.of_pure (hb _)).here (wpAny_pure (by exact fin))))
theorem op_neOwn (T : OwnEq X.K C g) (F : FnOk X.prog X.w X.K X.mg X.base CX k g fd ps sp) (hr : Room (k + 1) X.A) (hb : Binds X.K fd ps [])
    (hx : Passes CX X E) : OpR X (compareOp .NotEq) (rNeOwn C sp E) := by
  intro pins s σ H x y v u Q I rx ry h
  obtain ⟨a, dx, fs, rfl, ea, hy, q⟩ := h
  cases (show v = Value.ref a from rx)
  obtain ⟨mA, O, _, _, _, _⟩ := ins_get I.hok ea
  obtain ⟨od, J, _⟩ := O.look
  obtain ⟨tb, hb1, hb2⟩ := rgt_type I hy ry (model X.prog X.w) T.n0 T.n1 T.n2
  have Y := I.kIn
  have r1 : Room k X.A.in1 := Room.in1 hr
  have hl : ([Value.ref a, u] ++ []).length = ps.length := (F.len _ _ _ _ q) ▸ rfl
  have one : wpAny (model X.prog X.w) X.A (tryCompare (.ref a) (cmpInfo .NotEq).2.1 u) (fun r s' => ∃ v, r = some v ∧ EP X pins σ Q v s') X.xe s := by
    unfold tryCompare
    refine wpAny_bind (ifB Y J T.ne PySem.F.slot_object_ne.bind ?_)
    refine wpAny_call (codeAny_call_builtin PySem.F.slot_object_ne.plain PySem.F.entry_object_ne (PySem.W.check_slot (i := "object.__ne__") (owner := "object") (n := "__ne__") (by decide +kernel) (by decide +kernel) (J.type.andThen (PySem.W.looks_mroIn Y T.mo)) (PySem.F.args_object_ne_2 _ _) ?_))
    unfold Builtin.«object.__ne__»
    refine wpAny_bind (m := slotArgs "__ne__" 1 _) (wpAny_pure ?_)
    refine wpAny_bind (m := cRoomFor _ _) (wpAny_cRoomFor r1.units0 ?_)
    refine wpAny_bind (m := callSpecialIfBound? (.ref a) (Str.ofString "__eq__") _) (PySem.W.ifBound_K Y J T.eq T.fn ?_)
    refine wpAny_call (codeAny_mono (F.run X.A.in1 X.stack s H ⟨[.ref a, u], []⟩ [.ref a, u] [.ref a, y] _ E r1 I.env0.in1 (hb s [.ref a, u] Y hl) (.cons rfl (.cons ry .nil)) q) fun r s' hq => ?_)
    cases r with
    | error e => exact hx pins σ H s e s' I hq
    | ok fl =>
      cases fl with
      | ret z =>
        obtain ⟨zv, H', I2, rz, b, ez, q2⟩ := I.after hq
        subst ez
        cases (show z = Value.bool b from rz)
        refine wpAny_bind (m := truthy (.bool b)) (wpAny_truthy_bool (wpAny_pure ?_))
        exact wpAny_pure ⟨_, rfl, .bl (!b), H', I2, rfl, q2⟩
      | next => exact False.elim hq
      | brk => exact False.elim hq
      | cont => exact False.elim hq
  show wpAny _ _ (richCompare .NotEq (.ref a) u) _ _ _
  unfold richCompare
  simp only [oneThing_ref]
  refine wpAny_holding (wpAny_bind (wpAny_cRoomFor hr.units0 ?_))
  refine wpAny_bind (J.type.here (wpAny_bind (hb1.here ?_)))
  split
  · rename_i z
    have e : PySem.W.subIn X.K tb (.ref C) = some false := by
      rcases Bool.or_eq_true_iff.mp hb2 with e | e
      · rw [beq_iff_eq.mp e] at z; simp at z
      · exact beq_iff_eq.mp e
    refine wpAny_bind ((PySem.W.looks_subIn Y e).here ?_)
    simp only [Bool.false_eq_true, if_false]
    refine wpAny_bind (wpAny_mono one (fun r s' w => ?_) fun _ _ e => e)
    obtain ⟨v, rfl, hq⟩ := w
    exact wpAny_pure hq
  · refine wpAny_bind (wpAny_pure ?_)
    simp only [Bool.false_eq_true, if_false]
    refine wpAny_bind (wpAny_mono one (fun r s' w => ?_) fun _ _ e => e)
    obtain ⟨v, rfl, hq⟩ := w
    exact wpAny_pure hq
end
end
end Lk

set_option Elab.async false
set_option linter.all false
set_option maxRecDepth 100000
set_option maxHeartbeats 4000000
namespace Lk
open PySem L2
def top (i : Nat) : Stmt := PySem.Challenge.pw_lawseries_k74_whole_traces_and_kinds_of.main.body.getD i (.Pass ⟨0, 0, 0, 0⟩)
/-- what the module's name space leaves of built-in names -/
structure Bl (mg : Str → Option Value) : Prop where
  int : mg "int" = none
  len : mg "len" = none
  abs : mg "abs" = none
  max : mg "max" = none
/-- the three numbers of a law's dice, at p -/
def DiceAt (H : Hp) (p : Addr) : Prop := ∃ a b c : Int, H p = some (.lst [.int a, .int b, .int c])
section
variable {P : Program} {w : World} {K : PySem.W.Frag} {mg : Str → Option Value} {base : Heap}
theorem sqL_upd {K : PySem.W.Frag} {H : Hp} {a p : Addr} {xs : List V} {o : HO} (ne : a ≠ p) (h : SqL K H a xs) : SqL K (upd H p o) a xs := by
  unfold SqL Rd at h ⊢
  rw [upd_ne ne]
  exact h
/-! ### roll -/
def spRoll : Sp := fun vs H Q _ => ∃ (p : Addr) (a b c t : Int), vs = [.ref p, .int t] ∧ H p = some (.lst [.int a, .int b, .int c]) ∧
  0 < t ∧ t < 1606938044258990275541962092341162602522202993782792835301376 ∧ ∀ (r a' c' : Int), 0 ≤ r → r < t → Q (.int r) (upd H p (.lst [.int a', .int b, .int c']))
abbrev sRoll : Stmt := top 28
theorem scRoll : FnScope ["_law_dice_here", "_law_total", "_law_found", "_law_one", "_law_two"] ["_law_dice_here", "_law_total"] (defScope sRoll) :=
  ⟨rfl, rfl, rfl, by decide +kernel, rfl, by decide +kernel, by decide +kernel⟩
theorem upd_upd {H : Hp} {p : Addr} {o o' : HO} : upd (upd H p o) p o' = upd H p o' := by
  funext b
  by_cases h : b = p
  · subst h; rw [upd_same, upd_same]
  · rw [upd_ne h, upd_ne h, upd_ne h]
theorem upd_self {H : Hp} {p : Addr} {o : HO} (h : H p = some o) : upd H p o = H := by
  funext b
  by_cases e : b = p
  · subst e; rw [upd_same, h]
  · rw [upd_ne e]
theorem mod_lo {i j : Int} (h : 0 < j) : 0 ≤ i.fmod j := by
  rw [Int.fmod_eq_emod_of_nonneg _ (Int.le_of_lt h)]; exact Int.emod_nonneg _ (by omega)
theorem mod_hi {i j : Int} (h : 0 < j) : i.fmod j < j := by
  rw [Int.fmod_eq_emod_of_nonneg _ (Int.le_of_lt h)]; exact Int.emod_lt_of_pos _ h
theorem ok_roll {f : Addr} {fd : FuncData} (F : Fun K "_law_roll" "_law_roll" sRoll f fd) (B : Bl mg) :
    FnOk P w K mg base CX0 1 f fd ["_law_dice_here", "_law_total"] spRoll := by
  refine F.ok scRoll (fun vs H Q E h => ?_) (fun cdv A outer s H vs Q E hr h => ?_)
  · obtain ⟨p, a, b, c, t, rfl, _⟩ := h
    rfl
  · obtain ⟨p, a, b, c, t, rfl, hp, t0, t1, k⟩ := h
    refine ⟨_, pss_cons (ps_if (pt_cmpR op_gt (pe_ix ix_list (pv 0) pe_int (fun _ _ => rfl)) pe_int (nomark _))
        (pss_cons (ps_set (i := 2) scRoll.nd rfl (.inl rfl) (pe_op op_modN (pe_callTy call_int1 (by rfl) B.int PyProof.Rows.boot_int (pa_cons (pe_ix ix_list (pv 0) pe_int (fun _ _ => rfl)) pa_nil)) (pv 1)))
          (pss_cons (ps_asg (pe_op op_fdivW (pe_ix ix_list (pv 0) pe_int (fun _ _ => rfl)) (pv 1)) (pg_sub (pv 0) pe_int set_list)) (pss_one (ps_ret (pv 2)))))
        pss_nil)
      (pss_cons (ps_asg (pe_op op_add (pe_ix ix_list (pv 0) pe_int (fun _ _ => rfl)) pe_int) (pg_sub (pv 0) pe_int set_list))
      (pss_cons (ps_set (i := 3) scRoll.nd rfl (.inl rfl) (pe_op op_modN (pe_callTy call_int1 (by rfl) B.int PyProof.Rows.boot_int (pa_cons (pe_op op_add (pe_ix ix_list (pv 0) pe_int (fun _ _ => rfl)) (pe_op op_mul pe_int (pe_ix ix_list (pv 0) pe_int (fun _ _ => rfl)))) pa_nil)) pe_int))
      (pss_cons (ps_set (i := 4) scRoll.nd rfl (.inl rfl) (pe_op op_add (pe_op op_mul (pe_op op_modN (pe_callTy call_int1 (by rfl) B.int PyProof.Rows.boot_int (pa_cons (pe_op op_add (pe_op op_mul (pv 3) (pv 3)) (pe_op op_mul pe_int (pe_ix ix_list (pv 0) pe_int (fun _ _ => rfl)))) pa_nil)) pe_int) pe_int) (pv 3)))
      (pss_one (ps_ret (pe_op op_modN (pe_callTy call_int1 (by rfl) B.int PyProof.Rows.boot_int (pa_cons (pe_op op_fdivN (pv 4) pe_int) pa_nil)) (pv 1))))))), ?_⟩
    refine ⟨_, rfl, p, _, 0, _, rfl, rfl, SqL.of hp, rfl, _, _, rfl, rfl, _, rfl, ?_⟩
    refine ite2 (fun _ => ?_) (fun _ => ?_)
    · refine ⟨_, rfl, p, _, 0, _, rfl, rfl, SqL.of hp, rfl, .inl ⟨_, rfl, _, rfl, _, _, rfl, rfl, by show t ≠ 0; omega, ?_⟩⟩
      refine ⟨_, rfl, p, _, 0, _, rfl, rfl, SqL.of hp, rfl, _, rfl, _, _, rfl, rfl, wide_div t0 (b := 200) (by omega) (by decide) (by decide), ?_⟩
      refine ⟨_, rfl, p, _, 0, 0, rfl, rfl, hp, rfl, ?_⟩
      exact ⟨_, rfl, k _ _ _ (mod_lo t0) (mod_hi t0)⟩
    · refine ⟨_, rfl, p, _, 2, _, rfl, rfl, SqL.of hp, rfl, _, _, rfl, rfl, _, rfl, p, _, 2, 2, rfl, rfl, hp, rfl, ?_⟩
      have hp1 : upd H p (.lst [.int a, .int b, .int (c + 1)]) p = some (.lst [.int a, .int b, .int (c + 1)]) := upd_same
      refine ⟨_, rfl, p, _, 1, _, rfl, rfl, SqL.of hp1, rfl, _, rfl, p, _, 2, _, rfl, rfl, SqL.of hp1, rfl, _, _, rfl, rfl, .inl (by decide), _, _, rfl, rfl, .inl ⟨_, rfl, _, _, rfl, rfl, (by show (_ : Int) ≠ 0; exact (by decide : (2305843009213693613 : Int) ≠ 0)), ?_⟩⟩
      have l0 : 0 ≤ (b + 86028157 * (c + 1)).fmod 2305843009213693613 := mod_lo (by decide)
      have l1 : (b + 86028157 * (c + 1)).fmod 2305843009213693613 < 2305843009213693613 := mod_hi (by decide)
      refine ⟨_, rfl, _, rfl, _, _, rfl, rfl, .inl ⟨by omega, by omega⟩, _, rfl, p, _, 2, _, rfl, rfl, SqL.of hp1, rfl, _, _, rfl, rfl, .inl (by decide), _, _, rfl, rfl, .inl ⟨_, rfl, _, _, rfl, rfl, (by show (_ : Int) ≠ 0; exact (by decide : (2305843009213693669 : Int) ≠ 0)), ?_⟩⟩
      have m0 := mod_lo (i := (b + 86028157 * (c + 1)).fmod 2305843009213693613 * (b + 86028157 * (c + 1)).fmod 2305843009213693613 + 97 * (c + 1)) (j := 2305843009213693669) (by decide)
      have m1 := mod_hi (i := (b + 86028157 * (c + 1)).fmod 2305843009213693613 * (b + 86028157 * (c + 1)).fmod 2305843009213693613 + 97 * (c + 1)) (j := 2305843009213693669) (by decide)
      refine ⟨_, _, rfl, rfl, .inl ⟨by omega, by omega⟩, _, rfl, _, _, rfl, rfl, ?_⟩
      refine ⟨_, rfl, _, _, rfl, rfl, ⟨by decide, by decide⟩, .inl ⟨_, rfl, _, rfl, _, _, rfl, rfl, by show t ≠ 0; omega, k _ _ _ (mod_lo t0) (mod_hi t0)⟩⟩
/-! ### pick -/
def spPick (K : PySem.W.Frag) : Sp := fun vs H Q _ => ∃ (p q : Addr) (a b c : Int) (xs : List V), vs = [.ref p, .ref q] ∧ H p = some (.lst [.int a, .int b, .int c]) ∧
  SqL K H q xs ∧ q ≠ p ∧ 0 < xs.length ∧ xs.length < 1000 ∧ ∀ (i : Nat) (x : V) (a' c' : Int), xs[i]? = some x → Q x (upd H p (.lst [.int a', .int b, .int c']))
abbrev sPick : Stmt := top 29
theorem scPick : FnScope ["_law_dice_here", "_law_items"] ["_law_dice_here", "_law_items"] (defScope sPick) :=
  ⟨rfl, rfl, rfl, by decide +kernel, rfl, by decide +kernel, by decide +kernel⟩
theorem ok_pick {f fR : Addr} {fd fdR : FuncData} (F : Fun K "_law_pick" "_law_pick" sPick f fd) (B : Bl mg) (mR : mg "_law_roll" = some (.ref fR))
    (kR : PySem.W.keepIn K (.ref fR) = true) (bR : Binds K fdR ["_law_dice_here", "_law_total"] [])
    (GR : FnOk P w K mg base CX0 1 fR fdR ["_law_dice_here", "_law_total"] spRoll) :
    FnOk P w K mg base CX0 2 f fd ["_law_dice_here", "_law_items"] (spPick K) := by
  refine F.ok scPick (fun vs H Q E h => ?_) (fun cdv A outer s H vs Q E hr h => ?_)
  · obtain ⟨p, q, a, b, c, xs, rfl, _⟩ := h
    rfl
  · obtain ⟨p, q, a, b, c, xs, rfl, hp, hq, ne, x0, x1, k⟩ := h
    refine ⟨_, pss_one (ps_ret (pe_ix ix_list (pv 1) (pe_call GR hr rfl mR kR bR .nil pass0 (pa_cons (pv 0) (pa_cons (pe_callB call_len_seq (by rfl) B.len PySem.boot_len (pa_cons (pv 1) pa_nil)) pa_nil))) (fun _ _ => rfl))), ?_⟩
    refine ⟨_, rfl, _, rfl, _, rfl, q, _, rfl, .inl hq, p, a, b, c, _, rfl, hp, by omega, by omega, fun r a' c' r0 r1 => ?_⟩
    obtain ⟨n, rfl⟩ : ∃ n : Nat, r = (n : Int) := ⟨r.toNat, by omega⟩
    have hn : n < xs.length := by omega
    have hq' : SqL K (upd H p (.lst [.int a', .int b, .int c'])) q xs := sqL_upd ne hq
    exact ⟨q, _, _, _, rfl, rfl, hq', atI_nat (List.getElem?_eq_getElem hn), k n _ a' c' (List.getElem?_eq_getElem hn)⟩
end
end Lk

set_option linter.all false
set_option maxRecDepth 100000
set_option maxHeartbeats 4000000
namespace C74
/-! counting -/
def cn : Nat → (Nat → Bool) → Nat
  | 0, _ => 0
  | n+1, f => cn n f + (if f n = true then 1 else 0)
def tot : Nat → (Nat → Nat) → Nat
  | 0, _ => 0
  | n+1, g => tot n g + g n
def allB : Nat → (Nat → Bool) → Bool
  | 0, _ => true
  | n+1, f => allB n f && f n
def anyB : Nat → (Nat → Bool) → Bool
  | 0, _ => false
  | n+1, f => anyB n f || f n
theorem allB_at {n : Nat} {f : Nat → Bool} (h : allB n f = true) {i : Nat} (hi : i < n) : f i = true := by
  induction n with
  | zero => omega
  | succ n ih =>
    unfold allB at h
    rw [Bool.and_eq_true] at h
    rcases Nat.lt_succ_iff_lt_or_eq.mp hi with q | q
    · exact ih h.1 q
    · rw [q]; exact h.2
theorem anyB_iff {n : Nat} {f : Nat → Bool} : anyB n f = true ↔ ∃ i, i < n ∧ f i = true := by
  induction n with
  | zero => simp [anyB]
  | succ n ih =>
    unfold anyB
    rw [Bool.or_eq_true, ih]
    constructor
    · rintro (⟨i, h1, h2⟩ | h)
      · exact ⟨i, by omega, h2⟩
      · exact ⟨n, by omega, h⟩
    · rintro ⟨i, h1, h2⟩
      rcases Nat.lt_succ_iff_lt_or_eq.mp h1 with q | q
      · exact .inl ⟨i, q, h2⟩
      · rw [q] at h2; exact .inr h2
theorem cn_congr {n : Nat} {f g : Nat → Bool} (h : ∀ i, i < n → f i = g i) : cn n f = cn n g := by
  induction n with
  | zero => rfl
  | succ n ih => unfold cn; rw [ih (fun i hi => h i (by omega)), h n (by omega)]
theorem tot_congr {n : Nat} {f g : Nat → Nat} (h : ∀ i, i < n → f i = g i) : tot n f = tot n g := by
  induction n with
  | zero => rfl
  | succ n ih => unfold tot; rw [ih (fun i hi => h i (by omega)), h n (by omega)]
theorem tot_step (n : Nat) (g : Nat → Nat) : tot n (fun x => g (x + 1)) + g 0 = tot n g + g n := by
  induction n with
  | zero => simp [tot]
  | succ n ih => simp only [tot]; omega
theorem tot_shift {p : Nat} {g : Nat → Nat} (per : ∀ x, g (x + p) = g x) (s : Nat) : tot p (fun x => g (s + x)) = tot p g := by
  induction s with
  | zero => exact tot_congr fun i _ => by rw [Nat.zero_add]
  | succ s ih =>
    have e := tot_step p (fun x => g (s + x))
    have e2 : tot p (fun x => g (s + 1 + x)) = tot p (fun x => g (s + (x + 1))) := tot_congr fun i _ => by rw [Nat.add_assoc, Nat.add_comm 1 i]
    have e3 : g (s + p) = g (s + 0) := by rw [per, Nat.add_zero]
    rw [e2]
    omega
/-! residues -/
def M (p a b : Int) : Prop := a % p = b % p
theorem M.rfl {p a : Int} : M p a a := Eq.refl _
theorem M.add {p a b c d : Int} (h : M p a b) (k : M p c d) : M p (a + c) (b + d) := by unfold M at *; rw [Int.add_emod, h, k, ← Int.add_emod]
theorem M.sub {p a b c d : Int} (h : M p a b) (k : M p c d) : M p (a - c) (b - d) := by unfold M at *; rw [Int.sub_emod, h, k, ← Int.sub_emod]
theorem M.mul {p a b c d : Int} (h : M p a b) (k : M p c d) : M p (a * c) (b * d) := by unfold M at *; rw [Int.mul_emod, h, k, ← Int.mul_emod]
theorem M.neg {p a b : Int} (h : M p a b) : M p (-a) (-b) := by
  have := M.sub (M.rfl (p := p) (a := 0)) h
  simpa using this
theorem M.symm {p a b : Int} (h : M p a b) : M p b a := Eq.symm h
theorem M.tr {p a b c : Int} (h : M p a b) (k : M p b c) : M p a c := Eq.trans h k
theorem M.mod {p a : Int} : M p (a % p) a := Int.emod_emod_of_dvd a (Int.dvd_refl p)
theorem M.zero {p a b : Int} (h : M p a b) : (a % p = 0 ↔ b % p = 0) := by unfold M at h; rw [h]
theorem M.of {p a b c : Int} (h : a = b + p * c) : M p a b := by unfold M; rw [h, Int.add_mul_emod_self_left]
theorem M.ofd {p a b : Int} (h : (a - b) % p = 0) : M p a b := (Int.emod_eq_emod_iff_emod_sub_eq_zero).mpr h
theorem M.zmul {p a : Int} (h : a % p = 0) (b : Int) : (a * b) % p = 0 := by
  obtain ⟨c, rfl⟩ := Int.dvd_of_emod_eq_zero h
  rw [Int.mul_assoc]; exact Int.mul_emod_right _ _
theorem z_add {p a b : Int} (h : a % p = 0) (k : b % p = 0) : (a + b) % p = 0 := by
  obtain ⟨c, rfl⟩ := Int.dvd_of_emod_eq_zero h
  obtain ⟨d, rfl⟩ := Int.dvd_of_emod_eq_zero k
  rw [← Int.mul_add]; exact Int.mul_emod_right _ _
theorem z_sub {p a b : Int} (h : a % p = 0) (k : b % p = 0) : (a - b) % p = 0 := by
  obtain ⟨c, rfl⟩ := Int.dvd_of_emod_eq_zero h
  obtain ⟨d, rfl⟩ := Int.dvd_of_emod_eq_zero k
  rw [← Int.mul_sub]; exact Int.mul_emod_right _ _
theorem z_neg {p a : Int} (h : a % p = 0) : (-a) % p = 0 := by have := z_sub (p := p) (a := 0) (by simp) h; simpa using this
/-- what may be taken away by a factor with an inverse -/
theorem z_cancel {p a u v : Int} (hu : (u * v) % p = 1 % p) (h : (u * a) % p = 0) : a % p = 0 := by
  have h1 : (v * (u * a)) % p = 0 := by rw [Int.mul_comm]; exact M.zmul h v
  have h2 : M p (u * v * a) (1 * a) := M.mul hu M.rfl
  rw [Int.one_mul] at h2
  have h3 : v * (u * a) = u * v * a := by rw [← Int.mul_assoc, Int.mul_comm v u]
  rw [h3] at h1
  exact h2.zero.mp h1
/-! the curve -/
def fF (a1 a2 a3 a4 a6 x y : Int) : Int := y * y + a1 * x * y + a3 * y - (x * x * x + a2 * x * x + a4 * x + a6)
def fY (a1 a2 a3 a4 a6 x y : Int) : Int := 2 * y + a1 * x + a3
def fX (a1 a2 a3 a4 a6 x y : Int) : Int := a1 * y - 3 * x * x - 2 * a2 * x - a4
def b2 (a1 a2 a3 a4 a6 : Int) : Int := a1 * a1 + 4 * a2
def b4 (a1 a2 a3 a4 a6 : Int) : Int := 2 * a4 + a1 * a3
def b6 (a1 a2 a3 a4 a6 : Int) : Int := a3 * a3 + 4 * a6
def b8 (a1 a2 a3 a4 a6 : Int) : Int := a1 * a1 * a6 + 4 * a2 * a6 - a1 * a3 * a4 + a2 * a3 * a3 - a4 * a4
def dis (a1 a2 a3 a4 a6 : Int) : Int := -b2 a1 a2 a3 a4 a6 * b2 a1 a2 a3 a4 a6 * b8 a1 a2 a3 a4 a6 - 8 * b4 a1 a2 a3 a4 a6 * b4 a1 a2 a3 a4 a6 * b4 a1 a2 a3 a4 a6 - 27 * b6 a1 a2 a3 a4 a6 * b6 a1 a2 a3 a4 a6 + 9 * b2 a1 a2 a3 a4 a6 * b4 a1 a2 a3 a4 a6 * b6 a1 a2 a3 a4 a6
def sec (a1 a2 a3 a4 a6 : Int) : Int := b2 a1 a2 a3 a4 a6 * b2 a1 a2 a3 a4 a6 - 24 * b4 a1 a2 a3 a4 a6
def pts (p : Nat) (a1 a2 a3 a4 a6 : Int) : Nat := tot p fun x => cn p fun y => decide (fF a1 a2 a3 a4 a6 (x : Nat) (y : Nat) % (p : Nat) = 0)
def sing (p : Nat) (a1 a2 a3 a4 a6 : Int) : Prop := ∃ x : Nat, x < p ∧ ∃ y : Nat, y < p ∧ fF a1 a2 a3 a4 a6 x y % (p : Nat) = 0 ∧ fY a1 a2 a3 a4 a6 x y % (p : Nat) = 0 ∧ fX a1 a2 a3 a4 a6 x y % (p : Nat) = 0
structure Good (p : Nat) (a1 a2 a3 a4 a6 : Int) : Prop where
  s : sing p a1 a2 a3 a4 a6 ↔ dis a1 a2 a3 a4 a6 % (p : Nat) = 0
  g : dis a1 a2 a3 a4 a6 % (p : Nat) ≠ 0 → ((p : Int) - (pts p a1 a2 a3 a4 a6 : Nat)) * ((p : Int) - (pts p a1 a2 a3 a4 a6 : Nat)) ≤ 4 * (p : Nat)
  c : dis a1 a2 a3 a4 a6 % (p : Nat) = 0 → sec a1 a2 a3 a4 a6 % (p : Nat) = 0 → (pts p a1 a2 a3 a4 a6) = p
  n : dis a1 a2 a3 a4 a6 % (p : Nat) = 0 → sec a1 a2 a3 a4 a6 % (p : Nat) ≠ 0 → (pts p a1 a2 a3 a4 a6) + 1 = p ∨ (pts p a1 a2 a3 a4 a6) = p + 1
/-! the finite checks of a prime from 5 on -/
def R (p d : Nat) : Nat := cn p fun z => (z * z % p).beq d
def ch1 (p : Nat) : Bool := allB p fun h => allB p fun f => (cn p fun y => ((y * y + h * y + (p - f)) % p).beq 0).beq (R p ((h * h + 4 * f) % p))
def bits : Nat → Nat → Nat
  | _, 0 => 0
  | p, n+1 => bits p n ||| (1 <<< (n * n % p))
/-- how many roots, read off a table -/
def Rb (m d : Nat) : Nat := if d.beq 0 = true then 1 else 2 * ((m >>> d) % 2)
def chT (p m : Nat) : Bool := allB p fun d => (R p d).beq (Rb m d)
def okN (p n : Nat) (dz az : Bool) : Bool :=
  if dz = true then (if az = true then n.beq p else (n + 1).beq p || n.beq (p + 1)) else ((p - n) * (p - n) + (n - p) * (n - p)).ble (4 * p)
def ch2 (p m : Nat) : Bool := allB p fun A => allB p fun B => okN p (tot p fun x => Rb m ((4 * x * x * x + A * x + B) % p)) (((A * A * A + 27 * B * B) % p).beq 0) (A.beq 0)
def ch3 (p : Nat) : Bool := allB p fun A => allB p fun B => anyB p (fun x => ((4 * x * x * x + A * x + B) % p).beq 0 && ((12 * x * x + A) % p).beq 0) == ((A * A * A + 27 * B * B) % p).beq 0
theorem beq_of {a b : Nat} (h : a.beq b = true) : a = b := Nat.eq_of_beq_eq_true h
theorem beq_zero {a : Nat} : a.beq 0 = true ↔ a = 0 := ⟨fun h => Nat.eq_of_beq_eq_true h, fun h => by rw [h]; rfl⟩
theorem beq_nat {a b : Nat} : a.beq b = decide (a = b) := by
  by_cases h : a = b
  · rw [decide_eq_true h, h]; exact Nat.beq_refl b
  · rw [decide_eq_false h]
    cases e : a.beq b with
    | false => rfl
    | true => exact absurd (Nat.eq_of_beq_eq_true e) h
/-- the residue as a natural number -/
def rs (p : Nat) (a : Int) : Nat := (a % (p : Nat)).toNat
theorem rs_lt {p : Nat} (h : 0 < p) (a : Int) : rs p a < p := by
  have := Int.emod_lt_of_pos a (show (0 : Int) < (p : Nat) by omega)
  unfold rs; omega
theorem rs_m {p : Nat} (h : 0 < p) (a : Int) : M p ((rs p a : Nat) : Int) a := by
  have := Int.emod_nonneg a (show ((p : Nat) : Int) ≠ 0 by omega)
  unfold rs
  rw [Int.toNat_of_nonneg this]
  exact M.mod
theorem nat_z {p n : Nat} : ((n : Int) % (p : Nat) = 0) ↔ n % p = 0 := by omega
theorem rs_z {p : Nat} (h : 0 < p) {a : Int} : rs p a = 0 ↔ a % (p : Nat) = 0 := by
  have := Int.emod_nonneg a (show ((p : Nat) : Int) ≠ 0 by omega)
  unfold rs; omega
theorem rs_congr {p : Nat} {a b : Int} (h : M p a b) : rs p a = rs p b := by unfold rs; rw [h]
theorem rs_nat {p n : Nat} : rs p (n : Int) = n % p := by unfold rs; omega
structure Chk (p i12 i2 : Nat) : Prop where
  pos : 0 < p
  c1 : ch1 p = true
  cT : chT p (bits p p) = true
  c2 : ch2 p (bits p p) = true
  c3 : ch3 p = true
  e12 : ((12 : Int) * (i12 : Nat)) % (p : Nat) = 1 % (p : Nat)
  e2 : ((2 : Int) * (i2 : Nat)) % (p : Nat) = 1 % (p : Nat)
/-- 4 x^3 + b2 x^2 + 2 b4 x + b6 -/
def dD (a1 a2 a3 a4 a6 x : Int) : Int := (a1 * x + a3) * (a1 * x + a3) + 4 * (x * x * x + a2 * x * x + a4 * x + a6)
def dP (a1 a2 a3 a4 a6 x : Int) : Int := 2 * a1 * (a1 * x + a3) + 4 * (3 * x * x + 2 * a2 * x + a4)
def cA (a1 a2 a3 a4 a6 s : Int) : Int := 12 * s * s + 2 * s * b2 a1 a2 a3 a4 a6 + 2 * b4 a1 a2 a3 a4 a6
def cB (a1 a2 a3 a4 a6 s : Int) : Int := dD a1 a2 a3 a4 a6 s
section
variable {p i12 i2 : Nat} (K : Chk p i12 i2) (a1 a2 a3 a4 a6 : Int)
include K
theorem col (x : Int) : cn p (fun y => decide (fF a1 a2 a3 a4 a6 x (y : Nat) % (p : Nat) = 0)) = Rb (bits p p) (rs p (dD a1 a2 a3 a4 a6 x)) := by
  have hp := K.pos
  have e1 := beq_of (allB_at (allB_at K.c1 (rs_lt hp (a1 * x + a3))) (rs_lt hp (x * x * x + a2 * x * x + a4 * x + a6)))
  have hh := rs_m hp (a1 * x + a3)
  have hf := rs_m hp (x * x * x + a2 * x * x + a4 * x + a6)
  have lf := rs_lt hp (x * x * x + a2 * x * x + a4 * x + a6)
  generalize rs p (a1 * x + a3) = h at *
  generalize rs p (x * x * x + a2 * x * x + a4 * x + a6) = f at *
  have e2 : cn p (fun y => decide (fF a1 a2 a3 a4 a6 x (y : Nat) % (p : Nat) = 0)) = cn p fun y => ((y * y + h * y + (p - f)) % p).beq 0 := by
    refine cn_congr fun y hy => ?_
    rw [beq_nat]
    have m1 : M p (((y * y + h * y + (p - f) : Nat)) : Int) (fF a1 a2 a3 a4 a6 x (y : Nat)) := by
      have c : (((y * y + h * y + (p - f) : Nat)) : Int) = (y : Int) * y + h * y - f + p * 1 := by
        rw [Int.natCast_add, Int.natCast_add, Int.natCast_mul, Int.natCast_mul, Int.ofNat_sub (by omega)]; omega
      refine M.tr (M.of c) ?_
      have d : fF a1 a2 a3 a4 a6 x (y : Nat) = (y : Int) * y + (a1 * x + a3) * y - (x * x * x + a2 * x * x + a4 * x + a6) := by unfold fF; grind
      rw [d]
      exact M.sub (M.add M.rfl (M.mul hh M.rfl)) hf
    have z := m1.zero
    rw [nat_z] at z
    exact decide_eq_decide.mpr z.symm
  rw [e2, e1]
  have e3 := beq_of (allB_at K.cT (Nat.mod_lt (h * h + 4 * f) hp))
  rw [e3]
  congr 1
  have m2 : M p (((h * h + 4 * f : Nat)) : Int) (dD a1 a2 a3 a4 a6 x) := by
    have c : (((h * h + 4 * f : Nat)) : Int) = (h : Int) * h + 4 * f := by simp
    rw [c]
    exact M.add (M.mul hh hh) (M.mul M.rfl hf)
  rw [← rs_congr m2, rs_nat]
theorem pts_eq (s : Nat) (hs : (b2 a1 a2 a3 a4 a6 + 12 * (s : Int)) % (p : Nat) = 0) :
    pts p a1 a2 a3 a4 a6 = tot p fun x => Rb (bits p p) ((4 * x * x * x + rs p (cA a1 a2 a3 a4 a6 s) * x + rs p (cB a1 a2 a3 a4 a6 s)) % p) := by
  have hp := K.pos
  have e0 : pts p a1 a2 a3 a4 a6 = tot p fun x => Rb (bits p p) (rs p (dD a1 a2 a3 a4 a6 (x : Nat))) := tot_congr fun x hx => col K a1 a2 a3 a4 a6 x
  rw [e0]
  have per : ∀ x : Nat, Rb (bits p p) (rs p (dD a1 a2 a3 a4 a6 ((x + p : Nat) : Int))) = Rb (bits p p) (rs p (dD a1 a2 a3 a4 a6 (x : Nat))) := by
    intro x
    congr 1
    apply rs_congr
    have mx : M p ((x + p : Nat) : Int) (x : Int) := M.of (c := 1) (by omega)
    unfold dD
    exact M.add (M.mul (M.add (M.mul M.rfl mx) M.rfl) (M.add (M.mul M.rfl mx) M.rfl)) (M.mul M.rfl (M.add (M.add (M.add (M.mul (M.mul mx mx) mx) (M.mul (M.mul M.rfl mx) mx)) (M.mul M.rfl mx)) M.rfl))
  rw [← tot_shift (g := fun x => Rb (bits p p) (rs p (dD a1 a2 a3 a4 a6 ((x : Nat) : Int)))) per s]
  refine tot_congr fun x hx => ?_
  show Rb (bits p p) (rs p (dD a1 a2 a3 a4 a6 ((s + x : Nat) : Int))) = _
  congr 1
  rw [← rs_nat]
  apply rs_congr
  have c : (((4 * x * x * x + rs p (cA a1 a2 a3 a4 a6 s) * x + rs p (cB a1 a2 a3 a4 a6 s) : Nat)) : Int) = 4 * x * x * x + (rs p (cA a1 a2 a3 a4 a6 s) : Nat) * x + (rs p (cB a1 a2 a3 a4 a6 s) : Nat) := by simp
  rw [c]
  refine M.tr ?_ (M.add (M.add M.rfl (M.mul (rs_m hp _).symm M.rfl)) (rs_m hp _).symm)
  have q := M.zmul hs ((x : Int) * x)
  have c2 : ((s + x : Nat) : Int) = (s : Int) + x := by simp
  rw [c2]
  refine M.ofd ?_
  have id : dD a1 a2 a3 a4 a6 ((s : Int) + x) - (4 * x * x * x + cA a1 a2 a3 a4 a6 s * x + cB a1 a2 a3 a4 a6 s) = (b2 a1 a2 a3 a4 a6 + 12 * (s : Int)) * (x * x) := by
    unfold cA cB dD b2 b4; grind
  rw [id]
  exact q
theorem sing_eq (s : Nat) (hs : (b2 a1 a2 a3 a4 a6 + 12 * (s : Int)) % (p : Nat) = 0) :
    sing p a1 a2 a3 a4 a6 ↔ ∃ x, x < p ∧ (4 * x * x * x + rs p (cA a1 a2 a3 a4 a6 s) * x + rs p (cB a1 a2 a3 a4 a6 s)) % p = 0 ∧ (12 * x * x + rs p (cA a1 a2 a3 a4 a6 s)) % p = 0 := by
  have hp := K.pos
  have e2 := K.e2
  -- the two roads at a point x of the first kind, and s' of the second
  have tD : ∀ x : Int, ∀ n : Nat, M p (n : Int) (x - s) → ((4 * n * n * n + rs p (cA a1 a2 a3 a4 a6 s) * n + rs p (cB a1 a2 a3 a4 a6 s)) % p = 0 ↔ dD a1 a2 a3 a4 a6 x % (p : Nat) = 0) := by
    intro x n hn
    rw [← nat_z]
    apply M.zero
    have c : (((4 * n * n * n + rs p (cA a1 a2 a3 a4 a6 s) * n + rs p (cB a1 a2 a3 a4 a6 s) : Nat)) : Int) = 4 * n * n * n + (rs p (cA a1 a2 a3 a4 a6 s) : Nat) * n + (rs p (cB a1 a2 a3 a4 a6 s) : Nat) := by simp
    rw [c]
    refine M.tr (M.add (M.add (M.mul (M.mul (M.mul M.rfl hn) hn) hn) (M.mul (rs_m hp _) hn)) (rs_m hp _)) (M.symm (M.ofd ?_))
    have q := M.zmul hs ((x - s) * (x - s))
    have id : dD a1 a2 a3 a4 a6 x - (4 * (x - s) * (x - s) * (x - s) + cA a1 a2 a3 a4 a6 s * (x - s) + cB a1 a2 a3 a4 a6 s) = (b2 a1 a2 a3 a4 a6 + 12 * (s : Int)) * ((x - s) * (x - s)) := by
      unfold cA cB dD b2 b4; grind
    rw [id]
    exact q
  have tP : ∀ x : Int, ∀ n : Nat, M p (n : Int) (x - s) → ((12 * n * n + rs p (cA a1 a2 a3 a4 a6 s)) % p = 0 ↔ dP a1 a2 a3 a4 a6 x % (p : Nat) = 0) := by
    intro x n hn
    rw [← nat_z]
    apply M.zero
    have c : (((12 * n * n + rs p (cA a1 a2 a3 a4 a6 s) : Nat)) : Int) = 12 * n * n + (rs p (cA a1 a2 a3 a4 a6 s) : Nat) := by simp
    rw [c]
    refine M.tr (M.add (M.mul (M.mul M.rfl hn) hn) (rs_m hp _)) (M.symm (M.ofd ?_))
    have q := M.zmul hs (2 * (x - s))
    have id : dP a1 a2 a3 a4 a6 x - (12 * (x - s) * (x - s) + cA a1 a2 a3 a4 a6 s) = (b2 a1 a2 a3 a4 a6 + 12 * (s : Int)) * (2 * (x - s)) := by
      unfold cA dP b2 b4; grind
    rw [id]
    exact q
  constructor
  · rintro ⟨x, hx, y, hy, h1, h2, h3⟩
    refine ⟨rs p ((x : Int) - s), rs_lt hp _, (tD x _ (rs_m hp _)).mpr ?_, (tP x _ (rs_m hp _)).mpr ?_⟩
    · have id : dD a1 a2 a3 a4 a6 x = fY a1 a2 a3 a4 a6 x y * fY a1 a2 a3 a4 a6 x y - fF a1 a2 a3 a4 a6 x y * 4 := by unfold dD fY fF; grind
      rw [id]
      exact z_sub (M.zmul h2 _) (M.zmul h1 _)
    · have id : dP a1 a2 a3 a4 a6 x = fY a1 a2 a3 a4 a6 x y * (2 * a1) - fX a1 a2 a3 a4 a6 x y * 4 := by unfold dP fY fX; grind
      rw [id]
      exact z_sub (M.zmul h2 _) (M.zmul h3 _)
  · rintro ⟨n, hn, h1, h2⟩
    have hm : M p ((rs p ((n : Int) + s) : Nat) : Int) ((n : Int) + s) := rs_m hp _
    have hm2 : M p (n : Int) (((rs p ((n : Int) + s) : Nat) : Int) - s) := M.tr (M.of (p := p) (c := 0) (by omega)) (M.sub hm.symm (M.rfl (a := s)))
    have g1 := (tD _ n hm2).mp h1
    have g2 := (tP _ n hm2).mp h2
    generalize hx : rs p ((n : Int) + s) = x at *
    have lx : x < p := by rw [← hx]; exact rs_lt hp _
    have hy := rs_m hp (-(a1 * x + a3) * i2)
    generalize hyy : rs p (-(a1 * x + a3) * i2) = y at *
    have ly : y < p := by rw [← hyy]; exact rs_lt hp _
    have zY : fY a1 a2 a3 a4 a6 x y % (p : Nat) = 0 := by
      have m : M p (fY a1 a2 a3 a4 a6 x y) (2 * (-(a1 * x + a3) * i2) + (a1 * x + a3)) := by
        have id : fY a1 a2 a3 a4 a6 x y = 2 * (y : Int) + (a1 * x + a3) := by unfold fY; omega
        rw [id]
        exact M.add (M.mul M.rfl hy) M.rfl
      rw [m.zero]
      have id : (2 * (-(a1 * x + a3) * i2) + (a1 * x + a3)) = -((2 * (i2 : Int) - 1) * (a1 * x + a3)) := by grind
      rw [id]
      refine z_neg (M.zmul ?_ _)
      exact Int.emod_eq_emod_iff_emod_sub_eq_zero.mp e2
    have e4 : ((4 : Int) * ((i2 : Nat) * (i2 : Nat))) % (p : Nat) = 1 % (p : Nat) := by
      have : M p ((2 * (i2 : Int)) * (2 * (i2 : Int))) (1 * 1) := M.mul e2 e2
      have id : ((4 : Int) * ((i2 : Nat) * (i2 : Nat))) = (2 * (i2 : Int)) * (2 * (i2 : Int)) := by grind
      rw [id]; exact this
    refine ⟨x, lx, y, ly, z_cancel e4 ?_, zY, z_cancel e4 ?_⟩
    · have id : 4 * fF a1 a2 a3 a4 a6 x y = fY a1 a2 a3 a4 a6 x y * fY a1 a2 a3 a4 a6 x y - dD a1 a2 a3 a4 a6 x := by unfold dD fY fF; grind
      rw [id]
      exact z_sub (M.zmul zY _) g1
    · have id : 4 * fX a1 a2 a3 a4 a6 x y = fY a1 a2 a3 a4 a6 x y * (2 * a1) - dP a1 a2 a3 a4 a6 x := by unfold dP fY fX; grind
      rw [id]
      exact z_sub (M.zmul zY _) g2
theorem good5 : Good p a1 a2 a3 a4 a6 := by
  have hp := K.pos
  have e12 := K.e12
  obtain ⟨s, hs⟩ : ∃ s : Nat, (b2 a1 a2 a3 a4 a6 + 12 * (s : Int)) % (p : Nat) = 0 := by
    refine ⟨rs p (-(b2 a1 a2 a3 a4 a6) * i12), ?_⟩
    have m : M p (b2 a1 a2 a3 a4 a6 + 12 * ((rs p (-(b2 a1 a2 a3 a4 a6) * i12) : Nat) : Int)) (b2 a1 a2 a3 a4 a6 + 12 * (-(b2 a1 a2 a3 a4 a6) * i12)) := M.add M.rfl (M.mul M.rfl (rs_m hp _))
    rw [m.zero]
    have id : b2 a1 a2 a3 a4 a6 + 12 * (-(b2 a1 a2 a3 a4 a6) * i12) = -((12 * (i12 : Int) - 1) * b2 a1 a2 a3 a4 a6) := by grind
    rw [id]
    exact z_neg (M.zmul (Int.emod_eq_emod_iff_emod_sub_eq_zero.mp e12) _)
  have eN := pts_eq K a1 a2 a3 a4 a6 s hs
  have eS := sing_eq K a1 a2 a3 a4 a6 s hs
  have lA := rs_lt hp (cA a1 a2 a3 a4 a6 s)
  have lB := rs_lt hp (cB a1 a2 a3 a4 a6 s)
  have mA := rs_m hp (cA a1 a2 a3 a4 a6 s)
  have mB := rs_m hp (cB a1 a2 a3 a4 a6 s)
  have zA := rs_z hp (a := cA a1 a2 a3 a4 a6 s)
  have q2 := allB_at (allB_at K.c2 lA) lB
  have q3 := allB_at (allB_at K.c3 lA) lB
  generalize rs p (cA a1 a2 a3 a4 a6 s) = A at *
  generalize rs p (cB a1 a2 a3 a4 a6 s) = B at *
  have hd : dis a1 a2 a3 a4 a6 % (p : Nat) = 0 ↔ (A * A * A + 27 * B * B) % p = 0 := by
    rw [← nat_z]
    have c : (((A * A * A + 27 * B * B : Nat)) : Int) = A * A * A + 27 * B * B := by simp
    rw [c]
    have m : M p ((A : Int) * A * A + 27 * B * B) (cA a1 a2 a3 a4 a6 s * cA a1 a2 a3 a4 a6 s * cA a1 a2 a3 a4 a6 s + 27 * cB a1 a2 a3 a4 a6 s * cB a1 a2 a3 a4 a6 s) := M.add (M.mul (M.mul mA mA) mA) (M.mul (M.mul M.rfl mB) mB)
    rw [m.zero]
    have id : dis a1 a2 a3 a4 a6 + (cA a1 a2 a3 a4 a6 s * cA a1 a2 a3 a4 a6 s * cA a1 a2 a3 a4 a6 s + 27 * cB a1 a2 a3 a4 a6 s * cB a1 a2 a3 a4 a6 s) =
        (b2 a1 a2 a3 a4 a6 + 12 * s) * (-(b2 a1 a2 a3 a4 a6 + 12 * s) * (b8 a1 a2 a3 a4 a6 + 3 * s * b6 a1 a2 a3 a4 a6 + 3 * s * s * b4 a1 a2 a3 a4 a6 + s * s * s * b2 a1 a2 a3 a4 a6 + 3 * s * s * s * s) + 9 * (b4 a1 a2 a3 a4 a6 + s * b2 a1 a2 a3 a4 a6 + 6 * s * s) * cB a1 a2 a3 a4 a6 s) := by
      unfold dis cA cB dD b8 b6 b4 b2; grind
    have z := M.zmul hs (-(b2 a1 a2 a3 a4 a6 + 12 * s) * (b8 a1 a2 a3 a4 a6 + 3 * s * b6 a1 a2 a3 a4 a6 + 3 * s * s * b4 a1 a2 a3 a4 a6 + s * s * s * b2 a1 a2 a3 a4 a6 + 3 * s * s * s * s) + 9 * (b4 a1 a2 a3 a4 a6 + s * b2 a1 a2 a3 a4 a6 + 6 * s * s) * cB a1 a2 a3 a4 a6 s)
    rw [← id] at z
    constructor
    · intro h
      have := z_sub z h
      rw [show ∀ a b : Int, a + b - a = b from fun a b => by omega] at this
      exact this
    · intro h
      have := z_sub z h
      rw [Int.add_sub_cancel] at this
      exact this
  have hc : sec a1 a2 a3 a4 a6 % (p : Nat) = 0 ↔ A = 0 := by
    rw [zA]
    have id : sec a1 a2 a3 a4 a6 + 12 * cA a1 a2 a3 a4 a6 s = (b2 a1 a2 a3 a4 a6 + 12 * s) * (b2 a1 a2 a3 a4 a6 + 12 * s) := by unfold sec cA b4 b2; grind
    have z := M.zmul hs (b2 a1 a2 a3 a4 a6 + 12 * s)
    rw [← id] at z
    constructor
    · intro h
      have := z_sub z h
      rw [show ∀ a b : Int, a + b - a = b from fun a b => by omega] at this
      exact z_cancel e12 this
    · intro h
      have := z_sub z (show (12 * cA a1 a2 a3 a4 a6 s) % (p : Nat) = 0 by rw [Int.mul_comm]; exact M.zmul h 12)
      rw [Int.add_sub_cancel] at this
      exact this
  rw [← eN] at q2
  unfold okN at q2
  generalize hN : pts p a1 a2 a3 a4 a6 = N at q2 eN
  have hd2 : dis a1 a2 a3 a4 a6 % (p : Nat) = 0 ↔ ((A * A * A + 27 * B * B) % p).beq 0 = true := by rw [hd, beq_zero]
  refine ⟨?_, ?_, ?_, ?_⟩
  · rw [eS, hd2, ← beq_iff_eq.mp q3, anyB_iff]
    simp only [Bool.and_eq_true, beq_zero]
  · intro h
    rw [hN]
    rw [if_neg (fun z => h (hd2.mpr z))] at q2
    have q := Nat.le_of_ble_eq_true q2
    rcases Nat.le_total N p with l | l
    · have z : N - p = 0 := by omega
      rw [z] at q
      obtain ⟨k, rfl⟩ := Nat.exists_eq_add_of_le l
      have e1 : N + k - N = k := by omega
      rw [e1] at q
      have e2 : ((N + k : Nat) : Int) - N = k := by omega
      rw [e2]
      have : ((k * k + 0 * 0 : Nat) : Int) ≤ ((4 * (N + k) : Nat) : Int) := by omega
      have c : ((k * k + 0 * 0 : Nat) : Int) = (k : Int) * k := by simp
      rw [c] at this
      omega
    · have z : p - N = 0 := by omega
      rw [z] at q
      obtain ⟨k, rfl⟩ := Nat.exists_eq_add_of_le l
      have e1 : p + k - p = k := by omega
      rw [e1] at q
      have e2 : (p : Int) - ((p + k : Nat) : Int) = -k := by omega
      rw [e2, Int.neg_mul_neg]
      have : ((0 * 0 + k * k : Nat) : Int) ≤ ((4 * p : Nat) : Int) := by omega
      have c : ((0 * 0 + k * k : Nat) : Int) = (k : Int) * k := by simp
      rw [c] at this
      omega
  · intro h1 h2
    rw [hN]
    rw [if_pos (hd2.mp h1), if_pos (beq_zero.mpr (hc.mp h2))] at q2
    exact beq_of q2
  · intro h1 h2
    rw [hN]
    rw [if_pos (hd2.mp h1), if_neg (fun z => h2 (hc.mpr (beq_zero.mp z)))] at q2
    rw [Bool.or_eq_true] at q2
    exact q2.imp beq_of beq_of
end
end C74

set_option linter.all false
set_option maxRecDepth 100000
set_option maxHeartbeats 4000000
namespace C74
/-! the primes 2 and 3, curve by curve -/
section
variable {p : Nat} {a1 a2 a3 a4 a6 c1 c2 c3 c4 c6 : Int} (h1 : M p a1 c1) (h2 : M p a2 c2) (h3 : M p a3 c3) (h4 : M p a4 c4) (h6 : M p a6 c6)
include h1 h2 h3 h4 h6
theorem mF (x y : Int) : M p (fF a1 a2 a3 a4 a6 x y) (fF c1 c2 c3 c4 c6 x y) := by
  unfold fF
  exact M.sub (M.add (M.add M.rfl (M.mul (M.mul h1 M.rfl) M.rfl)) (M.mul h3 M.rfl)) (M.add (M.add (M.add M.rfl (M.mul (M.mul h2 M.rfl) M.rfl)) (M.mul h4 M.rfl)) h6)
theorem mY (x y : Int) : M p (fY a1 a2 a3 a4 a6 x y) (fY c1 c2 c3 c4 c6 x y) := by
  unfold fY
  exact M.add (M.add M.rfl (M.mul h1 M.rfl)) h3
theorem mX (x y : Int) : M p (fX a1 a2 a3 a4 a6 x y) (fX c1 c2 c3 c4 c6 x y) := by
  unfold fX
  exact M.sub (M.sub (M.sub (M.mul h1 M.rfl) M.rfl) (M.mul (M.mul M.rfl h2) M.rfl)) h4
theorem m2 : M p (b2 a1 a2 a3 a4 a6) (b2 c1 c2 c3 c4 c6) := M.add (M.mul h1 h1) (M.mul M.rfl h2)
theorem m4 : M p (b4 a1 a2 a3 a4 a6) (b4 c1 c2 c3 c4 c6) := M.add (M.mul M.rfl h4) (M.mul h1 h3)
theorem m6 : M p (b6 a1 a2 a3 a4 a6) (b6 c1 c2 c3 c4 c6) := M.add (M.mul h3 h3) (M.mul M.rfl h6)
theorem m8 : M p (b8 a1 a2 a3 a4 a6) (b8 c1 c2 c3 c4 c6) :=
  M.sub (M.add (M.sub (M.add (M.mul (M.mul h1 h1) h6) (M.mul (M.mul M.rfl h2) h6)) (M.mul (M.mul h1 h3) h4)) (M.mul (M.mul h2 h3) h3)) (M.mul h4 h4)
theorem mdis : M p (dis a1 a2 a3 a4 a6) (dis c1 c2 c3 c4 c6) := by
  have q2 := m2 h1 h2 h3 h4 h6
  have q4 := m4 h1 h2 h3 h4 h6
  have q6 := m6 h1 h2 h3 h4 h6
  have q8 := m8 h1 h2 h3 h4 h6
  exact M.add (M.sub (M.sub (M.mul (M.mul (M.neg q2) q2) q8) (M.mul (M.mul (M.mul M.rfl q4) q4) q4)) (M.mul (M.mul M.rfl q6) q6)) (M.mul (M.mul (M.mul M.rfl q2) q4) q6)
theorem msec : M p (sec a1 a2 a3 a4 a6) (sec c1 c2 c3 c4 c6) := by
  have q2 := m2 h1 h2 h3 h4 h6
  have q4 := m4 h1 h2 h3 h4 h6
  exact M.sub (M.mul q2 q2) (M.mul M.rfl q4)
theorem mpts : pts p a1 a2 a3 a4 a6 = pts p c1 c2 c3 c4 c6 :=
  tot_congr fun x _ => cn_congr fun y _ => decide_eq_decide.mpr (mF h1 h2 h3 h4 h6 x y).zero
theorem msing : sing p a1 a2 a3 a4 a6 ↔ sing p c1 c2 c3 c4 c6 := by
  unfold sing
  refine exists_congr fun x => and_congr Iff.rfl (exists_congr fun y => and_congr Iff.rfl ?_)
  exact and_congr (mF h1 h2 h3 h4 h6 x y).zero (and_congr (mY h1 h2 h3 h4 h6 x y).zero (mX h1 h2 h3 h4 h6 x y).zero)
theorem mGood (g : Good p c1 c2 c3 c4 c6) : Good p a1 a2 a3 a4 a6 := by
  have e1 := mpts h1 h2 h3 h4 h6
  have e2 := msing h1 h2 h3 h4 h6
  have e3 := (mdis h1 h2 h3 h4 h6).zero
  have e4 := (msec h1 h2 h3 h4 h6).zero
  refine ⟨by rw [e2, e3]; exact g.s, fun h => ?_, fun h k => ?_, fun h k => ?_⟩
  · rw [e1]; exact g.g (fun z => h (e3.mpr z))
  · rw [e1]; exact g.c (e3.mp h) (e4.mp k)
  · rw [e1]; exact g.n (e3.mp h) (fun z => k (e4.mpr z))
end
def goodB (p : Nat) (a1 a2 a3 a4 a6 : Int) : Bool :=
  ((anyB p fun x => anyB p fun y => decide (fF a1 a2 a3 a4 a6 (x : Nat) (y : Nat) % (p : Nat) = 0) && (decide (fY a1 a2 a3 a4 a6 (x : Nat) (y : Nat) % (p : Nat) = 0) && decide (fX a1 a2 a3 a4 a6 (x : Nat) (y : Nat) % (p : Nat) = 0))) == decide (dis a1 a2 a3 a4 a6 % (p : Nat) = 0)) &&
  (if dis a1 a2 a3 a4 a6 % (p : Nat) = 0 then (if sec a1 a2 a3 a4 a6 % (p : Nat) = 0 then decide (pts p a1 a2 a3 a4 a6 = p) else decide (pts p a1 a2 a3 a4 a6 + 1 = p ∨ pts p a1 a2 a3 a4 a6 = p + 1))
    else decide (((p : Int) - (pts p a1 a2 a3 a4 a6 : Nat)) * ((p : Int) - (pts p a1 a2 a3 a4 a6 : Nat)) ≤ 4 * (p : Nat)))
theorem goodB_ok {p : Nat} {a1 a2 a3 a4 a6 : Int} (h : goodB p a1 a2 a3 a4 a6 = true) : Good p a1 a2 a3 a4 a6 := by
  unfold goodB at h
  rw [Bool.and_eq_true] at h
  obtain ⟨h1, h2⟩ := h
  have h1 := beq_iff_eq.mp h1
  refine ⟨?_, fun z => ?_, fun z k => ?_, fun z k => ?_⟩
  · rw [← @decide_eq_true_iff (dis a1 a2 a3 a4 a6 % (p : Nat) = 0), ← h1, anyB_iff]
    unfold sing
    refine exists_congr fun x => and_congr Iff.rfl ?_
    rw [anyB_iff]
    refine exists_congr fun y => and_congr Iff.rfl ?_
    rw [Bool.and_eq_true, Bool.and_eq_true, decide_eq_true_iff, decide_eq_true_iff, decide_eq_true_iff]
  · rw [if_neg z] at h2; exact of_decide_eq_true h2
  · rw [if_pos z, if_pos k] at h2; exact of_decide_eq_true h2
  · rw [if_pos z, if_neg k] at h2; exact of_decide_eq_true h2
def chD (p : Nat) : Bool := allB p fun a1 => allB p fun a2 => allB p fun a3 => allB p fun a4 => allB p fun a6 => goodB p (a1 : Nat) (a2 : Nat) (a3 : Nat) (a4 : Nat) (a6 : Nat)
theorem goodD {p : Nat} (hp : 0 < p) (h : chD p = true) (a1 a2 a3 a4 a6 : Int) : Good p a1 a2 a3 a4 a6 :=
  mGood (rs_m hp a1).symm (rs_m hp a2).symm (rs_m hp a3).symm (rs_m hp a4).symm (rs_m hp a6).symm
    (goodB_ok (allB_at (allB_at (allB_at (allB_at (allB_at h (rs_lt hp a1)) (rs_lt hp a2)) (rs_lt hp a3)) (rs_lt hp a4)) (rs_lt hp a6)))
theorem D2 : chD 2 = true := by decide +kernel
theorem D3 : chD 3 = true := by decide +kernel
theorem K5 : Chk 5 3 3 := ⟨by decide, by decide +kernel, by decide +kernel, by decide +kernel, by decide +kernel, by decide, by decide⟩
theorem K7 : Chk 7 3 4 := ⟨by decide, by decide +kernel, by decide +kernel, by decide +kernel, by decide +kernel, by decide, by decide⟩
theorem K11 : Chk 11 1 6 := ⟨by decide, by decide +kernel, by decide +kernel, by decide +kernel, by decide +kernel, by decide, by decide⟩
theorem K13 : Chk 13 12 7 := ⟨by decide, by decide +kernel, by decide +kernel, by decide +kernel, by decide +kernel, by decide, by decide⟩
theorem K17 : Chk 17 10 9 := ⟨by decide, by decide +kernel, by decide +kernel, by decide +kernel, by decide +kernel, by decide, by decide⟩
theorem K19 : Chk 19 8 10 := ⟨by decide, by decide +kernel, by decide +kernel, by decide +kernel, by decide +kernel, by decide, by decide⟩
theorem K23 : Chk 23 2 12 := ⟨by decide, by decide +kernel, by decide +kernel, by decide +kernel, by decide +kernel, by decide, by decide⟩
theorem K29 : Chk 29 17 15 := ⟨by decide, by decide +kernel, by decide +kernel, by decide +kernel, by decide +kernel, by decide, by decide⟩
theorem K31 : Chk 31 13 16 := ⟨by decide, by decide +kernel, by decide +kernel, by decide +kernel, by decide +kernel, by decide, by decide⟩
theorem K37 : Chk 37 34 19 := ⟨by decide, by decide +kernel, by decide +kernel, by decide +kernel, by decide +kernel, by decide, by decide⟩
def PR : List Nat := [2, 3, 5, 7, 11, 13, 17, 19, 23, 29, 31, 37]
theorem good {p : Nat} (h : p ∈ PR) (a1 a2 a3 a4 a6 : Int) : Good p a1 a2 a3 a4 a6 := by
  unfold PR at h
  simp only [List.mem_cons, List.not_mem_nil, or_false] at h
  rcases h with rfl | rfl | rfl | rfl | rfl | rfl | rfl | rfl | rfl | rfl | rfl | rfl
  · exact goodD (by decide) D2 _ _ _ _ _
  · exact goodD (by decide) D3 _ _ _ _ _
  · exact good5 K5 _ _ _ _ _
  · exact good5 K7 _ _ _ _ _
  · exact good5 K11 _ _ _ _ _
  · exact good5 K13 _ _ _ _ _
  · exact good5 K17 _ _ _ _ _
  · exact good5 K19 _ _ _ _ _
  · exact good5 K23 _ _ _ _ _
  · exact good5 K29 _ _ _ _ _
  · exact good5 K31 _ _ _ _ _
  · exact good5 K37 _ _ _ _ _
end C74

set_option Elab.async false
set_option linter.all false
set_option maxRecDepth 100000
set_option maxHeartbeats 4000000
set_option exponentiation.threshold 10000
namespace Lk
open PySem L2
/-! helpers -/
/-- all that stood stands, but for p -/
def But (p : Addr) (H H' : Hp) : Prop := ∀ a o, a ≠ p → H a = some o → H' a = some o
theorem same_new {H : Hp} {p : Addr} {o : HO} (h : H p = none) : Same H (upd H p o) := fun b u e => by
  rw [upd_ne (ne_of_none e h)]
  exact e
theorem Same.tr {H H1 H2 : Hp} (a : Same H H1) (b : Same H1 H2) : Same H H2 := fun c o h => b c o (a c o h)
theorem same_refl (H : Hp) : Same H H := fun _ _ h => h
theorem itT {c : Bool} {A B : Prop} (hc : c = true) (h : A) : if c = true then A else B := by
  rw [if_pos hc]; exact h
theorem itF {c : Bool} {A B : Prop} (hc : c = false) (h : B) : if c = true then A else B := by
  rw [hc, if_neg Bool.false_ne_true]; exact h
/-- a def of the module, as its callers have it -/
def Has (P : Program) (w : World) (K : PySem.W.Frag) (mg : Str → Option Value) (base : Heap) (nm : Str) (k : Nat) (ps : List Str) (sp : Sp) : Prop :=
  ∃ f fd, FnOk P w K mg base CX0 k f fd ps sp ∧ mg nm = some (.ref f) ∧ PySem.W.keepIn K (.ref f) = true ∧ Binds K fd ps []
/-- a method -/
def HasM (P : Program) (w : World) (K : PySem.W.Frag) (mg : Str → Option Value) (base : Heap) (C : Addr) (nm : Str) (k : Nat) (ps : List Str) (sp : Sp) : Prop :=
  ∃ f fd, FnOk P w K mg base CX0 k f fd ps sp ∧ Meth K C nm f ∧ Binds K fd ps []
/-- a property -/
def HasP (P : Program) (w : World) (K : PySem.W.Frag) (mg : Str → Option Value) (base : Heap) (C : Addr) (nm : Str) (k : Nat) (sp : Sp) : Prop :=
  ∃ p g fd, PropOf K C nm p g ∧ FnOk P w K mg base CX0 k g fd ["self"] sp ∧ Binds K fd ["self"] []
def Kq (p : Addr) (H H' : Hp) : Prop := ∀ b o, b ≠ p → H b = some o → H' b = some o
theorem Kq.refl {p : Addr} {H : Hp} : Kq p H H := fun _ _ _ e => e
theorem Kq.trans {p : Addr} {H H1 H2 : Hp} (a : Kq p H H1) (b : Kq p H1 H2) : Kq p H H2 := fun c o n e => b c o n (a c o n e)
theorem kq_same {p : Addr} {H H' : Hp} (s : Same H H') : Kq p H H' := fun b o _ e => s b o e
theorem kq_upd {p : Addr} {H : Hp} {o : HO} : Kq p H (upd H p o) := fun b u n e => by rw [upd_ne n]; exact e
theorem kq_new {p L : Addr} {H H1 H2 : Hp} (a : Kq p H H1) (n : H1 L = none) (b : Kq L H1 H2) : Kq p H H2 := fun c o nc e => b c o (ne_of_none (a c o nc e) n) (a c o nc e)
theorem none_of {H H' : Hp} {a : Addr} (s : Same H H') (n : H' a = none) : H a = none := by
  cases e : H a with
  | none => rfl
  | some o => rw [s a o e] at n; cases n
theorem same_put {H H' : Hp} {t : Addr} {o : HO} (s : Same H H') (n : H t = none) : Same H (upd H' t o) := fun a u e => by
  rw [upd_ne (ne_of_none e n)]
  exact s a u e
theorem same_kq {H H1 H2 : Hp} {p : Addr} (s : Same H H1) (n : H p = none) (k : Kq p H1 H2) : Same H H2 := fun b o e => k b o (ne_of_none e n) (s b o e)
def DicAt (H : Hp) (p : Addr) : Prop := ∃ a b c : Int, H p = some (.lst [.int a, .int b, .int c])
theorem dic_upd {H : Hp} {p : Addr} {a b c : Int} : DicAt (upd H p (.lst [.int a, .int b, .int c])) p := ⟨a, b, c, upd_same⟩
theorem dic_same {H H' : Hp} {p : Addr} (s : Same H H') (h : DicAt H p) : DicAt H' p := let ⟨a, b, c, e⟩ := h; ⟨a, b, c, s _ _ e⟩
theorem sqL_same {K : PySem.W.Frag} {H H' : Hp} {a : Addr} {xs : List V} (s : Same H H') (h : SqL K H a xs) : SqL K H' a xs := by
  unfold SqL Rd at h ⊢
  rcases h with (h | ⟨o, h⟩) | h
  · exact .inl (.inl (s _ _ h))
  · exact .inl (.inr ⟨o, s _ _ h⟩)
  · exact .inr h
abbrev HRoll (P : Program) (w : World) (K : PySem.W.Frag) (mg : Str → Option Value) (base : Heap) : Prop := Has P w K mg base "_law_roll" 1 ["_law_dice_here", "_law_total"] spRoll
abbrev HPick (P : Program) (w : World) (K : PySem.W.Frag) (mg : Str → Option Value) (base : Heap) : Prop := Has P w K mg base "_law_pick" 2 ["_law_dice_here", "_law_items"] (spPick K)
def LONG : Int := 1000000000000000000000000000000000000000000000000000000000000
theorem long_lt {x : Int} (h1 : -LONG < x) (h2 : x < LONG) : x.natAbs < 2 ^ 200 := by
  have e : LONG < 2 ^ 200 := by decide
  have : x.natAbs < LONG.natAbs := by unfold LONG at *; omega
  exact Nat.lt_trans this (by decide)
theorem both {x : Int} (h1 : -LONG < x) (h2 : x < LONG) : (decide (-LONG < x) && decide (x < LONG)) = true := by
  rw [decide_eq_true h1, decide_eq_true h2]; rfl
/-! bounds by inference -/
class Wd (x : Int) (n : outParam Nat) : Prop where
  h : x.natAbs < 2 ^ n
theorem pow_mono2 {a b : Nat} (h : a ≤ b) : 2 ^ a ≤ 2 ^ b := Nat.pow_le_pow_right (by decide) h
instance wdAdd {x y : Int} {a b : Nat} [hx : Wd x a] [hy : Wd y b] : Wd (x + y) (max a b + 1) := ⟨by
  have := hx.h; have := hy.h
  have h1 := pow_mono2 (Nat.le_max_left a b)
  have h2 := pow_mono2 (Nat.le_max_right a b)
  rw [Nat.pow_succ]; omega⟩
instance wdSub {x y : Int} {a b : Nat} [hx : Wd x a] [hy : Wd y b] : Wd (x - y) (max a b + 1) := ⟨by
  have := hx.h; have := hy.h
  have h1 := pow_mono2 (Nat.le_max_left a b)
  have h2 := pow_mono2 (Nat.le_max_right a b)
  rw [Nat.pow_succ]; omega⟩
instance wdNeg {x : Int} {a : Nat} [hx : Wd x a] : Wd (-x) a := ⟨by rw [Int.natAbs_neg]; exact hx.h⟩
instance wdMul {x y : Int} {a b : Nat} [hx : Wd x a] [hy : Wd y b] : Wd (x * y) (a + b) := ⟨by
  rw [Int.natAbs_mul, Nat.pow_add]
  exact Nat.mul_lt_mul'' hx.h hy.h⟩
instance wdLit {k : Nat} : Wd (no_index (OfNat.ofNat k : Int)) (k.log2 + 1) := ⟨by
  show k < 2 ^ (k.log2 + 1)
  exact Nat.lt_log2_self⟩
theorem mI {x y : Int} {a b : Nat} [hx : Wd x a] [hy : Wd y b] (h : a + b + 2 ≤ 1000000 := by decide) : CMulW x y :=
  wide_mul (a := a + 1) (b := b + 1) (Nat.lt_of_lt_of_le hx.h (pow_mono2 (by omega))) (Nat.lt_of_lt_of_le hy.h (pow_mono2 (by omega))) (by omega) (by omega) (by omega)
theorem wd_of {x : Int} (n : Nat) (h : x.natAbs < 2 ^ n) : Wd x n := ⟨h⟩
/-- built-in names that the module leaves -/
structure NN (mg : Str → Option Value) : Prop where
  int : mg "int" = none
  len : mg "len" = none
  abs : mg "abs" = none
  max : mg "max" = none
  min : mg "min" = none
  isinstance : mg "isinstance" = none
  bool : mg "bool" = none
  range : mg "range" = none
  all : mg "all" = none
  tuple : mg "tuple" = none
  tl : ∃ t, mg "_TOO_LONG" = some (.int LONG t)
  mf : ∃ t, mg "MAX_FACTORED" = some (.int 1000000000 t)
  mp : ∃ t, mg "MAX_PRIME" = some (.int 997 t)
  me : ∃ t, mg "MAX_ENTRY" = some (.int 1000 t)
  mc : ∃ t, mg "MAX_COUNTED" = some (.int 97 t)
  isqrt : mg "isqrt" = some (.builtin "math.isqrt")
theorem NN.bl {mg : Str → Option Value} (N : NN mg) : Bl mg := ⟨N.int, N.len, N.abs, N.max⟩
/-! the least factor from a start on -/
def lfS (n lo : Int) (k : Nat) : Int := match (List.range k).find? (fun i => decide (n % (lo + (i : Nat) * 2) = 0)) with | some i => lo + (i : Nat) * 2 | none => n
def rt (n : Int) : Int := ((Float64.isqrt n.toNat : Nat) : Int) + 1
def lf (n s : Int) : Int := if s = 2 ∧ n % 2 = 0 then 2 else lfS n (Builtin.bitOr s 1) (Builtin.Range.rangeSize (Builtin.bitOr s 1) (rt n) 2).toNat
theorem find_at {p : Nat → Bool} {k i : Nat} (hi : i < k) (hp : p i = true) (no : ∀ j, j < i → p j = false) : (List.range k).find? p = some i := by
  rw [List.find?_range_eq_some]
  exact ⟨hp, List.mem_range.mpr hi, fun j hj => by rw [no j hj]; rfl⟩
theorem find_no {p : Nat → Bool} {k : Nat} (no : ∀ j, j < k → p j = false) : (List.range k).find? p = none := by
  rw [List.find?_range_eq_none]
  exact fun j hj => by rw [no j hj]; rfl
theorem or_lt {s : Int} (h0 : 0 ≤ s) (h1 : s < 2 ^ 40) : 0 ≤ Builtin.bitOr s 1 ∧ Builtin.bitOr s 1 < 2 ^ 40 := by
  rw [bitOr_nn h0 (by decide)]
  have h2 : s.toNat < 2 ^ 40 := by omega
  have h3 := Nat.or_lt_two_pow h2 (show (1 : Int).toNat < 2 ^ 40 by decide)
  constructor
  · exact Int.natCast_nonneg _
  · have e : ((2 : Int) ^ 40) = ((2 ^ 40 : Nat) : Int) := by decide
    rw [e]
    exact Int.ofNat_lt.mpr h3
theorem or_ge {s : Int} (h0 : 0 ≤ s) : 1 ≤ Builtin.bitOr s 1 := by
  rw [bitOr_nn h0 (by decide)]
  have : 1 ≤ s.toNat ||| (1 : Int).toNat := Nat.right_le_or
  omega
theorem small2 {a b : Int} (ha : -(2 ^ 62) ≤ a) (ha2 : a < 2 ^ 62) (hb : -(2 ^ 62) ≤ b) (hb2 : b < 2 ^ 62) : Builtin.Range.small a b 2 = true := by
  unfold Builtin.Range.small Builtin.Range.rangeSize
  simp only [Builtin.Range.rangeFitsLong, Bool.and_eq_true, Bool.or_eq_true, decide_eq_true_eq, beq_iff_eq, show (2 : Int) > 0 by decide, if_true]
  split <;> omega
theorem rt_lt {n : Int} (h0 : 0 ≤ n) (h1 : n < 2 ^ 40) : 0 ≤ rt n ∧ rt n < 2 ^ 41 := by
  unfold rt
  have : Float64.isqrt n.toNat ≤ n.toNat := by
    have q := (PySem.Float64.isqrt_spec n.toNat).1
    rcases Nat.eq_zero_or_pos (Float64.isqrt n.toNat) with z | z
    · omega
    · exact Nat.le_trans (Nat.le_mul_of_pos_left _ z) q
  omega
section
variable {P : Program} {w : World} {K : PySem.W.Frag} {mg : Str → Option Value} {base : Heap}
abbrev sLf : Stmt := top 16
def spLf : Sp := fun vs H Q _ => ∃ n s : Int, vs = [.int n, .int s] ∧ 2 ≤ n ∧ n < 2 ^ 40 ∧ 2 ≤ s ∧ s < 2 ^ 40 ∧ Q (.int (lf n s)) H
theorem scLf : FnScope ["number", "start", "factor"] ["number", "start"] (defScope sLf) := ⟨rfl, rfl, rfl, by decide +kernel, rfl, by decide +kernel, by decide +kernel⟩
theorem ok_lf {f : Addr} {fd : FuncData} (F : Fun K "_least_factor" "_least_factor" sLf f fd) (mI : mg "isqrt" = some (.builtin "math.isqrt")) (mR : mg "range" = none) : FnOk P w K mg base CX0 1 f fd ["number", "start"] spLf := by
  refine F.ok scLf (fun vs H Q E h => ?_) (fun cdv A outer s H vs Q E hr h => ?_)
  · obtain ⟨n, st, rfl, _⟩ := h
    rfl
  · obtain ⟨n, st, rfl, n2, n3, s2, s3, k⟩ := h
    refine ⟨_, pss_cons (ps_if (PW.pt (pw_and (pt_cmpR op_eq (pv 1) pe_int (nomark _)) (pw_and1 (pt_cmpR op_eq (pe_op op_mod (pv 0) pe_int) pe_int (nomark _))))) (pss_one (ps_ret pe_int)) pss_nil)
      (pss_cons (ps_for PassesOwn.never rfl (pi_range3 rfl mR (pa_cons (pe_op op_or (pv 1) pe_int) (pa_cons (pe_op op_add (pe_callBfun cr_isqrt rfl mI (pa_cons (pv 0) pa_nil)) pe_int) (pa_cons pe_int pa_nil)))) (pg_name (i := 2) scLf.nd rfl (.inl rfl))
        (pss_one (ps_if (pt_cmpR op_eq (pe_op op_mod (pv 0) (pv 2)) pe_int (nomark _)) (pss_one (ps_ret (pv 2))) pss_nil)))
      (pss_one (ps_ret (pv 0)))), ?_⟩
    have ol := or_lt (s := st) (by omega) s3
    have og := or_ge (s := st) (by omega)
    have rl := rt_lt (n := n) (by omega) n3
    have tail : ¬ (st = 2 ∧ n % 2 = 0) → lf n st = lfS n (Builtin.bitOr st 1) (Builtin.Range.rangeSize (Builtin.bitOr st 1) (rt n) 2).toNat := fun h => by unfold lf; rw [if_neg h]
    refine ⟨_, rfl, rfl, _, rfl, ?_⟩
    by_cases a : st = 2
    · refine itT (decide_eq_true (by rw [a])) ?_
      refine ⟨_, rfl, n, 2, rfl, rfl, (by show (0 : Int) < 2; decide), rfl, _, rfl, ?_⟩
      by_cases b : n % 2 = 0
      · refine itT (decide_eq_true (show V.int (n % 2) = V.int 0 by rw [b])) ?_
        have e : lf n st = 2 := by unfold lf; rw [if_pos ⟨a, b⟩]
        rw [e] at k
        exact k
      · refine itF (decide_eq_false (fun z => b (V.int.inj z))) ?_
        refine ⟨_, rfl, _, _, rfl, rfl, _, rfl, n, rfl, by omega, by omega, _, _, rfl, rfl, Builtin.bitOr st 1, rt n, 2, (Builtin.Range.rangeSize (Builtin.bitOr st 1) (rt n) 2).toNat, rfl, ⟨by decide, by decide, small2 (by omega) (by omega) (by omega) (by omega), PyProof.Rows.rangeSize_toNat _ _ _⟩,
          for_rangeC (fun i σ H' => H' = H ∧ ∃ v : Option V, σ = [some (.int n), some (.int st), v] ∧ ∀ j : Nat, j < i → n % (Builtin.bitOr st 1 + (j : Nat) * 2) ≠ 0) ⟨rfl, none, rfl, fun j hj => absurd hj (Nat.not_lt_zero j)⟩ ?_ ?_⟩
        · rintro i σ H' hi ⟨rfl, v, rfl, no⟩
          have pos : 0 < Builtin.bitOr st 1 + (i : Nat) * 2 := by omega
          refine ⟨_, rfl, _, rfl, n, Builtin.bitOr st 1 + (i : Nat) * 2, rfl, rfl, pos, rfl, _, rfl, ?_⟩
          by_cases c : n % (Builtin.bitOr st 1 + (i : Nat) * 2) = 0
          · refine itT (decide_eq_true (show V.int (n % (Builtin.bitOr st 1 + (i : Nat) * 2)) = V.int 0 by rw [c])) ⟨_, rfl, ?_⟩
            have e : lf n st = Builtin.bitOr st 1 + (i : Nat) * 2 := by
              rw [tail (fun h => b h.2)]
              unfold lfS
              rw [find_at hi (decide_eq_true c) (fun j hj => decide_eq_false (no j hj))]
            rw [e] at k
            exact k
          · refine itF (decide_eq_false (fun z => c (V.int.inj z))) ⟨rfl, _, rfl, fun j hj => ?_⟩
            rcases Nat.lt_succ_iff_lt_or_eq.mp hj with q | q
            · exact no j q
            · rw [q]; exact c
        · rintro σ H' ⟨rfl, v, rfl, no⟩
          have e : lf n st = n := by
            rw [tail (fun h => b h.2)]
            unfold lfS
            rw [find_no (fun j hj => decide_eq_false (no j hj))]
          rw [e] at k
          exact ⟨_, rfl, k⟩
    · refine itF (decide_eq_false (fun z => a (V.int.inj z))) (itF rfl ?_)
      refine ⟨_, rfl, _, _, rfl, rfl, _, rfl, n, rfl, by omega, by omega, _, _, rfl, rfl, Builtin.bitOr st 1, rt n, 2, (Builtin.Range.rangeSize (Builtin.bitOr st 1) (rt n) 2).toNat, rfl, ⟨by decide, by decide, small2 (by omega) (by omega) (by omega) (by omega), PyProof.Rows.rangeSize_toNat _ _ _⟩,
        for_rangeC (fun i σ H' => H' = H ∧ ∃ v : Option V, σ = [some (.int n), some (.int st), v] ∧ ∀ j : Nat, j < i → n % (Builtin.bitOr st 1 + (j : Nat) * 2) ≠ 0) ⟨rfl, none, rfl, fun j hj => absurd hj (Nat.not_lt_zero j)⟩ ?_ ?_⟩
      · rintro i σ H' hi ⟨rfl, v, rfl, no⟩
        have pos : 0 < Builtin.bitOr st 1 + (i : Nat) * 2 := by omega
        refine ⟨_, rfl, _, rfl, n, Builtin.bitOr st 1 + (i : Nat) * 2, rfl, rfl, pos, rfl, _, rfl, ?_⟩
        by_cases c : n % (Builtin.bitOr st 1 + (i : Nat) * 2) = 0
        · refine itT (decide_eq_true (show V.int (n % (Builtin.bitOr st 1 + (i : Nat) * 2)) = V.int 0 by rw [c])) ⟨_, rfl, ?_⟩
          have e : lf n st = Builtin.bitOr st 1 + (i : Nat) * 2 := by
            rw [tail (fun h => a h.1)]
            unfold lfS
            rw [find_at hi (decide_eq_true c) (fun j hj => decide_eq_false (no j hj))]
          rw [e] at k
          exact k
        · refine itF (decide_eq_false (fun z => c (V.int.inj z))) ⟨rfl, _, rfl, fun j hj => ?_⟩
          rcases Nat.lt_succ_iff_lt_or_eq.mp hj with q | q
          · exact no j q
          · rw [q]; exact c
      · rintro σ H' ⟨rfl, v, rfl, no⟩
        have e : lf n st = n := by
          rw [tail (fun h => a h.1)]
          unfold lfS
          rw [find_no (fun j hj => decide_eq_false (no j hj))]
        rw [e] at k
        exact ⟨_, rfl, k⟩
end

section
variable {P : Program} {w : World} {K : PySem.W.Frag} {mg : Str → Option Value} {base : Heap}
abbrev sShort : Stmt := top 9
abbrev sIsI : Stmt := top 13
abbrev sPr : Stmt := top 14
abbrev sCp : Stmt := top 15
def spShort : Sp := fun vs H Q _ => ∃ i : Int, vs = [.int i] ∧ Q (.bl (decide (-LONG < i) && decide (i < LONG))) H
theorem scShort : FnScope ["value"] ["value"] (defScope sShort) := ⟨rfl, rfl, rfl, by decide +kernel, rfl, by decide +kernel, by decide +kernel⟩
theorem ok_short {f : Addr} {fd : FuncData} (F : Fun K "is_short_integer" "is_short_integer" sShort f fd) (G : NN mg) :
    FnOk P w K mg base CX0 1 f fd ["value"] spShort := by
  obtain ⟨tk, hTL⟩ := G.tl
  refine F.ok scShort (fun vs H Q E h => ?_) (fun cdv A outer s H vs Q E hr h => ?_)
  · obtain ⟨i, rfl, _⟩ := h
    rfl
  · obtain ⟨i, rfl, k⟩ := h
    refine ⟨_, pss_one (ps_ret (pe_and (pe_callB call_isi (by rfl) G.isinstance (by decide +kernel) (pa_cons (pv 0) (pa_cons (pe_bltn (by rfl) G.int (by decide +kernel) (show RelV (.ty "int") (.type "int") from rfl)) pa_nil)))
      (pe_and (pe_not (pe_callB call_isi (by rfl) G.isinstance (by decide +kernel) (pa_cons (pv 0) (pa_cons (pe_bltn (by rfl) G.bool (by decide +kernel) (show RelV (.ty "bool") (.type "bool") from rfl)) pa_nil))))
        (pe_one (pe_chain op_lt op_lt (pe_un un_neg (pe_glob rfl hTL (show RelV (.int LONG) (.int LONG tk) from ⟨_, rfl⟩))) (pv 0) (pe_glob rfl hTL (show RelV (.int LONG) (.int LONG tk) from ⟨_, rfl⟩))))))), ?_⟩
    refine ⟨_, rfl, _, _, _, _, true, rfl, .ty "int", .base (.int i), kit_ty (by decide +kernel), true, rfl, ?_⟩
    rw [if_pos rfl]
    refine ⟨_, rfl, _, _, _, _, false, rfl, .ty "bool", .base (.int i), kit_ty (by decide +kernel), false, rfl, true, rfl, ?_⟩
    rw [if_pos rfl]
    refine ⟨_, rfl, _, rfl, _, _, rfl, rfl, _, rfl, ?_⟩
    by_cases c : -LONG < i
    · rw [decide_eq_true c] at k
      rw [if_pos (decide_eq_true c)]
      exact ⟨_, _, rfl, rfl, k⟩
    · rw [decide_eq_false c] at k
      rw [if_neg (by rw [decide_eq_false c]; exact Bool.false_ne_true)]
      exact k

abbrev HSh (P : Program) (w : World) (K : PySem.W.Frag) (mg : Str → Option Value) (base : Heap) : Prop := Has P w K mg base "is_short_integer" 1 ["value"] spShort
theorem scIsI : FnScope ["value"] ["value"] (defScope sIsI) := ⟨rfl, rfl, rfl, by decide +kernel, rfl, by decide +kernel, by decide +kernel⟩
theorem ok_isI {f : Addr} {fd : FuncData} (F : Fun K "is_integer" "is_integer" sIsI f fd) (S : HSh P w K mg base) : FnOk P w K mg base CX0 2 f fd ["value"] spShort := by
  obtain ⟨fS, dS, GS, mS, kS, bS⟩ := S
  refine F.ok scIsI (fun vs H Q E h => ?_) (fun cdv A outer s H vs Q E hr h => ?_)
  · obtain ⟨i, rfl, _⟩ := h
    rfl
  · obtain ⟨i, rfl, k⟩ := h
    refine ⟨_, pss_one (ps_ret (pe_call GS hr rfl mS kS bS .nil pass0 (pa_cons (pv 0) pa_nil))), ?_⟩
    exact ⟨_, rfl, i, rfl, k⟩
abbrev HIsI (P : Program) (w : World) (K : PySem.W.Frag) (mg : Str → Option Value) (base : Heap) : Prop := Has P w K mg base "is_integer" 2 ["value"] spShort
abbrev HLf (P : Program) (w : World) (K : PySem.W.Frag) (mg : Str → Option Value) (base : Heap) : Prop := Has P w K mg base "_least_factor" 1 ["number", "start"] spLf
/-- a prime of the list -/
def IsPr (p : Int) : Prop := ∃ n : Nat, n ∈ C74.PR ∧ p = (n : Int)
theorem pr_lf {p : Int} (h : IsPr p) : lf p 2 = p := by
  obtain ⟨n, hn, rfl⟩ := h
  have e : (C74.PR.all fun n => decide (lf ((n : Nat) : Int) 2 = ((n : Nat) : Int))) = true := by decide +kernel
  exact of_decide_eq_true (List.all_eq_true.mp e n hn)
theorem pr_bd {p : Int} (h : IsPr p) : 2 ≤ p ∧ p ≤ 37 := by
  obtain ⟨n, hn, rfl⟩ := h
  have e : (C74.PR.all fun n => decide (2 ≤ ((n : Nat) : Int) ∧ ((n : Nat) : Int) ≤ 37)) = true := by decide +kernel
  exact of_decide_eq_true (List.all_eq_true.mp e n hn)
def spPr : Sp := fun vs H Q _ => ∃ p : Int, vs = [.int p] ∧ IsPr p ∧ Q (.bl true) H
theorem scPr : FnScope ["value"] ["value"] (defScope sPr) := ⟨rfl, rfl, rfl, by decide +kernel, rfl, by decide +kernel, by decide +kernel⟩
theorem ok_pr {f : Addr} {fd : FuncData} (F : Fun K "is_prime" "is_prime" sPr f fd) (N : NN mg) (S : HIsI P w K mg base) (L : HLf P w K mg base) :
    FnOk P w K mg base CX0 3 f fd ["value"] spPr := by
  obtain ⟨fS, dS, GS, mS, kS, bS⟩ := S
  obtain ⟨fL, dL, GL, mL, kL, bL⟩ := L
  obtain ⟨tk, hM⟩ := N.mf
  refine F.ok scPr (fun vs H Q E h => ?_) (fun cdv A outer s H vs Q E hr h => ?_)
  · obtain ⟨y, rfl, _⟩ := h
    rfl
  · obtain ⟨i, rfl, hp, k⟩ := h
    obtain ⟨p2, p37⟩ := pr_bd hp
    refine ⟨_, pss_cons (ps_if (PW.pt (pw_or (pt_not (pt_val (pe_call GS (hr.mono (by decide)) rfl mS kS bS .nil pass0 (pa_cons (pv 0) pa_nil)))) (pw_or (pt_cmpR op_lt (pv 0) pe_int (nomark _)) (pw_or1 (pt_cmpR op_gt (pv 0) (pe_glob rfl hM (show RelV (.int 1000000000) (.int 1000000000 tk) from ⟨_, rfl⟩)) (nomark _))))))
        (pss_one (ps_ret pe_bl)) pss_nil)
      (pss_one (ps_ret (pe_cmpR op_eq (pe_call GL (hr.mono (by decide)) rfl mL kL bL .nil pass0 (pa_cons (pv 0) (pa_cons pe_int pa_nil))) (pv 0) (nomark _)))), ?_⟩
    refine ⟨_, rfl, i, rfl, _, rfl, itF (by rw [both (by unfold LONG; omega) (by unfold LONG; omega)]; rfl) ?_⟩
    refine ⟨_, rfl, _, _, rfl, rfl, _, rfl, itF (decide_eq_false (by omega)) ?_⟩
    refine ⟨_, rfl, _, _, rfl, rfl, _, rfl, itF (decide_eq_false (by omega)) ?_⟩
    refine ⟨_, rfl, i, 2, rfl, by omega, by omega, by decide, by decide, _, rfl, rfl, ?_⟩
    rw [pr_lf hp, decide_eq_true rfl]
    exact k
abbrev HPr (P : Program) (w : World) (K : PySem.W.Frag) (mg : Str → Option Value) (base : Heap) : Prop := Has P w K mg base "is_prime" 3 ["value"] spPr
def spCp : Sp := fun vs H Q _ => ∃ p : Int, vs = [.int p] ∧ IsPr p ∧ Q .non H
theorem scCp : FnScope ["prime"] ["prime"] (defScope sCp) := ⟨rfl, rfl, rfl, by decide +kernel, rfl, by decide +kernel, by decide +kernel⟩
theorem ok_cp {f : Addr} {fd : FuncData} (F : Fun K "check_prime" "check_prime" sCp f fd) (N : NN mg) (S : HPr P w K mg base) :
    FnOk P w K mg base CX0 4 f fd ["prime"] spCp := by
  obtain ⟨fS, dS, GS, mS, kS, bS⟩ := S
  obtain ⟨tk, hM⟩ := N.mp
  refine F.ok scCp (fun vs H Q E h => ?_) (fun cdv A outer s H vs Q E hr h => ?_)
  · obtain ⟨y, rfl, _⟩ := h
    rfl
  · obtain ⟨i, rfl, hp, k⟩ := h
    obtain ⟨p2, p37⟩ := pr_bd hp
    refine ⟨_, pss_one (ps_if (PW.pt (pw_or (pt_not (pt_val (pe_call GS hr rfl mS kS bS .nil pass0 (pa_cons (pv 0) pa_nil)))) (pw_or1 (pt_cmpR op_gt (pv 0) (pe_glob rfl hM (show RelV (.int 997) (.int 997 tk) from ⟨_, rfl⟩)) (nomark _)))))
        pss_never pss_nil), ?_⟩
    refine ⟨_, rfl, i, rfl, hp, _, rfl, itF rfl ?_⟩
    exact ⟨_, rfl, _, _, rfl, rfl, _, rfl, itF (decide_eq_false (by omega)) k⟩
end
end Lk

set_option Elab.async false
set_option linter.all false
set_option maxRecDepth 100000
set_option maxHeartbeats 4000000
set_option exponentiation.threshold 10000
namespace Lk
open PySem L2
/-! lists that a comprehension makes -/
def Acc (H1 : Hp) (D : Addr) (f : Nat → List V) (i : Nat) (H : Hp) : Prop := Same H1 H ∧ H D = some (.lst (f i))
theorem Acc.zero {H1 : Hp} {D : Addr} {f : Nat → List V} (hD : H1 D = none) (e : f 0 = []) : Acc H1 D f 0 (upd H1 D (.lst [])) := ⟨same_new hD, by rw [e, upd_same]⟩
theorem Acc.put {H1 H H4 : Hp} {D : Addr} {f : Nat → List V} {i : Nat} {y : V} (a : Acc H1 D f i H) (hD : H1 D = none) (s : Same H H4) (l : (f i).length < sizeLine) (e : f (i + 1) = f i ++ [y]) :
    ∃ acc, H4 D = some (.lst acc) ∧ acc.length < sizeLine ∧ Acc H1 D f (i + 1) (upd H4 D (.lst (acc ++ [y]))) :=
  ⟨f i, s _ _ a.2, l, same_put (Same.tr a.1 s) hD, by rw [upd_same, e]⟩
theorem Acc.skip {H1 H H4 : Hp} {D : Addr} {f : Nat → List V} {i : Nat} (a : Acc H1 D f i H) (s : Same H H4) (e : f (i + 1) = f i) : Acc H1 D f (i + 1) H4 :=
  ⟨Same.tr a.1 s, by rw [e]; exact s _ _ a.2⟩
/-- the numbers below i of which p is true -/
def flt (p : Nat → Bool) (i : Nat) : List V := ((List.range i).filter p).map fun (y : Nat) => V.int (y : Int)
theorem flt_len (p : Nat → Bool) (i : Nat) : (flt p i).length = C74.cn i p := by
  unfold flt
  rw [List.length_map]
  induction i with
  | zero => rfl
  | succ i ih =>
    rw [List.range_succ, List.filter_append, List.length_append, ih]
    show _ = C74.cn i p + (if p i = true then 1 else 0)
    cases e : p i <;> simp [e]
theorem flt_le (p : Nat → Bool) (i : Nat) : (flt p i).length ≤ i := by
  unfold flt
  rw [List.length_map]
  exact Nat.le_trans (List.length_filter_le _ _) (by rw [List.length_range]; exact Nat.le_refl _)
theorem flt_in {p : Nat → Bool} {i : Nat} (h : p i = true) : flt p (i + 1) = flt p i ++ [V.int (i : Int)] := by
  unfold flt
  rw [List.range_succ, List.filter_append, List.map_append]
  simp [h]
theorem flt_no {p : Nat → Bool} {i : Nat} (h : p i = false) : flt p (i + 1) = flt p i := by
  unfold flt
  rw [List.range_succ, List.filter_append, List.map_append]
  simp [h]
/-- five whole numbers as a tuple -/
abbrev vs5 (a1 a2 a3 a4 a6 : Int) : List V := [.int a1, .int a2, .int a3, .int a4, .int a6]
/-- an entry of a cubic -/
abbrev En (a : Int) : Prop := -1000 ≤ a ∧ a ≤ 1000
theorem En.wd {a : Int} (h : En a) : Wd a 10 := ⟨by show a.natAbs < 1024; unfold En at h; omega⟩
section
variable {P : Program} {w : World} {K : PySem.W.Frag} {mg : Str → Option Value} {base : Heap} {C : Addr}
abbrev sIn (j : Nat) : Stmt := inClass (top 21) j
abbrev sEn : Stmt := top 22
abbrev sIv : Stmt := top 23
abbrev sCc : Stmt := top 24
abbrev sCt : Stmt := top 25
def spEn : Sp := fun vs H Q _ => ∃ i : Int, vs = [.int i] ∧ En i ∧ Q (.bl true) H
theorem scEn : FnScope ["value"] ["value"] (defScope sEn) := ⟨rfl, rfl, rfl, by decide +kernel, rfl, by decide +kernel, by decide +kernel⟩
theorem ok_en {f : Addr} {fd : FuncData} (F : Fun K "_is_entry" "_is_entry" sEn f fd) (N : NN mg) (S : HSh P w K mg base) : FnOk P w K mg base CX0 2 f fd ["value"] spEn := by
  obtain ⟨fS, dS, GS, mS, kS, bS⟩ := S
  obtain ⟨tE, hE⟩ := N.me
  refine F.ok scEn (fun vs H Q E h => ?_) (fun cdv A outer s H vs Q E hr h => ?_)
  · obtain ⟨i, rfl, _⟩ := h
    rfl
  · obtain ⟨i, rfl, hi, k⟩ := h
    unfold En at hi
    refine ⟨_, pss_one (ps_ret (pe_and (pe_call GS (hr.mono (by decide)) rfl mS kS bS .nil pass0 (pa_cons (pv 0) pa_nil)) (pe_one (pe_chain op_le op_le (pe_un un_neg (pe_glob rfl hE (show RelV (.int 1000) (.int 1000 tE) from ⟨_, rfl⟩))) (pv 0) (pe_glob rfl hE (show RelV (.int 1000) (.int 1000 tE) from ⟨_, rfl⟩)))))), ?_⟩
    refine ⟨_, rfl, i, rfl, true, ?_, ?_⟩
    · rw [both (by unfold LONG; omega) (by unfold LONG; omega)]
    refine itT rfl ?_
    refine ⟨_, rfl, _, rfl, _, _, rfl, rfl, _, rfl, itT (decide_eq_true hi.1) ?_⟩
    refine ⟨_, _, rfl, rfl, ?_⟩
    show Q (V.bl (decide (i ≤ 1000))) H
    rw [decide_eq_true hi.2]
    exact k
abbrev HEn (P : Program) (w : World) (K : PySem.W.Frag) (mg : Str → Option Value) (base : Heap) : Prop := Has P w K mg base "_is_entry" 2 ["value"] spEn
/-! _invariants -/
def spIv (K : PySem.W.Frag) : Sp := fun vs H Q _ => ∃ (t : Addr) (a1 a2 a3 a4 a6 : Int), vs = [.ref t] ∧ SqT K H t (vs5 a1 a2 a3 a4 a6) ∧ En a1 ∧ En a2 ∧ En a3 ∧ En a4 ∧ En a6 ∧
  ∀ H' p, Same H H' → H p = none → H' p = some (.tup [.int (C74.dis a1 a2 a3 a4 a6), .int (C74.sec a1 a2 a3 a4 a6)]) → Q (.ref p) H'
abbrev nIv : List Str := ["told", "a1", "a2", "a3", "a4", "a6", "b2", "b4", "b6", "b8", "discriminant"]
theorem scIv : FnScope nIv ["told"] (defScope sIv) := ⟨rfl, rfl, rfl, by decide +kernel, rfl, by decide +kernel, by decide +kernel⟩
theorem ok_iv {f : Addr} {fd : FuncData} (F : Fun K "_invariants" "_invariants" sIv f fd) : FnOk P w K mg base CX0 1 f fd ["told"] (spIv K) := by
  refine F.ok scIv (fun vs H Q E h => ?_) (fun cdv A outer s H vs Q E hr h => ?_)
  · obtain ⟨t, a1, a2, a3, a4, a6, rfl, _⟩ := h
    rfl
  · obtain ⟨t, a1, a2, a3, a4, a6, rfl, ht, h1, h2, h3, h4, h6, k⟩ := h
    have w1 := h1.wd
    have w2 := h2.wd
    have w3 := h3.wd
    have w4 := h4.wd
    have w6 := h6.wd
    refine ⟨_, pss_cons (ps_asg (pv 0) (pg_tup rfl (pgs_cons (pg_name (i := 1) scIv.nd rfl (.inl rfl)) (pgs_cons (pg_name (i := 2) scIv.nd rfl (.inl rfl)) (pgs_cons (pg_name (i := 3) scIv.nd rfl (.inl rfl)) (pgs_cons (pg_name (i := 4) scIv.nd rfl (.inl rfl)) (pgs_cons (pg_name (i := 5) scIv.nd rfl (.inl rfl)) pgs_nil)))))))
      (pss_cons (ps_par3 (i := 6) (j := 7) (l := 8) (by rfl) scIv.nd rfl rfl rfl (by decide) (by decide) (by decide) rfl rfl rfl (pa_cons (pe_op op_add (pe_op op_mulW (pv 1) (pv 1)) (pe_op op_mulW pe_int (pv 2))) (pa_cons (pe_op op_add (pe_op op_mulW pe_int (pv 4)) (pe_op op_mulW (pv 1) (pv 3))) (pa_cons (pe_op op_add (pe_op op_mulW (pv 3) (pv 3)) (pe_op op_mulW pe_int (pv 5))) pa_nil))) (by rfl))
      (pss_cons (ps_set (i := 9) scIv.nd rfl (.inl rfl) (pe_op op_sub (pe_op op_add (pe_op op_sub (pe_op op_add (pe_op op_mulW (pe_op op_mulW (pv 1) (pv 1)) (pv 5)) (pe_op op_mulW (pe_op op_mulW pe_int (pv 2)) (pv 5))) (pe_op op_mulW (pe_op op_mulW (pv 1) (pv 3)) (pv 4))) (pe_op op_mulW (pe_op op_mulW (pv 2) (pv 3)) (pv 3))) (pe_op op_mulW (pv 4) (pv 4))))
      (pss_cons (ps_set (i := 10) scIv.nd rfl (.inl rfl) (pe_op op_add (pe_op op_sub (pe_op op_sub (pe_op op_mulW (pe_op op_mulW (pe_un un_neg (pv 6)) (pv 6)) (pv 9)) (pe_op op_mulW (pe_op op_mulW (pe_op op_mulW pe_int (pv 7)) (pv 7)) (pv 7))) (pe_op op_mulW (pe_op op_mulW pe_int (pv 8)) (pv 8))) (pe_op op_mulW (pe_op op_mulW (pe_op op_mulW pe_int (pv 6)) (pv 7)) (pv 8))))
      (pss_one (ps_ret (pe_tup (pa_cons (pv 10) (pa_cons (pe_op op_sub (pe_op op_mulW (pv 6) (pv 6)) (pe_op op_mulW pe_int (pv 7))) pa_nil)))))))), ?_⟩
    refine ⟨_, rfl, t, _, rfl, ht, rfl, _, _, rfl, _, _, rfl, _, _, rfl, _, _, rfl, _, _, rfl, rfl, ?_⟩
    refine ⟨_, rfl, _, rfl, _, _, rfl, rfl, mI, _, rfl, _, _, rfl, rfl, mI, _, _, rfl, rfl, _, rfl, _, _, rfl, rfl, mI, _, rfl, _, rfl, _, _, rfl, rfl, mI, _, _, rfl, rfl, _, rfl, _, rfl, _, _, rfl, rfl, mI, _, rfl, _, _, rfl, rfl, mI, _, _, rfl, rfl, _, _, _, rfl, ?_⟩
    refine ⟨_, rfl, _, rfl, _, _, rfl, rfl, mI, _, rfl, _, _, rfl, rfl, mI, _, rfl, _, _, rfl, rfl, mI, _, rfl, _, _, rfl, rfl, mI, _, _, rfl, rfl, _, rfl, _, rfl, _, _, rfl, rfl, mI, _, rfl, _, _, rfl, rfl, mI, _, _, rfl, rfl, _, rfl, _, rfl, _, _, rfl, rfl, mI, _, rfl, _, _, rfl, rfl, mI, _, _, rfl, rfl, _, rfl, _, rfl, _, _, rfl, rfl, mI, _, _, rfl, rfl, ?_⟩
    refine ⟨_, rfl, _, rfl, _, rfl, _, _, rfl, rfl, mI, _, rfl, _, _, rfl, rfl, mI, _, rfl, _, _, rfl, rfl, mI, _, rfl, _, _, rfl, rfl, mI, _, rfl, _, _, rfl, rfl, mI, _, _, rfl, rfl, _, rfl, _, _, rfl, rfl, mI, _, rfl, _, _, rfl, rfl, mI, _, _, rfl, rfl, _, rfl, _, _, rfl, rfl, mI, _, rfl, _, _, rfl, rfl, mI, _, rfl, _, _, rfl, rfl, mI, _, _, rfl, rfl, ?_⟩
    refine ⟨_, rfl, _, rfl, _, rfl, _, _, rfl, rfl, mI, _, rfl, _, _, rfl, rfl, mI, _, _, rfl, rfl, (by show 2 ≤ sizeLine; decide), fun p hp => ?_⟩
    exact k _ p (same_new hp) hp upd_same
abbrev HIv (P : Program) (w : World) (K : PySem.W.Frag) (mg : Str → Option Value) (base : Heap) : Prop := Has P w K mg base "_invariants" 1 ["told"] (spIv K)
/-! Cubic(a1, .., a6) -/
def cf (t : Addr) (d s : Int) : List (Str × V) := putF "_second" (.int s) (putF "_discriminant" (.int d) (putF "_told_entries" (.ref t) []))
theorem nts : ¬ (("_told_entries" : Str) = "_second") := by decide +kernel
theorem ntd : ¬ (("_told_entries" : Str) = "_discriminant") := by decide +kernel
theorem nds : ¬ (("_discriminant" : Str) = "_second") := by decide +kernel
theorem cf_t (t : Addr) (d s : Int) : (cf t d s).lookup ("_told_entries" : Str) = some (.ref t) := by
  unfold cf
  rw [lookup_putF, if_neg nts, lookup_putF, if_neg ntd, lookup_putF, if_pos rfl]
theorem cf_d (t : Addr) (d s : Int) : (cf t d s).lookup ("_discriminant" : Str) = some (.int d) := by
  unfold cf
  rw [lookup_putF, if_neg nds, lookup_putF, if_pos rfl]
theorem cf_s (t : Addr) (d s : Int) : (cf t d s).lookup ("_second" : Str) = some (.int s) := by
  unfold cf
  rw [lookup_putF, if_pos rfl]
theorem cf_no (t : Addr) (d s : Int) {m : Str} (h1 : ¬ m = "_second") (h2 : ¬ m = "_discriminant") (h3 : ¬ m = "_told_entries") : (cf t d s).lookup m = none := by
  unfold cf
  rw [lookup_putF, if_neg h1, lookup_putF, if_neg h2, lookup_putF, if_neg h3]
  rfl
/-- a cubic at p -/
def CubAt (C : Addr) (H : Hp) (p : Addr) (a1 a2 a3 a4 a6 : Int) : Prop := ∃ dx t, H p = some (.ins C dx (cf t (C74.dis a1 a2 a3 a4 a6) (C74.sec a1 a2 a3 a4 a6))) ∧ H t = some (.tup (vs5 a1 a2 a3 a4 a6))
theorem CubAt.same {C : Addr} {H H' : Hp} {p : Addr} {a1 a2 a3 a4 a6 : Int} (s : Same H H') (h : CubAt C H p a1 a2 a3 a4 a6) : CubAt C H' p a1 a2 a3 a4 a6 := by
  obtain ⟨dx, t, e1, e2⟩ := h
  exact ⟨dx, t, s _ _ e1, s _ _ e2⟩
structure Cb (K : PySem.W.Frag) (mg : Str → Option Value) (C : Addr) : Prop where
  mgC : mg "Cubic" = some (.ref C)
  cl : Cls K C
  nT : NoAttr K C "_told_entries"
  nD : NoAttr K C "_discriminant"
  nS : NoAttr K C "_second"
def spIni (C : Addr) : Sp := fun vs H Q _ => ∃ (p dx : Addr) (a1 a2 a3 a4 a6 : Int), vs = [.ref p, .int a1, .int a2, .int a3, .int a4, .int a6] ∧ H p = some (.ins C dx []) ∧ En a1 ∧ En a2 ∧ En a3 ∧ En a4 ∧ En a6 ∧
  ∀ H' t, But p H H' → H' p = some (.ins C dx (cf t (C74.dis a1 a2 a3 a4 a6) (C74.sec a1 a2 a3 a4 a6))) → H' t = some (.tup (vs5 a1 a2 a3 a4 a6)) → Q .non H'
abbrev nIni : List Str := ["self", "a1", "a2", "a3", "a4", "a6", "told", "entry"]
theorem scIni : FnScope nIni ["self", "a1", "a2", "a3", "a4", "a6"] (defScope (sIn 0)) := ⟨rfl, rfl, rfl, by decide +kernel, rfl, by decide +kernel, by decide +kernel⟩
theorem ok_ini {f : Addr} {fd : FuncData} (F : Fun K "__init__" "Cubic.__init__" (sIn 0) f fd) (N : NN mg) (T : Cb K mg C) (En : HEn P w K mg base) (Iv : HIv P w K mg base) : FnOk P w K mg base CX0 3 f fd ["self", "a1", "a2", "a3", "a4", "a6"] (spIni C) := by
  obtain ⟨fEn, dEn, GEn, mEn, kEn, bEn⟩ := En
  obtain ⟨fIv, dIv, GIv, mIv, kIv, bIv⟩ := Iv
  refine F.ok scIni (fun vs H Q E h => ?_) (fun cdv A outer s H vs Q E hr h => ?_)
  · obtain ⟨p, dx, a1, a2, a3, a4, a6, rfl, _⟩ := h
    rfl
  · obtain ⟨p, dx, a1, a2, a3, a4, a6, rfl, hp, h1, h2, h3, h4, h6, k⟩ := h
    refine ⟨_, pss_cons (ps_set (i := 6) scIni.nd rfl (.inl rfl) (pe_tup (pa_cons (pv 1) (pa_cons (pv 2) (pa_cons (pv 3) (pa_cons (pv 4) (pa_cons (pv 5) pa_nil)))))))
      (pss_cons (ps_if (pt_not (pt_val (pe_callB (cr_all rfl) (by rfl) N.all (by decide +kernel) (pa_cons (pe_lc (own := [("entry", 7)]) (g := gName 7) (tt := tYes) rfl scIni.nd (pi_tup (pv 6)) (blkOk_by (own := [("entry", 7)]) (N := nIni) (sc := defScope (sIn 0)) (by decide +kernel)) (fun _ _ _ _ _ => (pg_name (i := 7) scIni.nd rfl (.inl rfl))) (fun _ _ _ _ _ => pts_nil) (fun _ _ _ _ _ => (pe_call GEn (hr.mono (by decide)) rfl mEn kEn bEn .nil pass0 (pa_cons (pv 7) pa_nil)))) pa_nil)))) pss_never pss_nil)
      (pss_cons (ps_fld (pv 0) (pv 6) rfl)
      (pss_one (ps_asg (pe_call GIv (hr.mono (by decide)) rfl mIv kIv bIv .nil pass0 (pa_cons (pv 6) pa_nil)) (pg_tup rfl (pgs_cons (pg_fld (pv 0)) (pgs_cons (pg_fld (pv 0)) pgs_nil))))))), ?_⟩
    refine ⟨_, rfl, _, rfl, _, rfl, _, rfl, _, rfl, (by show 5 ≤ sizeLine; decide), fun t ht => ?_⟩
    have npt : p ≠ t := ne_of_none hp ht
    refine ⟨_, rfl, t, rfl, ⟨_, SqT.of upd_same⟩, fun D hD => ?_⟩
    refine lc_tup (xs := vs5 a1 a2 a3 a4 a6) (Acc (upd H t (.tup (vs5 a1 a2 a3 a4 a6))) D fun i => (List.replicate i true).map V.bl) (Acc.zero hD rfl) ?_ ?_ ?_
    · intro i H' _ a
      exact SqT.of (a.1 _ _ upd_same)
    · intro i x H' hx a
      have hl : i < 5 := (List.getElem?_eq_some_iff.mp hx).1
      have hv : ∃ n : Int, x = .int n ∧ En n := by
        match i, hx with
        | 0, hx => cases hx; exact ⟨_, rfl, h1⟩
        | 1, hx => cases hx; exact ⟨_, rfl, h2⟩
        | 2, hx => cases hx; exact ⟨_, rfl, h3⟩
        | 3, hx => cases hx; exact ⟨_, rfl, h4⟩
        | 4, hx => cases hx; exact ⟨_, rfl, h6⟩
      obtain ⟨n, rfl, hn⟩ := hv
      refine ⟨rfl, ?_⟩
      refine ⟨_, rfl, n, rfl, hn, a.put hD (same_refl _) ?_ ?_⟩
      · rw [List.length_map, List.length_replicate]; exact Nat.lt_trans hl (by decide)
      · rw [List.replicate_succ', List.map_append]; rfl
    · intro H' a
      refine ⟨D, _, rfl, SqL.of a.2, ?_⟩
      refine ⟨_, rfl, itF rfl ?_⟩
      have hp' : H' p = some (.ins C dx []) := a.1 _ _ (by rw [upd_ne npt]; exact hp)
      have ht' : H' t = some (.tup (vs5 a1 a2 a3 a4 a6)) := a.1 _ _ upd_same
      refine ⟨_, rfl, _, rfl, p, C, dx, [], rfl, hp', T.cl, T.nT, (by show 0 < 1000; decide), ?_⟩
      have ntp : t ≠ p := fun z => npt z.symm
      refine ⟨_, rfl, t, a1, a2, a3, a4, a6, rfl, SqT.of (by rw [upd_ne ntp]; exact ht'), h1, h2, h3, h4, h6, fun H2 q s2 nq hq => ?_⟩
      have hp2 := s2 p _ upd_same
      have ht2 := s2 t _ (by rw [upd_ne ntp]; exact ht')
      refine ⟨q, _, rfl, .inl (.inl hq), rfl, _, _, rfl, ?_⟩
      refine ⟨_, rfl, p, C, dx, _, rfl, hp2, T.cl, T.nD, (by show 1 < 1000; decide), _, _, rfl, ?_⟩
      refine ⟨_, rfl, p, C, dx, _, rfl, upd_same, T.cl, T.nS, (by show 2 < 1000; decide), rfl, ?_⟩
      refine k _ t (fun b o nb e => ?_) upd_same (by rw [upd_ne ntp, upd_ne ntp]; exact ht2)
      rw [upd_ne nb, upd_ne nb]
      refine s2 b o ?_
      rw [upd_ne nb]
      exact a.1 b o (same_new ht b o e)
/-! checks and counts -/
theorem scCc : FnScope ["prime"] ["prime"] (defScope sCc) := ⟨rfl, rfl, rfl, by decide +kernel, rfl, by decide +kernel, by decide +kernel⟩
theorem ok_cc {f : Addr} {fd : FuncData} (F : Fun K "_check_counted" "_check_counted" sCc f fd) (N : NN mg) (Cp : Has P w K mg base "check_prime" 4 ["prime"] spCp) : FnOk P w K mg base CX0 5 f fd ["prime"] spCp := by
  obtain ⟨fCp, dCp, GCp, mCp, kCp, bCp⟩ := Cp
  obtain ⟨tC, hC⟩ := N.mc
  refine F.ok scCc (fun vs H Q E h => ?_) (fun cdv A outer s H vs Q E hr h => ?_)
  · obtain ⟨i, rfl, _⟩ := h
    rfl
  · obtain ⟨i, rfl, hi, k⟩ := h
    obtain ⟨p2, p37⟩ := pr_bd hi
    refine ⟨_, pss_cons (ps_expr (pe_call GCp (hr.mono (by decide)) rfl mCp kCp bCp .nil pass0 (pa_cons (pv 0) pa_nil)))
      (pss_one (ps_if (pt_cmpR op_gt (pv 0) (pe_glob rfl hC (show RelV (.int 97) (.int 97 tC) from ⟨_, rfl⟩)) (nomark _)) pss_never pss_nil)), ?_⟩
    refine ⟨_, rfl, i, rfl, hi, ?_⟩
    exact ⟨_, rfl, _, _, rfl, rfl, _, rfl, itF (decide_eq_false (by omega)) k⟩
def spCt (K : PySem.W.Frag) : Sp := fun vs H Q _ => ∃ (t : Addr) (a1 a2 a3 a4 a6 : Int) (n : Nat), vs = [.ref t, .int n] ∧ SqT K H t (vs5 a1 a2 a3 a4 a6) ∧ En a1 ∧ En a2 ∧ En a3 ∧ En a4 ∧ En a6 ∧ 0 < n ∧ n ≤ 37 ∧
  ∀ H', Same H H' → Q (.int (C74.pts n a1 a2 a3 a4 a6 : Nat)) H'
abbrev nCt : List Str := ["told", "prime", "a1", "a2", "a3", "a4", "a6", "many", "x", "factor", "right", "y"]
theorem scCt : FnScope nCt ["told", "prime"] (defScope sCt) := ⟨rfl, rfl, rfl, by decide +kernel, rfl, by decide +kernel, by decide +kernel⟩
theorem ok_ct {f : Addr} {fd : FuncData} (F : Fun K "_count_points" "_count_points" sCt f fd) (N : NN mg) : FnOk P w K mg base CX0 1 f fd ["told", "prime"] (spCt K) := by
  refine F.ok scCt (fun vs H Q E h => ?_) (fun cdv A outer s H vs Q E hr h => ?_)
  · obtain ⟨t, a1, a2, a3, a4, a6, n, rfl, _⟩ := h
    rfl
  · obtain ⟨t, a1, a2, a3, a4, a6, n, rfl, ht, h1, h2, h3, h4, h6, n0, n37, k⟩ := h
    have w1 := h1.wd
    have w2 := h2.wd
    have w3 := h3.wd
    have w4 := h4.wd
    have w6 := h6.wd
    refine ⟨_, pss_cons (ps_asg (pv 0) (pg_tup rfl (pgs_cons (pg_name (i := 2) scCt.nd rfl (.inl rfl)) (pgs_cons (pg_name (i := 3) scCt.nd rfl (.inl rfl)) (pgs_cons (pg_name (i := 4) scCt.nd rfl (.inl rfl)) (pgs_cons (pg_name (i := 5) scCt.nd rfl (.inl rfl)) (pgs_cons (pg_name (i := 6) scCt.nd rfl (.inl rfl)) pgs_nil)))))))
      (pss_cons (ps_set (i := 7) scCt.nd rfl (.inl rfl) pe_int)
      (pss_cons (ps_for PassesOwn.never rfl (pi_range1 rfl N.range (pa_cons (pv 1) pa_nil)) (pg_name (i := 8) scCt.nd rfl (.inl rfl)) (pss_cons (ps_asg (pe_tup (pa_cons (pe_op op_add (pe_op op_mulW (pv 2) (pv 8)) (pv 4)) (pa_cons (pe_op op_add (pe_op op_add (pe_op op_add (pe_op op_mulW (pe_op op_mulW (pv 8) (pv 8)) (pv 8)) (pe_op op_mulW (pe_op op_mulW (pv 3) (pv 8)) (pv 8))) (pe_op op_mulW (pv 5) (pv 8))) (pv 6)) pa_nil))) (pg_tup rfl (pgs_cons (pg_name (i := 9) scCt.nd rfl (.inr rfl)) (pgs_cons (pg_name (i := 10) scCt.nd rfl (.inr rfl)) pgs_nil))))
      (pss_one (ps_set (i := 7) scCt.nd rfl (.inl rfl) (pe_op op_add (pv 7) (pe_callB call_len_seq (by rfl) N.len (by decide +kernel) (pa_cons (pe_lc (own := [("y", 11)]) (g := gName 11) rfl scCt.nd (pi_range1 rfl N.range (pa_cons (pv 1) pa_nil)) (blkOk_by (own := [("y", 11)]) (N := nCt) (sc := defScope sCt) (by decide +kernel)) (fun _ _ _ _ _ => (pg_name (i := 11) scCt.nd rfl (.inl rfl))) (fun _ _ _ _ _ => (pts_one (pt_cmpR op_eq (pe_op op_modN (pe_op op_sub (pe_op op_add (pe_op op_mulW (pv 11) (pv 11)) (pe_op op_mulW (pv 9) (pv 11))) (pv 10)) (pv 1)) pe_int (nomark _)))) (fun _ _ _ _ _ => (pv 11))) pa_nil)))))))
      (pss_one (ps_ret (pv 7))))), ?_⟩
    refine ⟨_, rfl, t, _, rfl, ht, rfl, _, _, rfl, _, _, rfl, _, _, rfl, _, _, rfl, _, _, rfl, rfl, ?_⟩
    refine ⟨_, rfl, _, rfl, by omega, by omega, for_range (fun i σ H' => ∃ u1 u2 u3 u4 : Option V, σ = [some (.ref t), some (.int n), some (.int a1), some (.int a2), some (.int a3), some (.int a4), some (.int a6), some (.int (C74.tot i fun x => C74.cn n fun y => decide (C74.fF a1 a2 a3 a4 a6 (x : Nat) (y : Nat) % (n : Nat) = 0) : Nat)), u1, u2, u3, none] ∧ Same H H') ⟨none, none, none, none, rfl, same_refl H⟩ ?_ ?_⟩
    · rintro i σ H' hi ⟨u1, u2, u3, u4, rfl, sm⟩
      have wx : Wd ((i : Nat) : Int) 6 := ⟨by show (i : Int).natAbs < 64; omega⟩
      have hp0 : ((n : Nat) : Int) ≠ 0 := by omega
      simp only [Int.zero_add]
      refine ⟨_, rfl, _, rfl, _, _, rfl, rfl, mI, _, rfl, _, _, rfl, rfl, _, rfl, _, rfl, _, _, rfl, rfl, mI, _, rfl, _, _, rfl, rfl, mI, _, rfl, _, rfl, _, _, rfl, rfl, mI, _, rfl, _, _, rfl, rfl, mI, _, _, rfl, rfl, _, rfl, _, rfl, _, _, rfl, rfl, mI, _, _, rfl, rfl, _, rfl, _, _, rfl, rfl, (by show 2 ≤ sizeLine; decide), fun q hq => ?_⟩
      refine ⟨q, _, rfl, .inl (.inl upd_same), rfl, _, _, rfl, _, _, rfl, rfl, ?_⟩
      have S1 : Same H' (upd H' q (.tup [V.int (a1 * (i : Int) + a3), V.int ((i : Int) * (i : Int) * (i : Int) + a2 * (i : Int) * (i : Int) + a4 * (i : Int) + a6)])) := same_new hq
      refine ⟨_, rfl, _, rfl, _, rfl, by omega, by omega, fun D hD => ?_⟩
      refine lc_range (Acc _ D (flt fun y => decide (C74.fF a1 a2 a3 a4 a6 (i : Nat) (y : Nat) % (n : Nat) = 0))) (Acc.zero hD rfl) ?_ ?_
      · intro y H2 hy a
        have wy : Wd ((y : Nat) : Int) 6 := ⟨by show (y : Int).natAbs < 64; omega⟩
        simp only [Int.zero_add]
        refine ⟨rfl, ?_⟩
        refine ⟨_, rfl, _, rfl, _, _, rfl, rfl, mI, _, rfl, _, rfl, _, _, rfl, rfl, mI, _, _, rfl, rfl, _, rfl, _, _, rfl, rfl, _, rfl, _, _, rfl, rfl, hp0, rfl, _, rfl, ?_⟩
        have ev : ((y : Int) * (y : Int) + (a1 * (i : Int) + a3) * (y : Int) - ((i : Int) * (i : Int) * (i : Int) + a2 * (i : Int) * (i : Int) + a4 * (i : Int) + a6)).fmod ((n : Nat) : Int) = C74.fF a1 a2 a3 a4 a6 (i : Nat) (y : Nat) % (n : Nat) := by
          rw [Int.fmod_eq_emod_of_nonneg _ (by omega)]
          congr 1
          unfold C74.fF
          grind
        by_cases c : C74.fF a1 a2 a3 a4 a6 (i : Nat) (y : Nat) % (n : Nat) = 0
        · refine itT (decide_eq_true ?_) ⟨_, rfl, a.put hD (same_refl _) ?_ (flt_in (decide_eq_true c))⟩
          · show V.int _ = V.int 0
            rw [ev, c]
          · exact Nat.lt_of_le_of_lt (flt_le _ _) (Nat.lt_of_lt_of_le (show y < 1000 by omega) (by decide))
        · refine itF (decide_eq_false ?_) (a.skip (same_refl _) (flt_no (decide_eq_false c)))
          intro z
          have z := V.int.inj z
          rw [ev] at z
          exact c z
      · intro H2 a
        refine ⟨D, _, rfl, .inl (SqL.of a.2), _, _, rfl, rfl, ?_⟩
        refine ⟨some (.int (i : Nat)), some (.int (a1 * (i : Int) + a3)), some (.int ((i : Int) * (i : Int) * (i : Int) + a2 * (i : Int) * (i : Int) + a4 * (i : Int) + a6)), none, ?_, Same.tr sm (Same.tr S1 a.1)⟩
        rw [flt_len]
        rfl
    · rintro σ H' ⟨u1, u2, u3, u4, rfl, sm⟩
      exact ⟨_, rfl, k H' sm⟩
abbrev HCc (P : Program) (w : World) (K : PySem.W.Frag) (mg : Str → Option Value) (base : Heap) : Prop := Has P w K mg base "_check_counted" 5 ["prime"] spCp
abbrev HCt (P : Program) (w : World) (K : PySem.W.Frag) (mg : Str → Option Value) (base : Heap) : Prop := Has P w K mg base "_count_points" 1 ["told", "prime"] (spCt K)
/-! the methods -/
def spTr (C : Addr) : Sp := fun vs H Q _ => ∃ (p : Addr) (a1 a2 a3 a4 a6 : Int) (n : Nat), vs = [.ref p, .int n] ∧ CubAt C H p a1 a2 a3 a4 a6 ∧ En a1 ∧ En a2 ∧ En a3 ∧ En a4 ∧ En a6 ∧ n ∈ C74.PR ∧
  ∀ H', Same H H' → Q (.int ((n : Int) - (C74.pts n a1 a2 a3 a4 a6 : Nat))) H'
theorem scTr : FnScope ["self", "prime"] ["self", "prime"] (defScope (sIn 10)) := ⟨rfl, rfl, rfl, by decide +kernel, rfl, by decide +kernel, by decide +kernel⟩
theorem ok_tr {f : Addr} {fd : FuncData} (F : Fun K "trace_at" "Cubic.trace_at" (sIn 10) f fd) (T : Cb K mg C) (Cc : HCc P w K mg base) (Ct : HCt P w K mg base) : FnOk P w K mg base CX0 6 f fd ["self", "prime"] (spTr C) := by
  obtain ⟨fCc, dCc, GCc, mCc, kCc, bCc⟩ := Cc
  obtain ⟨fCt, dCt, GCt, mCt, kCt, bCt⟩ := Ct
  refine F.ok scTr (fun vs H Q E h => ?_) (fun cdv A outer s H vs Q E hr h => ?_)
  · obtain ⟨p, a1, a2, a3, a4, a6, n, rfl, _⟩ := h
    rfl
  · obtain ⟨p, a1, a2, a3, a4, a6, n, rfl, ⟨dx, t, hp, ht⟩, h1, h2, h3, h4, h6, hn, k⟩ := h
    obtain ⟨n2, n37⟩ := pr_bd ⟨n, hn, rfl⟩
    refine ⟨_, pss_cons (ps_expr (pe_call GCc (hr.mono (by decide)) rfl mCc kCc bCc .nil pass0 (pa_cons (pv 1) pa_nil)))
      (pss_one (ps_ret (pe_op op_sub (pv 1) (pe_call GCt (hr.mono (by decide)) rfl mCt kCt bCt .nil pass0 (pa_cons (pe_fld (pv 0) rfl) (pa_cons (pv 1) pa_nil)))))), ?_⟩
    refine ⟨_, rfl, n, rfl, ⟨n, hn, rfl⟩, ?_⟩
    refine ⟨_, rfl, _, rfl, p, C, dx, _, _, rfl, hp, T.cl, T.nT, cf_t _ _ _, _, rfl, t, a1, a2, a3, a4, a6, n, rfl, SqT.of ht, h1, h2, h3, h4, h6, by omega, by omega, fun H' s' => ?_⟩
    exact ⟨_, _, rfl, rfl, k H' s'⟩
/-- the kind of a cubic at a prime -/
def kd (n : Nat) (a1 a2 a3 a4 a6 : Int) : V := if C74.dis a1 a2 a3 a4 a6 % (n : Nat) = 0 then (if C74.sec a1 a2 a3 a4 a6 % (n : Nat) = 0 then .str "cusp" else .str "node") else .str "good"
def spKi (C : Addr) : Sp := fun vs H Q _ => ∃ (p : Addr) (a1 a2 a3 a4 a6 : Int) (n : Nat), vs = [.ref p, .int n] ∧ CubAt C H p a1 a2 a3 a4 a6 ∧ n ∈ C74.PR ∧ Q (kd n a1 a2 a3 a4 a6) H
theorem scKi : FnScope ["self", "prime"] ["self", "prime"] (defScope (sIn 11)) := ⟨rfl, rfl, rfl, by decide +kernel, rfl, by decide +kernel, by decide +kernel⟩
theorem fm {a : Int} {n : Nat} : a.fmod (n : Int) = a % (n : Int) := Int.fmod_eq_emod_of_nonneg _ (by omega)
theorem ok_ki {f : Addr} {fd : FuncData} (F : Fun K "kind_at" "Cubic.kind_at" (sIn 11) f fd) (T : Cb K mg C) (Cc : HCc P w K mg base) : FnOk P w K mg base CX0 6 f fd ["self", "prime"] (spKi C) := by
  obtain ⟨fCc, dCc, GCc, mCc, kCc, bCc⟩ := Cc
  refine F.ok scKi (fun vs H Q E h => ?_) (fun cdv A outer s H vs Q E hr h => ?_)
  · obtain ⟨p, a1, a2, a3, a4, a6, n, rfl, _⟩ := h
    rfl
  · obtain ⟨p, a1, a2, a3, a4, a6, n, rfl, ⟨dx, t, hp, ht⟩, hn, k⟩ := h
    obtain ⟨n2, n37⟩ := pr_bd ⟨n, hn, rfl⟩
    have hp0 : ((n : Nat) : Int) ≠ 0 := by omega
    refine ⟨_, pss_cons (ps_expr (pe_call GCc (hr.mono (by decide)) rfl mCc kCc bCc .nil pass0 (pa_cons (pv 1) pa_nil)))
      (pss_cons (ps_if (pt_cmpR op_ne (pe_op op_modN (pe_fld (pv 0) rfl) (pv 1)) pe_int (nomark _)) (pss_one (ps_ret pe_str)) pss_nil)
      (pss_one (ps_ret (pe_ifExp (pt_cmpR op_eq (pe_op op_modN (pe_fld (pv 0) rfl) (pv 1)) pe_int (nomark _)) pe_str pe_str)))), ?_⟩
    refine ⟨_, rfl, n, rfl, ⟨n, hn, rfl⟩, ?_⟩
    refine ⟨_, rfl, p, C, dx, _, _, rfl, hp, T.cl, T.nD, cf_d _ _ _, _, rfl, _, _, rfl, rfl, hp0, rfl, _, rfl, ?_⟩
    unfold kd at k
    by_cases c : C74.dis a1 a2 a3 a4 a6 % (n : Nat) = 0
    · rw [if_pos c] at k
      refine itF (by show (!decide (V.int (Int.fmod _ _) = V.int 0)) = false; rw [fm, c]; rfl) ?_
      refine ⟨_, rfl, p, C, dx, _, _, rfl, hp, T.cl, T.nS, cf_s _ _ _, _, rfl, _, _, rfl, rfl, hp0, rfl, _, rfl, ?_⟩
      by_cases c2 : C74.sec a1 a2 a3 a4 a6 % (n : Nat) = 0
      · rw [if_pos c2] at k
        exact itT (decide_eq_true (by show V.int (Int.fmod _ _) = V.int 0; rw [fm, c2])) k
      · rw [if_neg c2] at k
        exact itF (decide_eq_false (fun z => c2 (by have z := V.int.inj z; rw [fm] at z; exact z))) k
    · rw [if_neg c] at k
      refine itT ?_ k
      show (!decide (V.int (Int.fmod _ _) = V.int 0)) = true
      rw [fm, decide_eq_false (fun z => c (V.int.inj z))]
      rfl
end
end Lk

set_option Elab.async false
set_option linter.all false
set_option maxRecDepth 100000
set_option maxHeartbeats 4000000
set_option exponentiation.threshold 10000
namespace Lk
open PySem L2
theorem dp_ints {K : PySem.W.Frag} {H : Hp} : ∀ ns : List Int, DpAll K H (ns.map V.int) (ns.map PyData.int)
  | [] => .nil
  | n :: ns => .cons (.int n) (dp_ints ns)
theorem d_ints : ∀ ns : List Int, PyData.canLayAll0 (ns.map PyData.int) = true ∧ PyData.depthAll (ns.map PyData.int) ≤ 1
  | [] => ⟨rfl, by simp [PyData.depthAll]⟩
  | n :: ns => by
    obtain ⟨a, b⟩ := d_ints ns
    refine ⟨by rw [List.map_cons, PyData.canLayAll0, a]; rfl, ?_⟩
    rw [List.map_cons, PyData.depthAll]
    simp only [PyData.depth]
    omega
theorem sh_ints (ns : List Int) : SeqAt.shaped (.list (ns.map PyData.int)) = true ∧ PyData.eqv (.list (ns.map PyData.int)) (.list (ns.map PyData.int)) = true := by
  obtain ⟨a, b⟩ := d_ints ns
  have c : PyData.canLay0 (.list (ns.map PyData.int)) = true := by rw [PyData.canLay0]; exact a
  refine ⟨?_, SeqAt.eqv_refl _ c⟩
  unfold SeqAt.shaped
  rw [c, Bool.true_and]
  refine decide_eq_true ?_
  simp only [PyData.depth]
  omega

/-- a comprehension's list of whole numbers that dice at p tell -/
def AccR (p : Addr) (H1 : Hp) (D : Addr) (B : Int → Prop) (i : Nat) (H : Hp) : Prop := Kq p H1 H ∧ DicAt H p ∧ ∃ xs : List Int, xs.length = i ∧ (∀ x ∈ xs, B x) ∧ H D = some (.lst (xs.map V.int))
theorem AccR.zero {p : Addr} {H1 : Hp} {D : Addr} {B : Int → Prop} (h : DicAt H1 p) (hD : H1 D = none) : AccR p H1 D B 0 (upd H1 D (.lst [])) :=
  ⟨kq_same (same_new hD), dic_same (same_new hD) h, [], rfl, (fun _ z => nomatch z), upd_same⟩
theorem AccR.put {p : Addr} {H1 H H4 : Hp} {D : Addr} {B : Int → Prop} {i : Nat} {y : Int} (a : AccR p H1 D B i H) (h1 : DicAt H1 p) (hD : H1 D = none) (k : Kq p H H4) (d : DicAt H4 p) (hy : B y) (l : i < 1000) :
    ∃ acc, H4 D = some (.lst acc) ∧ acc.length < sizeLine ∧ AccR p H1 D B (i + 1) (upd H4 D (.lst (acc ++ [.int y]))) := by
  obtain ⟨k1, _, xs, e, hb, hx⟩ := a
  obtain ⟨_, _, _, hp⟩ := h1
  have nD : D ≠ p := fun z => by rw [z, hp] at hD; cases hD
  obtain ⟨a1, b1, c1, h4⟩ := d
  refine ⟨_, k D _ nD hx, ?_, fun b o nb eb => ?_, ⟨a1, b1, c1, by rw [upd_ne (fun z => nD z.symm)]; exact h4⟩, xs ++ [y], ?_, ?_, ?_⟩
  · rw [List.length_map, e]; exact Nat.lt_of_lt_of_le l (by decide)
  · rw [upd_ne (fun z => by rw [z, hD] at eb; cases eb)]
    exact k b o nb (k1 b o nb eb)
  · rw [List.length_append, e]; rfl
  · intro x hx
    rcases List.mem_append.mp hx with z | z
    · exact hb x z
    · rw [List.mem_singleton.mp z]; exact hy
  · rw [upd_same, List.map_append]; rfl
section
variable {P : Program} {w : World} {K : PySem.W.Frag} {mg : Str → Option Value} {base : Heap} {C : Addr}
abbrev sDic : Stmt := top 27
def spDic (K : PySem.W.Frag) : Sp := fun vs H Q _ => ∃ (a : Addr) (ns : List Int) (i : Nat), vs = [.ref a, .int i] ∧ SqL K H a (ns.map V.int) ∧ i < 64 ∧ ∀ (p : Addr) (x y : Int), H p = none → Q (.ref p) (upd H p (.lst [.int x, .int y, .int 0]))
abbrev nDic : List Str := ["_law_script", "_law_spot", "_law_cell", "_law_left"]
theorem scDic : FnScope nDic ["_law_script", "_law_spot"] (defScope sDic) := ⟨rfl, rfl, rfl, by decide +kernel, rfl, by decide +kernel, by decide +kernel⟩
theorem ok_dic {f : Addr} {fd : FuncData} (F : Fun K "_law_dice" "_law_dice" sDic f fd) (B : Bl mg) :
    FnOk P w K mg base CX0 1 f fd ["_law_script", "_law_spot"] (spDic K) := by
  refine F.ok scDic (fun vs H Q E h => ?_) (fun cdv A outer s H vs Q E hr h => ?_)
  · obtain ⟨a, ns, i, rfl, _⟩ := h
    rfl
  · obtain ⟨a, ns, i, rfl, hS, hi, k⟩ := h
    refine ⟨_, pss_cons (ps_set (i := 2) scDic.nd rfl (.inl rfl) (pe_ifExp (pt_cmpR op_lt (pv 1) (pe_callB call_len_seq (by rfl) B.len (by decide +kernel) (pa_cons (pv 0) pa_nil)) (nomark _))
        (pe_callTy call_int1 (by rfl) B.int PyProof.Rows.boot_int (pa_cons (pe_ix ix_list (pv 0) (pv 1) (fun _ _ => rfl)) pa_nil)) (pe_op op_add (pe_op op_mul pe_int (pv 1)) pe_int)))
      (pss_cons (ps_set (i := 3) scDic.nd rfl (.inl rfl) (pe_op op_modN (pe_callB (call_max2 rfl) (by rfl) B.max (by decide +kernel) (pa_cons pe_int (pa_cons (pe_op op_sub (pe_callB call_abs (by rfl) B.abs PyProof.Rows.boot_abs (pa_cons (pv 2) pa_nil)) (pe_op op_pow pe_int pe_int)) pa_nil)))
        (pe_op op_mulW (pe_op op_pow pe_int pe_int) (pe_op op_pow pe_int pe_int))))
      (pss_one (ps_ret (pe_lst (pa_cons (pv 3) (pa_cons (pe_op op_add (pe_op op_add (pe_op op_add (pe_op op_mul (pe_op op_modN (pe_callB call_abs (by rfl) B.abs PyProof.Rows.boot_abs (pa_cons (pv 2) pa_nil)) pe_int) pe_int) (pe_op op_mul pe_int (pv 1)))
        (pe_op op_mul pe_int (pe_callTy call_int1 (by rfl) B.int PyProof.Rows.boot_int (pa_cons (pe_cmpR op_lt (pv 2) pe_int (nomark _)) pa_nil)))) pe_int) (pa_cons pe_int pa_nil))))))), ?_⟩
    refine ⟨_, rfl, _, rfl, a, _, rfl, .inl hS, _, _, rfl, rfl, _, rfl, ?_⟩
    rw [List.length_map]
    by_cases c : (i : Int) < (ns.length : Int)
    · obtain ⟨z, hz⟩ : ∃ z, ns[i]? = some z := ⟨ns[i]'(by omega), List.getElem?_eq_getElem (by omega)⟩
      refine itT (decide_eq_true c) ?_
      refine ⟨_, rfl, _, rfl, a, _, i, _, rfl, rfl, hS, atI_nat (by rw [List.getElem?_map, hz]; rfl), .inl ⟨z, rfl, ?_⟩⟩
      refine ⟨_, rfl, z, rfl, _, _, rfl, rfl, ⟨by decide, by decide, by decide⟩, _, _, rfl, rfl, _, _, rfl, _, _, rfl, rfl, ⟨by decide, by decide, by decide⟩, _, _, rfl, rfl, ⟨by decide, by decide, by decide⟩, _, _, rfl, rfl,
        wide_mul (a := 200) (b := 200) (by decide) (by decide) (by decide) (by decide) (by decide), _, _, rfl, rfl, (by show (_ : Int) ≠ 0; decide), ?_⟩
      refine ⟨_, rfl, _, rfl, z, rfl, _, _, rfl, rfl, (by show (_ : Int) ≠ 0; decide), _, _, rfl, rfl, .inr ⟨by decide, by decide⟩, _, rfl, _, _, rfl, rfl, .inl ⟨by decide, by decide⟩, _, _, rfl, rfl, ?_⟩
      exact ⟨_, rfl, _, _, rfl, rfl, .inr ⟨_, rfl, _, _, rfl, rfl, .inl ⟨by decide, by decide⟩, _, _, rfl, rfl, _, _, rfl, rfl, (by show 3 ≤ sizeLine; decide), fun p hp => k p _ _ hp⟩⟩
    · refine itF (decide_eq_false c) ?_
      refine ⟨_, rfl, _, _, rfl, rfl, .inl ⟨by decide, by decide⟩, _, _, rfl, rfl, ?_⟩
      refine ⟨_, rfl, (71 * (i : Int) + 23), rfl, _, _, rfl, rfl, ⟨by decide, by decide, by decide⟩, _, _, rfl, rfl, _, _, rfl, _, _, rfl, rfl, ⟨by decide, by decide, by decide⟩, _, _, rfl, rfl, ⟨by decide, by decide, by decide⟩, _, _, rfl, rfl,
        wide_mul (a := 200) (b := 200) (by decide) (by decide) (by decide) (by decide) (by decide), _, _, rfl, rfl, (by show (_ : Int) ≠ 0; decide), ?_⟩
      refine ⟨_, rfl, _, rfl, (71 * (i : Int) + 23), rfl, _, _, rfl, rfl, (by show (_ : Int) ≠ 0; decide), _, _, rfl, rfl, .inr ⟨by decide, by decide⟩, _, rfl, _, _, rfl, rfl, .inl ⟨by decide, by decide⟩, _, _, rfl, rfl, ?_⟩
      exact ⟨_, rfl, _, _, rfl, rfl, .inr ⟨_, rfl, _, _, rfl, rfl, .inl ⟨by decide, by decide⟩, _, _, rfl, rfl, _, _, rfl, rfl, (by show 3 ≤ sizeLine; decide), fun p hp => k p _ _ hp⟩⟩

abbrev sCu : Stmt := top 30
abbrev sHo : Stmt := top 31
abbrev sHt : Stmt := top 32
abbrev sHn : Stmt := top 33
abbrev sHk : Stmt := top 34
abbrev sSg : Stmt := top 35
abbrev sAr : Stmt := top 36
/-! a drawn cubic -/
def spCu : Sp := fun vs H Q _ => ∃ p : Addr, vs = [.ref p] ∧ DicAt H p ∧
  ∀ (H' : Hp) (t : Addr) (a1 a2 a3 a4 a6 : Int), Kq p H H' → DicAt H' p → t ≠ p → H' t = some (.tup (vs5 a1 a2 a3 a4 a6)) → En a1 → En a2 → En a3 → En a4 → En a6 → Q (.ref t) H'
theorem five {xs : List Int} {B : Int → Prop} (l : xs.length = 5) (h : ∀ x ∈ xs, B x) : ∃ a1 a2 a3 a4 a6, xs = [a1, a2, a3, a4, a6] ∧ B a1 ∧ B a2 ∧ B a3 ∧ B a4 ∧ B a6 := by
  match xs, l, h with
  | [a, b, c, d, e], _, h => exact ⟨a, b, c, d, e, rfl, h _ (by simp), h _ (by simp), h _ (by simp), h _ (by simp), h _ (by simp)⟩
abbrev nCu : List Str := ["_law_dice_here", "_law_some", "_law_turn"]
theorem scCu : FnScope nCu ["_law_dice_here"] (defScope sCu) := ⟨rfl, rfl, rfl, by decide +kernel, rfl, by decide +kernel, by decide +kernel⟩
theorem ok_cu {f : Addr} {fd : FuncData} (F : Fun K "_law_hc_cubic" "_law_hc_cubic" sCu f fd) (N : NN mg) (R : HRoll P w K mg base) (Pk : HPick P w K mg base) : FnOk P w K mg base CX0 3 f fd ["_law_dice_here"] spCu := by
  obtain ⟨fR, dR, GR, mR, kR, bR⟩ := R
  obtain ⟨fPk, dPk, GPk, mPk, kPk, bPk⟩ := Pk
  refine F.ok scCu (fun vs H Q E h => ?_) (fun cdv A outer s H vs Q E hr h => ?_)
  · obtain ⟨p, rfl, _⟩ := h
    rfl
  · obtain ⟨p, rfl, ⟨a, b, c, hp⟩, k⟩ := h
    refine ⟨_, pss_cons (ps_set (i := 1) scCu.nd rfl (.inl rfl) (pe_lst (pa_cons (pe_tup (pa_cons pe_int (pa_cons (pe_un un_neg pe_int) (pa_cons pe_int (pa_cons pe_int (pa_cons pe_int pa_nil)))))) (pa_cons (pe_tup (pa_cons pe_int (pa_cons pe_int (pa_cons pe_int (pa_cons (pe_un un_neg pe_int) (pa_cons pe_int pa_nil)))))) (pa_cons (pe_tup (pa_cons pe_int (pa_cons pe_int (pa_cons pe_int (pa_cons (pe_un un_neg pe_int) (pa_cons pe_int pa_nil)))))) (pa_cons (pe_tup (pa_cons pe_int (pa_cons pe_int (pa_cons pe_int (pa_cons (pe_un un_neg pe_int) (pa_cons pe_int pa_nil)))))) (pa_cons (pe_tup (pa_cons pe_int (pa_cons pe_int (pa_cons pe_int (pa_cons pe_int (pa_cons pe_int pa_nil)))))) (pa_cons (pe_tup (pa_cons pe_int (pa_cons (pe_un un_neg pe_int) (pa_cons pe_int (pa_cons (pe_un un_neg pe_int) (pa_cons (pe_un un_neg pe_int) pa_nil)))))) pa_nil))))))))
      (pss_cons (ps_if (pt_cmpR op_eq (pe_call GR (hr.mono (by decide)) rfl mR kR bR .nil pass0 (pa_cons (pv 0) (pa_cons pe_int pa_nil))) pe_int (nomark _)) (pss_one (ps_ret (pe_call GPk (hr.mono (by decide)) rfl mPk kPk bPk .nil pass0 (pa_cons (pv 0) (pa_cons (pv 1) pa_nil))))) pss_nil)
      (pss_one (ps_ret (pe_callTy call_tuple_of (by rfl) N.tuple (by decide +kernel) (pa_cons (pe_lc (own := [("_law_turn", 2)]) (g := gName 2) (tt := tYes) rfl scCu.nd (pi_range1 rfl N.range (pa_cons pe_int pa_nil)) (blkOk_by (own := [("_law_turn", 2)]) (N := nCu) (sc := defScope sCu) (by decide +kernel)) (fun _ _ _ _ _ => (pg_name (i := 2) scCu.nd rfl (.inl rfl))) (fun _ _ _ _ _ => pts_nil) (fun _ _ _ _ _ => (pe_op op_sub (pe_call GR (hr.mono (by decide)) rfl mR kR bR .nil pass0 (pa_cons (pv 0) (pa_cons pe_int pa_nil))) pe_int))) pa_nil))))), ?_⟩
    have z5 : (5 : Nat) ≤ sizeLine := by decide
    refine ⟨_, rfl, z5, fun t1 n1 => ⟨_, rfl, z5, fun t2 n2 => ⟨_, rfl, z5, fun t3 n3 => ⟨_, rfl, z5, fun t4 n4 => ⟨z5, fun t5 n5 => ⟨_, rfl, _, rfl, _, rfl, z5, fun t6 n6 => ⟨(by show 6 ≤ sizeLine; decide), fun l nl => ?_⟩⟩⟩⟩⟩⟩⟩
    have s1 := same_new n1 (o := .tup (vs5 0 (-1) 1 0 0))
    have s2 := same_new n2 (o := .tup (vs5 1 0 1 (-1) 0))
    have s3 := same_new n3 (o := .tup (vs5 0 0 1 (-1) 0))
    have s4 := same_new n4 (o := .tup (vs5 0 0 0 (-1) 0))
    have s5 := same_new n5 (o := .tup (vs5 0 0 1 0 0))
    have s6 := same_new n6 (o := .tup (vs5 1 (-1) 0 (-2) (-1)))
    have sl := same_new nl (o := .lst [.ref t1, .ref t2, .ref t3, .ref t4, .ref t5, .ref t6])
    have e6 := sl _ _ (upd_same (a := t6))
    have e5 := sl _ _ (s6 _ _ (upd_same (a := t5)))
    have e4 := sl _ _ (s6 _ _ (s5 _ _ (upd_same (a := t4))))
    have e3 := sl _ _ (s6 _ _ (s5 _ _ (s4 _ _ (upd_same (a := t3)))))
    have e2 := sl _ _ (s6 _ _ (s5 _ _ (s4 _ _ (s3 _ _ (upd_same (a := t2))))))
    have e1 := sl _ _ (s6 _ _ (s5 _ _ (s4 _ _ (s3 _ _ (s2 _ _ (upd_same (a := t1)))))))
    have S : Same H _ := Same.tr s1 (Same.tr s2 (Same.tr s3 (Same.tr s4 (Same.tr s5 (Same.tr s6 sl)))))
    have el : upd (upd (upd (upd (upd (upd (upd H t1 (.tup (vs5 0 (-1) 1 0 0))) t2 (.tup (vs5 1 0 1 (-1) 0))) t3 (.tup (vs5 0 0 1 (-1) 0))) t4 (.tup (vs5 0 0 0 (-1) 0))) t5 (.tup (vs5 0 0 1 0 0))) t6 (.tup (vs5 1 (-1) 0 (-2) (-1)))) l (.lst [.ref t1, .ref t2, .ref t3, .ref t4, .ref t5, .ref t6]) l = some (.lst [.ref t1, .ref t2, .ref t3, .ref t4, .ref t5, .ref t6]) := upd_same
    generalize upd (upd (upd (upd (upd (upd (upd H t1 (.tup (vs5 0 (-1) 1 0 0))) t2 (.tup (vs5 1 0 1 (-1) 0))) t3 (.tup (vs5 0 0 1 (-1) 0))) t4 (.tup (vs5 0 0 0 (-1) 0))) t5 (.tup (vs5 0 0 1 0 0))) t6 (.tup (vs5 1 (-1) 0 (-2) (-1)))) l (.lst [.ref t1, .ref t2, .ref t3, .ref t4, .ref t5, .ref t6]) = H6 at *
    have hp6 := S _ _ hp
    have nt : ∀ {t : Addr} {xs : List V}, H6 t = some (.tup xs) → t ≠ p := fun e z => by rw [z, hp6] at e; cases e
    have nlp : l ≠ p := fun z => by rw [z, hp6] at el; cases el; done
    refine ⟨_, rfl, p, a, b, c, 3, rfl, hp6, by decide, by decide, fun r a' c' r0 r1 => ?_⟩
    have K6 : Kq p H (upd H6 p (.lst [.int a', .int b, .int c'])) := Kq.trans (kq_same S) kq_upd
    refine ⟨rfl, _, rfl, ?_⟩
    by_cases cr : r = 0
    · refine itT (decide_eq_true (by rw [cr])) ?_
      have hl7 : SqL K (upd H6 p (.lst [.int a', .int b, .int c'])) l [.ref t1, .ref t2, .ref t3, .ref t4, .ref t5, .ref t6] := SqL.of (by rw [upd_ne nlp]; exact el)
      refine ⟨_, rfl, _, rfl, p, l, a', b, c', _, rfl, upd_same, hl7, nlp, by show 0 < 6; decide, by show 6 < 1000; decide, fun i x a2 c2 hx => ?_⟩
      have K8 := Kq.trans K6 (kq_upd (p := p) (o := .lst [.int a2, .int b, .int c2]))
      have at8 : ∀ {t : Addr} {xs : List V}, H6 t = some (.tup xs) → (upd (upd H6 p (.lst [.int a', .int b, .int c'])) p (.lst [.int a2, .int b, .int c2])) t = some (.tup xs) := fun e => by rw [upd_ne (nt e), upd_ne (nt e)]; exact e
      have en : ∀ n : Int, (-2 ≤ n ∧ n ≤ 2) → En n := fun n h => ⟨by omega, by omega⟩
      match i, hx with
      | 0, hx => cases hx; exact k _ t1 0 (-1) 1 0 0 K8 dic_upd (nt e1) (at8 e1) (en _ (by decide)) (en _ (by decide)) (en _ (by decide)) (en _ (by decide)) (en _ (by decide))
      | 1, hx => cases hx; exact k _ t2 1 0 1 (-1) 0 K8 dic_upd (nt e2) (at8 e2) (en _ (by decide)) (en _ (by decide)) (en _ (by decide)) (en _ (by decide)) (en _ (by decide))
      | 2, hx => cases hx; exact k _ t3 0 0 1 (-1) 0 K8 dic_upd (nt e3) (at8 e3) (en _ (by decide)) (en _ (by decide)) (en _ (by decide)) (en _ (by decide)) (en _ (by decide))
      | 3, hx => cases hx; exact k _ t4 0 0 0 (-1) 0 K8 dic_upd (nt e4) (at8 e4) (en _ (by decide)) (en _ (by decide)) (en _ (by decide)) (en _ (by decide)) (en _ (by decide))
      | 4, hx => cases hx; exact k _ t5 0 0 1 0 0 K8 dic_upd (nt e5) (at8 e5) (en _ (by decide)) (en _ (by decide)) (en _ (by decide)) (en _ (by decide)) (en _ (by decide))
      | 5, hx => cases hx; exact k _ t6 1 (-1) 0 (-2) (-1) K8 dic_upd (nt e6) (at8 e6) (en _ (by decide)) (en _ (by decide)) (en _ (by decide)) (en _ (by decide)) (en _ (by decide))
    · refine itF (decide_eq_false (fun z => cr (V.int.inj z))) ?_
      have d6 : DicAt (upd H6 p (.lst [.int a', .int b, .int c'])) p := dic_upd
      generalize upd H6 p (.lst [.int a', .int b, .int c']) = H7 at *
      refine ⟨5, rfl, by decide, by decide, fun D hD => ?_⟩
      refine lc_range (AccR p H7 D (fun x => -3 ≤ x ∧ x ≤ 3)) (AccR.zero d6 hD) ?_ ?_
      · intro i H8 hi a8
        refine ⟨rfl, ?_⟩
        obtain ⟨q1, ⟨u1, u2, u3, hp8⟩, rest⟩ := a8
        refine ⟨_, rfl, p, u1, u2, u3, 7, rfl, hp8, by decide, by decide, fun r2 a2 c2 q0 q1' => ?_⟩
        refine ⟨_, _, rfl, rfl, ?_⟩
        exact AccR.put ⟨q1, ⟨u1, u2, u3, hp8⟩, rest⟩ d6 hD kq_upd dic_upd (by show -3 ≤ r2 - 3 ∧ r2 - 3 ≤ 3; omega) (Nat.lt_trans hi (by decide))
      · rintro H8 ⟨k8, d8, xs, lx, bx, hx⟩
        obtain ⟨b1, b2, b3, b4, b6, rfl, g1, g2, g3, g4, g6⟩ := five lx bx
        have en : ∀ {n : Int}, (-3 ≤ n ∧ n ≤ 3) → En n := fun h => ⟨by omega, by omega⟩
        refine ⟨D, _, rfl, .inl ⟨SqL.of hx, fun q nq => ?_⟩⟩
        obtain ⟨u1, u2, u3, hp8⟩ := d8
        have nqp : q ≠ p := fun z => by rw [z, hp8] at nq; cases nq
        exact k _ q b1 b2 b3 b4 b6 (Kq.trans K6 (Kq.trans k8 (kq_same (same_new nq)))) (dic_same (same_new nq) ⟨u1, u2, u3, hp8⟩) nqp upd_same (en g1) (en g2) (en g3) (en g4) (en g6)
/-! the law's own curve -/
def spHo (K : PySem.W.Frag) : Sp := fun vs H Q _ => ∃ (t : Addr) (a1 a2 a3 a4 a6 : Int) (n x y : Nat), vs = [.ref t, .int n, .int x, .int y] ∧ SqT K H t (vs5 a1 a2 a3 a4 a6) ∧ En a1 ∧ En a2 ∧ En a3 ∧ En a4 ∧ En a6 ∧ 0 < n ∧ x < 37 ∧ y < 37 ∧
  Q (.bl (decide (C74.fF a1 a2 a3 a4 a6 x y % (n : Nat) = 0))) H
abbrev nHo : List Str := ["_law_parts", "_law_prime", "_law_x", "_law_y", "_law_a1", "_law_a2", "_law_a3", "_law_a4", "_law_a6", "_law_left", "_law_other"]
theorem scHo : FnScope nHo ["_law_parts", "_law_prime", "_law_x", "_law_y"] (defScope sHo) := ⟨rfl, rfl, rfl, by decide +kernel, rfl, by decide +kernel, by decide +kernel⟩
theorem ok_ho {f : Addr} {fd : FuncData} (F : Fun K "_law_hc_holds" "_law_hc_holds" sHo f fd) : FnOk P w K mg base CX0 1 f fd ["_law_parts", "_law_prime", "_law_x", "_law_y"] (spHo K) := by
  refine F.ok scHo (fun vs H Q E h => ?_) (fun cdv A outer s H vs Q E hr h => ?_)
  · obtain ⟨t, a1, a2, a3, a4, a6, n, x, y, rfl, _⟩ := h
    rfl
  · obtain ⟨t, a1, a2, a3, a4, a6, n, x, y, rfl, ht, h1, h2, h3, h4, h6, n0, lx, ly, k⟩ := h
    have w1 := h1.wd
    have w2 := h2.wd
    have w3 := h3.wd
    have w4 := h4.wd
    have w6 := h6.wd
    have wx : Wd ((x : Nat) : Int) 6 := ⟨by show (x : Int).natAbs < 64; omega⟩
    have wy : Wd ((y : Nat) : Int) 6 := ⟨by show (y : Int).natAbs < 64; omega⟩
    have hp0 : ((n : Nat) : Int) ≠ 0 := by omega
    refine ⟨_, pss_cons (ps_asg (pv 0) (pg_tup rfl (pgs_cons (pg_name (i := 4) scHo.nd rfl (.inl rfl)) (pgs_cons (pg_name (i := 5) scHo.nd rfl (.inl rfl)) (pgs_cons (pg_name (i := 6) scHo.nd rfl (.inl rfl)) (pgs_cons (pg_name (i := 7) scHo.nd rfl (.inl rfl)) (pgs_cons (pg_name (i := 8) scHo.nd rfl (.inl rfl)) pgs_nil)))))))
      (pss_cons (ps_set (i := 9) scHo.nd rfl (.inl rfl) (pe_op op_add (pe_op op_add (pe_op op_mulW (pv 3) (pv 3)) (pe_op op_mulW (pe_op op_mulW (pv 4) (pv 2)) (pv 3))) (pe_op op_mulW (pv 6) (pv 3))))
      (pss_cons (ps_set (i := 10) scHo.nd rfl (.inl rfl) (pe_op op_add (pe_op op_add (pe_op op_add (pe_op op_mulW (pe_op op_mulW (pv 2) (pv 2)) (pv 2)) (pe_op op_mulW (pe_op op_mulW (pv 5) (pv 2)) (pv 2))) (pe_op op_mulW (pv 7) (pv 2))) (pv 8)))
      (pss_one (ps_ret (pe_cmpR op_eq (pe_op op_modN (pe_op op_sub (pv 9) (pv 10)) (pv 1)) pe_int (nomark _)))))), ?_⟩
    refine ⟨_, rfl, t, _, rfl, ht, rfl, _, _, rfl, _, _, rfl, _, _, rfl, _, _, rfl, _, _, rfl, rfl, ?_⟩
    refine ⟨_, rfl, _, rfl, _, _, rfl, rfl, mI, _, rfl, _, rfl, _, _, rfl, rfl, mI, _, rfl, _, _, rfl, rfl, mI, _, _, rfl, rfl, _, rfl, _, rfl, _, _, rfl, rfl, mI, _, _, rfl, rfl, ?_⟩
    refine ⟨_, rfl, _, rfl, _, _, rfl, rfl, mI, _, rfl, _, _, rfl, rfl, mI, _, rfl, _, rfl, _, _, rfl, rfl, mI, _, rfl, _, _, rfl, rfl, mI, _, _, rfl, rfl, _, rfl, _, rfl, _, _, rfl, rfl, mI, _, _, rfl, rfl, _, rfl, _, _, rfl, rfl, ?_⟩
    refine ⟨_, rfl, _, rfl, _, _, rfl, rfl, _, rfl, _, _, rfl, rfl, hp0, rfl, ?_⟩
    have e : decide (V.int (Int.fmod (C74.fF a1 a2 a3 a4 a6 x y) (n : Nat)) = V.int 0) = decide (C74.fF a1 a2 a3 a4 a6 x y % (n : Nat) = 0) := by
      rw [fm]
      exact decide_eq_decide.mpr ⟨fun z => V.int.inj z, fun z => by rw [z]⟩
    rw [← e] at k
    exact k
abbrev HHo (P : Program) (w : World) (K : PySem.W.Frag) (mg : Str → Option Value) (base : Heap) : Prop := Has P w K mg base "_law_hc_holds" 1 ["_law_parts", "_law_prime", "_law_x", "_law_y"] (spHo K)
def spHt (K : PySem.W.Frag) : Sp := fun vs H Q _ => ∃ (t : Addr) (a1 a2 a3 a4 a6 : Int) (n : Nat), vs = [.ref t, .int n] ∧ SqT K H t (vs5 a1 a2 a3 a4 a6) ∧ En a1 ∧ En a2 ∧ En a3 ∧ En a4 ∧ En a6 ∧ 0 < n ∧ n ≤ 37 ∧
  ∀ H', Same H H' → Q (.int ((n : Int) - (C74.pts n a1 a2 a3 a4 a6 : Nat))) H'
theorem sqT_same {H H' : Hp} {a : Addr} {xs : List V} (s : Same H H') (h : SqT K H a xs) : SqT K H' a xs := by
  unfold SqT Rd at h ⊢
  rcases h with (h | ⟨o, h⟩) | h
  · exact .inl (.inl (s _ _ h))
  · exact .inl (.inr ⟨o, s _ _ h⟩)
  · exact .inr h
abbrev nHt : List Str := ["_law_parts", "_law_prime", "_law_many", "_law_x", "_law_y"]
theorem scHt : FnScope nHt ["_law_parts", "_law_prime"] (defScope sHt) := ⟨rfl, rfl, rfl, by decide +kernel, rfl, by decide +kernel, by decide +kernel⟩
theorem ok_ht {f : Addr} {fd : FuncData} (F : Fun K "_law_hc_trace" "_law_hc_trace" sHt f fd) (N : NN mg) (Ho : HHo P w K mg base) : FnOk P w K mg base CX0 2 f fd ["_law_parts", "_law_prime"] (spHt K) := by
  obtain ⟨fHo, dHo, GHo, mHo, kHo, bHo⟩ := Ho
  refine F.ok scHt (fun vs H Q E h => ?_) (fun cdv A outer s H vs Q E hr h => ?_)
  · obtain ⟨t, a1, a2, a3, a4, a6, n, rfl, _⟩ := h
    rfl
  · obtain ⟨t, a1, a2, a3, a4, a6, n, rfl, ht, h1, h2, h3, h4, h6, n0, n37, k⟩ := h
    refine ⟨_, pss_cons (ps_set (i := 2) scHt.nd rfl (.inl rfl) pe_int)
      (pss_cons (ps_for PassesOwn.never rfl (pi_range1 rfl N.range (pa_cons (pv 1) pa_nil)) (pg_name (i := 3) scHt.nd rfl (.inr rfl)) (pss_one (ps_set (i := 2) scHt.nd rfl (.inl rfl) (pe_op op_add (pv 2) (pe_callB call_len_seq (by rfl) N.len (by decide +kernel) (pa_cons (pe_lc (own := [("_law_y", 4)]) (g := gName 4) rfl scHt.nd (pi_range1 rfl N.range (pa_cons (pv 1) pa_nil)) (blkOk_by (own := [("_law_y", 4)]) (N := nHt) (sc := defScope sHt) (by decide +kernel)) (fun _ _ _ _ _ => (pg_name (i := 4) scHt.nd rfl (.inl rfl))) (fun _ _ _ _ _ => (pts_one (pt_val (pe_call GHo (hr.mono (by decide)) rfl mHo kHo bHo .nil pass0 (pa_cons (pv 0) (pa_cons (pv 1) (pa_cons (pv 3) (pa_cons (pv 4) pa_nil)))))))) (fun _ _ _ _ _ => (pv 4))) pa_nil))))))
      (pss_one (ps_ret (pe_op op_sub (pv 1) (pv 2))))), ?_⟩
    refine ⟨_, rfl, _, rfl, by omega, by omega, for_range (fun i σ H' => ∃ u1 : Option V, σ = [some (.ref t), some (.int n), some (.int (C74.tot i fun x => C74.cn n fun y => decide (C74.fF a1 a2 a3 a4 a6 (x : Nat) (y : Nat) % (n : Nat) = 0) : Nat)), u1, none] ∧ Same H H') ⟨none, rfl, same_refl H⟩ ?_ ?_⟩
    · rintro i σ H' hi ⟨u1, rfl, sm⟩
      simp only [Int.zero_add]
      refine ⟨_, rfl, _, rfl, _, rfl, by omega, by omega, fun D hD => ?_⟩
      refine lc_range (Acc _ D (flt fun y => decide (C74.fF a1 a2 a3 a4 a6 (i : Nat) (y : Nat) % (n : Nat) = 0))) (Acc.zero hD rfl) ?_ ?_
      · intro y H2 hy a
        simp only [Int.zero_add]
        refine ⟨rfl, ?_⟩
        refine ⟨_, rfl, _, rfl, _, rfl, _, rfl, t, a1, a2, a3, a4, a6, n, i, y, rfl, sqT_same (Same.tr sm a.1) ht, h1, h2, h3, h4, h6, n0, by omega, by omega, _, rfl, ?_⟩
        by_cases c : C74.fF a1 a2 a3 a4 a6 (i : Nat) (y : Nat) % (n : Nat) = 0
        · refine itT (decide_eq_true c) ⟨_, rfl, a.put hD (same_refl _) ?_ (flt_in (decide_eq_true c))⟩
          exact Nat.lt_of_le_of_lt (flt_le _ _) (Nat.lt_of_lt_of_le (show y < 1000 by omega) (by decide))
        · exact itF (decide_eq_false c) (a.skip (same_refl _) (flt_no (decide_eq_false c)))
      · intro H2 a
        refine ⟨D, _, rfl, .inl (SqL.of a.2), _, _, rfl, rfl, ?_⟩
        refine ⟨some (.int (i : Nat)), ?_, Same.tr sm a.1⟩
        rw [flt_len]
        rfl
    · rintro σ H' ⟨u1, rfl, sm⟩
      exact ⟨_, rfl, _, rfl, _, _, rfl, rfl, k H' sm⟩
abbrev HHt (P : Program) (w : World) (K : PySem.W.Frag) (mg : Str → Option Value) (base : Heap) : Prop := Has P w K mg base "_law_hc_trace" 2 ["_law_parts", "_law_prime"] (spHt K)
abbrev nHn : List Str := ["_law_parts", "_law_a1", "_law_a2", "_law_a3", "_law_a4", "_law_a6", "_law_b2", "_law_b4", "_law_b6", "_law_b8", "_law_first"]
theorem scHn : FnScope nHn ["_law_parts"] (defScope sHn) := ⟨rfl, rfl, rfl, by decide +kernel, rfl, by decide +kernel, by decide +kernel⟩
theorem ok_hn {f : Addr} {fd : FuncData} (F : Fun K "_law_hc_numbers" "_law_hc_numbers" sHn f fd) : FnOk P w K mg base CX0 1 f fd ["_law_parts"] (spIv K) := by
  refine F.ok scHn (fun vs H Q E h => ?_) (fun cdv A outer s H vs Q E hr h => ?_)
  · obtain ⟨t, a1, a2, a3, a4, a6, rfl, _⟩ := h
    rfl
  · obtain ⟨t, a1, a2, a3, a4, a6, rfl, ht, h1, h2, h3, h4, h6, k⟩ := h
    have w1 := h1.wd
    have w2 := h2.wd
    have w3 := h3.wd
    have w4 := h4.wd
    have w6 := h6.wd
    refine ⟨_, pss_cons (ps_asg (pv 0) (pg_tup rfl (pgs_cons (pg_name (i := 1) scHn.nd rfl (.inl rfl)) (pgs_cons (pg_name (i := 2) scHn.nd rfl (.inl rfl)) (pgs_cons (pg_name (i := 3) scHn.nd rfl (.inl rfl)) (pgs_cons (pg_name (i := 4) scHn.nd rfl (.inl rfl)) (pgs_cons (pg_name (i := 5) scHn.nd rfl (.inl rfl)) pgs_nil)))))))
      (pss_cons (ps_par (i := 6) (j := 7) (by rfl) scHn.nd rfl rfl (by decide) rfl rfl (pa_cons (pe_op op_add (pe_op op_mulW (pv 1) (pv 1)) (pe_op op_mulW pe_int (pv 2))) (pa_cons (pe_op op_add (pe_op op_mulW pe_int (pv 4)) (pe_op op_mulW (pv 1) (pv 3))) pa_nil)) (by rfl))
      (pss_cons (ps_set (i := 8) scHn.nd rfl (.inl rfl) (pe_op op_add (pe_op op_mulW (pv 3) (pv 3)) (pe_op op_mulW pe_int (pv 5))))
      (pss_cons (ps_set (i := 9) scHn.nd rfl (.inl rfl) (pe_op op_sub (pe_op op_add (pe_op op_mulW (pe_op op_mulW (pv 1) (pv 1)) (pv 5)) (pe_op op_mulW (pe_op op_mulW pe_int (pv 2)) (pv 5))) (pe_op op_mulW (pe_op op_mulW (pv 1) (pv 3)) (pv 4))))
      (pss_cons (ps_set (i := 9) scHn.nd rfl (.inl rfl) (pe_op op_sub (pe_op op_add (pv 9) (pe_op op_mulW (pe_op op_mulW (pv 2) (pv 3)) (pv 3))) (pe_op op_mulW (pv 4) (pv 4))))
      (pss_cons (ps_set (i := 10) scHn.nd rfl (.inl rfl) (pe_op op_sub (pe_op op_mulW (pe_op op_mulW (pe_un un_neg (pv 6)) (pv 6)) (pv 9)) (pe_op op_mulW (pe_op op_mulW (pe_op op_mulW pe_int (pv 7)) (pv 7)) (pv 7))))
      (pss_cons (ps_set (i := 10) scHn.nd rfl (.inl rfl) (pe_op op_add (pe_op op_sub (pv 10) (pe_op op_mulW (pe_op op_mulW pe_int (pv 8)) (pv 8))) (pe_op op_mulW (pe_op op_mulW (pe_op op_mulW pe_int (pv 6)) (pv 7)) (pv 8))))
      (pss_one (ps_ret (pe_tup (pa_cons (pv 10) (pa_cons (pe_op op_sub (pe_op op_mulW (pv 6) (pv 6)) (pe_op op_mulW pe_int (pv 7))) pa_nil))))))))))), ?_⟩
    refine ⟨_, rfl, t, _, rfl, ht, rfl, _, _, rfl, _, _, rfl, _, _, rfl, _, _, rfl, _, _, rfl, rfl, ?_⟩
    refine ⟨_, rfl, _, rfl, _, _, rfl, rfl, mI, _, rfl, _, _, rfl, rfl, mI, _, _, rfl, rfl, _, rfl, _, _, rfl, rfl, mI, _, rfl, _, rfl, _, _, rfl, rfl, mI, _, _, rfl, rfl, _, _, rfl, ?_⟩
    refine ⟨_, rfl, _, rfl, _, _, rfl, rfl, mI, _, rfl, _, _, rfl, rfl, mI, _, _, rfl, rfl, ?_⟩
    refine ⟨_, rfl, _, rfl, _, _, rfl, rfl, mI, _, rfl, _, _, rfl, rfl, mI, _, rfl, _, _, rfl, rfl, mI, _, rfl, _, _, rfl, rfl, mI, _, _, rfl, rfl, _, rfl, _, rfl, _, _, rfl, rfl, mI, _, rfl, _, _, rfl, rfl, mI, _, _, rfl, rfl, ?_⟩
    refine ⟨_, rfl, _, rfl, _, rfl, _, _, rfl, rfl, mI, _, rfl, _, _, rfl, rfl, mI, _, _, rfl, rfl, _, rfl, _, rfl, _, _, rfl, rfl, mI, _, _, rfl, rfl, ?_⟩
    refine ⟨_, rfl, _, rfl, _, rfl, _, _, rfl, rfl, mI, _, rfl, _, _, rfl, rfl, mI, _, rfl, _, _, rfl, rfl, mI, _, rfl, _, _, rfl, rfl, mI, _, rfl, _, _, rfl, rfl, mI, _, _, rfl, rfl, ?_⟩
    refine ⟨_, rfl, _, rfl, _, _, rfl, rfl, mI, _, rfl, _, _, rfl, rfl, mI, _, _, rfl, rfl, _, rfl, _, _, rfl, rfl, mI, _, rfl, _, _, rfl, rfl, mI, _, rfl, _, _, rfl, rfl, mI, _, _, rfl, rfl, ?_⟩
    refine ⟨_, rfl, _, rfl, _, rfl, _, _, rfl, rfl, mI, _, rfl, _, _, rfl, rfl, mI, _, _, rfl, rfl, (by show 2 ≤ sizeLine; decide), fun p hp => ?_⟩
    exact k _ p (same_new hp) hp upd_same
abbrev HHn (P : Program) (w : World) (K : PySem.W.Frag) (mg : Str → Option Value) (base : Heap) : Prop := Has P w K mg base "_law_hc_numbers" 1 ["_law_parts"] (spIv K)
def spHk (K : PySem.W.Frag) : Sp := fun vs H Q _ => ∃ (t : Addr) (a1 a2 a3 a4 a6 : Int) (n : Nat), vs = [.ref t, .int n] ∧ SqT K H t (vs5 a1 a2 a3 a4 a6) ∧ En a1 ∧ En a2 ∧ En a3 ∧ En a4 ∧ En a6 ∧ 0 < n ∧
  ∀ H', Same H H' → Q (kd n a1 a2 a3 a4 a6) H'
abbrev nHk : List Str := ["_law_parts", "_law_prime", "_law_first", "_law_second"]
theorem scHk : FnScope nHk ["_law_parts", "_law_prime"] (defScope sHk) := ⟨rfl, rfl, rfl, by decide +kernel, rfl, by decide +kernel, by decide +kernel⟩
theorem ok_hk {f : Addr} {fd : FuncData} (F : Fun K "_law_hc_kind" "_law_hc_kind" sHk f fd) (Hn : HHn P w K mg base) : FnOk P w K mg base CX0 2 f fd ["_law_parts", "_law_prime"] (spHk K) := by
  obtain ⟨fHn, dHn, GHn, mHn, kHn, bHn⟩ := Hn
  refine F.ok scHk (fun vs H Q E h => ?_) (fun cdv A outer s H vs Q E hr h => ?_)
  · obtain ⟨t, a1, a2, a3, a4, a6, n, rfl, _⟩ := h
    rfl
  · obtain ⟨t, a1, a2, a3, a4, a6, n, rfl, ht, h1, h2, h3, h4, h6, n0, k⟩ := h
    have hp0 : ((n : Nat) : Int) ≠ 0 := by omega
    refine ⟨_, pss_cons (ps_asg (pe_call GHn (hr.mono (by decide)) rfl mHn kHn bHn .nil pass0 (pa_cons (pv 0) pa_nil)) (pg_tup rfl (pgs_cons (pg_name (i := 2) scHk.nd rfl (.inl rfl)) (pgs_cons (pg_name (i := 3) scHk.nd rfl (.inl rfl)) pgs_nil))))
      (pss_cons (ps_if (pt_cmpR op_ne (pe_op op_modN (pv 2) (pv 1)) pe_int (nomark _)) (pss_one (ps_ret pe_str)) pss_nil)
      (pss_one (ps_ret (pe_ifExp (pt_cmpR op_eq (pe_op op_modN (pv 3) (pv 1)) pe_int (nomark _)) pe_str pe_str)))), ?_⟩
    refine ⟨_, rfl, t, a1, a2, a3, a4, a6, rfl, ht, h1, h2, h3, h4, h6, fun H' q s' nq hq => ?_⟩
    refine ⟨q, _, rfl, .inl (.inl hq), rfl, _, _, rfl, _, _, rfl, rfl, ?_⟩
    have k := k H' s'
    unfold kd at k
    refine ⟨_, rfl, _, rfl, _, _, rfl, rfl, hp0, rfl, _, rfl, ?_⟩
    by_cases c : C74.dis a1 a2 a3 a4 a6 % (n : Nat) = 0
    · rw [if_pos c] at k
      refine itF (by show (!decide (V.int (Int.fmod _ _) = V.int 0)) = false; rw [fm, c]; rfl) ?_
      refine ⟨_, rfl, _, rfl, _, _, rfl, rfl, hp0, rfl, _, rfl, ?_⟩
      by_cases c2 : C74.sec a1 a2 a3 a4 a6 % (n : Nat) = 0
      · rw [if_pos c2] at k
        exact itT (decide_eq_true (by show V.int (Int.fmod _ _) = V.int 0; rw [fm, c2])) k
      · rw [if_neg c2] at k
        exact itF (decide_eq_false (fun z => c2 (by have z := V.int.inj z; rw [fm] at z; exact z))) k
    · rw [if_neg c] at k
      refine itT ?_ k
      show (!decide (V.int (Int.fmod _ _) = V.int 0)) = true
      rw [fm, decide_eq_false (fun z => c (V.int.inj z))]
      rfl
abbrev HHk (P : Program) (w : World) (K : PySem.W.Frag) (mg : Str → Option Value) (base : Heap) : Prop := Has P w K mg base "_law_hc_kind" 2 ["_law_parts", "_law_prime"] (spHk K)
/-! singular points -/
def spSg (K : PySem.W.Frag) : Sp := fun vs H Q _ => ∃ (t : Addr) (a1 a2 a3 a4 a6 : Int) (n : Nat), vs = [.ref t, .int n] ∧ SqT K H t (vs5 a1 a2 a3 a4 a6) ∧ En a1 ∧ En a2 ∧ En a3 ∧ En a4 ∧ En a6 ∧ 0 < n ∧ n ≤ 37 ∧
  (C74.sing n a1 a2 a3 a4 a6 → Q (.bl true) H) ∧ (¬ C74.sing n a1 a2 a3 a4 a6 → Q (.bl false) H)
abbrev nSg : List Str := ["_law_parts", "_law_prime", "_law_a1", "_law_a2", "_law_a3", "_law_a4", "_law_a6", "_law_x", "_law_y"]
theorem scSg : FnScope nSg ["_law_parts", "_law_prime"] (defScope sSg) := ⟨rfl, rfl, rfl, by decide +kernel, rfl, by decide +kernel, by decide +kernel⟩
theorem ok_sg {f : Addr} {fd : FuncData} (F : Fun K "_law_singular" "_law_singular" sSg f fd) (N : NN mg) (Ho : HHo P w K mg base) : FnOk P w K mg base CX0 2 f fd ["_law_parts", "_law_prime"] (spSg K) := by
  obtain ⟨fHo, dHo, GHo, mHo, kHo, bHo⟩ := Ho
  refine F.ok scSg (fun vs H Q E h => ?_) (fun cdv A outer s H vs Q E hr h => ?_)
  · obtain ⟨t, a1, a2, a3, a4, a6, n, rfl, _⟩ := h
    rfl
  · obtain ⟨t, a1, a2, a3, a4, a6, n, rfl, ht, h1, h2, h3, h4, h6, n0, n37, kT, kF⟩ := h
    have w1 := h1.wd
    have w2 := h2.wd
    have w3 := h3.wd
    have w4 := h4.wd
    have w6 := h6.wd
    have hp0 : ((n : Nat) : Int) ≠ 0 := by omega
    refine ⟨_, pss_cons (ps_asg (pv 0) (pg_tup rfl (pgs_cons (pg_name (i := 2) scSg.nd rfl (.inl rfl)) (pgs_cons (pg_name (i := 3) scSg.nd rfl (.inl rfl)) (pgs_cons (pg_name (i := 4) scSg.nd rfl (.inl rfl)) (pgs_cons (pg_name (i := 5) scSg.nd rfl (.inl rfl)) (pgs_cons (pg_name (i := 6) scSg.nd rfl (.inl rfl)) pgs_nil)))))))
      (pss_cons (ps_for PassesOwn.never rfl (pi_range1 rfl N.range (pa_cons (pv 1) pa_nil)) (pg_name (i := 7) scSg.nd rfl (.inl rfl)) (pss_one (ps_for PassesOwn.never rfl (pi_range1 rfl N.range (pa_cons (pv 1) pa_nil)) (pg_name (i := 8) scSg.nd rfl (.inl rfl)) (pss_one (ps_if (PW.pt (pw_and (pt_val (pe_call GHo (hr.mono (by decide)) rfl mHo kHo bHo .nil pass0 (pa_cons (pv 0) (pa_cons (pv 1) (pa_cons (pv 7) (pa_cons (pv 8) pa_nil)))))) (pw_and1 (pt_cmpR op_eq (pe_op op_modN (pe_op op_add (pe_op op_add (pe_op op_mulW pe_int (pv 8)) (pe_op op_mulW (pv 2) (pv 7))) (pv 4)) (pv 1)) pe_int (nomark _))))) (pss_one (ps_if (pt_cmpR op_eq (pe_op op_modN (pe_op op_sub (pe_op op_sub (pe_op op_sub (pe_op op_mulW (pv 2) (pv 8)) (pe_op op_mulW (pe_op op_mulW pe_int (pv 7)) (pv 7))) (pe_op op_mulW (pe_op op_mulW pe_int (pv 3)) (pv 7))) (pv 5)) (pv 1)) pe_int (nomark _)) (pss_one (ps_ret pe_bl)) pss_nil)) pss_nil)))))
      (pss_one (ps_ret pe_bl))), ?_⟩
    refine ⟨_, rfl, t, _, rfl, ht, rfl, _, _, rfl, _, _, rfl, _, _, rfl, _, _, rfl, _, _, rfl, rfl, ?_⟩
    refine ⟨_, rfl, _, rfl, by omega, by omega, for_range (fun i σ H' => ∃ u1 u2 : Option V, σ = [some (.ref t), some (.int n), some (.int a1), some (.int a2), some (.int a3), some (.int a4), some (.int a6), u1, u2] ∧ H' = H ∧
      ∀ x : Nat, x < i → ∀ y : Nat, y < n → ¬ (C74.fF a1 a2 a3 a4 a6 x y % (n : Nat) = 0 ∧ C74.fY a1 a2 a3 a4 a6 x y % (n : Nat) = 0 ∧ C74.fX a1 a2 a3 a4 a6 x y % (n : Nat) = 0)) ⟨none, none, rfl, rfl, fun x hx => absurd hx (Nat.not_lt_zero x)⟩ ?_ ?_⟩
    · rintro i σ H' hi ⟨u1, u2, rfl, rfl, no⟩
      have wx : Wd ((i : Nat) : Int) 6 := ⟨by show (i : Int).natAbs < 64; omega⟩
      simp only [Int.zero_add]
      refine ⟨_, rfl, _, rfl, by omega, by omega, for_range (fun j σ H2 => ∃ u2 : Option V, σ = [some (.ref t), some (.int n), some (.int a1), some (.int a2), some (.int a3), some (.int a4), some (.int a6), some (.int (i : Nat)), u2] ∧ H2 = H' ∧
        ∀ y : Nat, y < j → ¬ (C74.fF a1 a2 a3 a4 a6 i y % (n : Nat) = 0 ∧ C74.fY a1 a2 a3 a4 a6 i y % (n : Nat) = 0 ∧ C74.fX a1 a2 a3 a4 a6 i y % (n : Nat) = 0)) ⟨u2, rfl, rfl, fun x hx => absurd hx (Nat.not_lt_zero x)⟩ ?_ ?_⟩
      · rintro j σ H2 hj ⟨u3, rfl, rfl, no2⟩
        have wy : Wd ((j : Nat) : Int) 6 := ⟨by show (j : Int).natAbs < 64; omega⟩
        simp only [Int.zero_add]
        have step : ¬ (C74.fF a1 a2 a3 a4 a6 i j % (n : Nat) = 0 ∧ C74.fY a1 a2 a3 a4 a6 i j % (n : Nat) = 0 ∧ C74.fX a1 a2 a3 a4 a6 i j % (n : Nat) = 0) → ∀ y : Nat, y < j + 1 → ¬ (C74.fF a1 a2 a3 a4 a6 i y % (n : Nat) = 0 ∧ C74.fY a1 a2 a3 a4 a6 i y % (n : Nat) = 0 ∧ C74.fX a1 a2 a3 a4 a6 i y % (n : Nat) = 0) := by
          intro h y hy
          rcases Nat.lt_succ_iff_lt_or_eq.mp hy with q | q
          · exact no2 y q
          · rw [q]; exact h
        refine ⟨_, rfl, _, rfl, _, rfl, _, rfl, t, a1, a2, a3, a4, a6, n, i, j, rfl, ht, h1, h2, h3, h4, h6, n0, by omega, by omega, _, rfl, ?_⟩
        by_cases c1 : C74.fF a1 a2 a3 a4 a6 i j % (n : Nat) = 0
        · refine itT (decide_eq_true c1) ?_
          refine ⟨_, rfl, _, _, rfl, rfl, mI, _, rfl, _, rfl, _, _, rfl, rfl, mI, _, _, rfl, rfl, _, rfl, _, _, rfl, rfl, _, rfl, _, _, rfl, rfl, hp0, rfl, _, rfl, ?_⟩
          by_cases c2 : C74.fY a1 a2 a3 a4 a6 i j % (n : Nat) = 0
          · refine itT (decide_eq_true (by show V.int (Int.fmod _ _) = V.int 0; rw [fm]; exact congrArg V.int c2)) ?_
            refine ⟨_, rfl, _, rfl, _, _, rfl, rfl, mI, _, rfl, _, _, rfl, rfl, mI, _, rfl, _, _, rfl, rfl, mI, _, _, rfl, rfl, _, rfl, _, _, rfl, rfl, mI, _, rfl, _, _, rfl, rfl, mI, _, _, rfl, rfl, _, rfl, _, _, rfl, rfl, _, rfl, _, _, rfl, rfl, hp0, rfl, _, rfl, ?_⟩
            by_cases c3 : C74.fX a1 a2 a3 a4 a6 i j % (n : Nat) = 0
            · refine itT (decide_eq_true (by show V.int (Int.fmod _ _) = V.int 0; rw [fm]; exact congrArg V.int c3)) ?_
              exact kT ⟨i, by omega, j, by omega, c1, c2, c3⟩
            · refine itF (decide_eq_false (fun z => c3 (by have z := V.int.inj z; rw [fm] at z; exact z))) ?_
              exact ⟨_, rfl, rfl, step (fun z => c3 z.2.2)⟩
          · refine itF (decide_eq_false (fun z => c2 (by have z := V.int.inj z; rw [fm] at z; exact z))) ?_
            exact ⟨_, rfl, rfl, step (fun z => c2 z.2.1)⟩
        · refine itF (decide_eq_false c1) (itF rfl ?_)
          exact ⟨_, rfl, rfl, step (fun z => c1 z.1)⟩
      · rintro σ H2 ⟨u3, rfl, rfl, no2⟩
        refine ⟨_, _, rfl, rfl, fun x hx y hy => ?_⟩
        rcases Nat.lt_succ_iff_lt_or_eq.mp hx with q | q
        · exact no x q y hy
        · rw [q]; exact no2 y hy
    · rintro σ H' ⟨u1, u2, rfl, rfl, no⟩
      refine kF ?_
      rintro ⟨x, hx, y, hy, z⟩
      exact no x hx y hy z
abbrev HSg (P : Program) (w : World) (K : PySem.W.Frag) (mg : Str → Option Value) (base : Heap) : Prop := Has P w K mg base "_law_singular" 2 ["_law_parts", "_law_prime"] (spSg K)
abbrev HTr (P : Program) (w : World) (K : PySem.W.Frag) (mg : Str → Option Value) (base : Heap) (C : Addr) : Prop := HasM P w K mg base C "trace_at" 6 ["self", "prime"] (spTr C)
abbrev HKi (P : Program) (w : World) (K : PySem.W.Frag) (mg : Str → Option Value) (base : Heap) (C : Addr) : Prop := HasM P w K mg base C "kind_at" 6 ["self", "prime"] (spKi C)
/-! all at one prime -/
def spAr (K : PySem.W.Frag) (C : Addr) : Sp := fun vs H Q _ => ∃ (p t : Addr) (a1 a2 a3 a4 a6 : Int) (n : Nat), vs = [.ref p, .ref t, .int n] ∧ CubAt C H p a1 a2 a3 a4 a6 ∧ SqT K H t (vs5 a1 a2 a3 a4 a6) ∧ En a1 ∧ En a2 ∧ En a3 ∧ En a4 ∧ En a6 ∧ n ∈ C74.PR ∧
  ∀ H', Same H H' → Q (.bl true) H'
abbrev nAr : List Str := ["_law_told", "_law_parts", "_law_prime", "_law_trace", "_law_kind"]
theorem scAr : FnScope nAr ["_law_told", "_law_parts", "_law_prime"] (defScope sAr) := ⟨rfl, rfl, rfl, by decide +kernel, rfl, by decide +kernel, by decide +kernel⟩
theorem pts_le (n : Nat) (a1 a2 a3 a4 a6 : Int) : C74.pts n a1 a2 a3 a4 a6 ≤ n * n := by
  have e1 : ∀ (f : Nat → Bool) (m : Nat), C74.cn m f ≤ m := by
    intro f m
    induction m with
    | zero => exact Nat.le_refl _
    | succ m ih =>
      show C74.cn m f + (if f m = true then 1 else 0) ≤ m + 1
      split <;> omega
  have e2 : ∀ (g : Nat → Nat) (m : Nat), (∀ x, g x ≤ n) → C74.tot m g ≤ m * n := by
    intro g m h
    induction m with
    | zero => exact Nat.zero_le _
    | succ m ih =>
      show C74.tot m g + g m ≤ (m + 1) * n
      have := h m
      rw [Nat.succ_mul]
      omega
  exact e2 _ n fun x => e1 _ n
theorem ok_ar {f : Addr} {fd : FuncData} (F : Fun K "_law_at_right" "_law_at_right" sAr f fd) (N : NN mg) (T : Cb K mg C) (Tr : HTr P w K mg base C) (Ki : HKi P w K mg base C) (Ht : HHt P w K mg base) (Hk : HHk P w K mg base) (Sg : HSg P w K mg base) : FnOk P w K mg base CX0 7 f fd ["_law_told", "_law_parts", "_law_prime"] (spAr K C) := by
  obtain ⟨fTr, dTr, GTr, mTr, bTr⟩ := Tr
  obtain ⟨fKi, dKi, GKi, mKi, bKi⟩ := Ki
  obtain ⟨fHt, dHt, GHt, mHt, kHt, bHt⟩ := Ht
  obtain ⟨fHk, dHk, GHk, mHk, kHk, bHk⟩ := Hk
  obtain ⟨fSg, dSg, GSg, mSg, kSg, bSg⟩ := Sg
  refine F.ok scAr (fun vs H Q E h => ?_) (fun cdv A outer s H vs Q E hr h => ?_)
  · obtain ⟨p, t, a1, a2, a3, a4, a6, n, rfl, _⟩ := h
    rfl
  · obtain ⟨p, t, a1, a2, a3, a4, a6, n, rfl, cu, ht, h1, h2, h3, h4, h6, hn, k⟩ := h
    obtain ⟨n2, n37⟩ := pr_bd ⟨n, hn, rfl⟩
    have gd := C74.good hn a1 a2 a3 a4 a6
    have pl := pts_le n a1 a2 a3 a4 a6
    have pl2 : C74.pts n a1 a2 a3 a4 a6 ≤ 1369 := Nat.le_trans pl (Nat.mul_le_mul (show n ≤ 37 by omega) (show n ≤ 37 by omega))
    have wt : Wd ((n : Int) - (C74.pts n a1 a2 a3 a4 a6 : Nat)) 20 := ⟨by show ((n : Int) - (C74.pts n a1 a2 a3 a4 a6 : Nat)).natAbs < 1048576; omega⟩
    have wn : Wd ((n : Nat) : Int) 6 := ⟨by show (n : Int).natAbs < 64; omega⟩
    refine ⟨_, pss_cons (ps_par (i := 3) (j := 4) (by rfl) scAr.nd rfl rfl (by decide) rfl rfl (pa_cons (pe_meth (pv 0) T.cl mTr GTr (hr.mono (by decide)) bTr .nil pass0 (pa_cons (pv 2) pa_nil)) (pa_cons (pe_meth (pv 0) T.cl mKi GKi (hr.mono (by decide)) bKi .nil pass0 (pa_cons (pv 2) pa_nil)) pa_nil)) (by rfl))
      (pss_cons (ps_if (PW.pt (pw_or (pt_cmpR op_ne (pv 3) (pe_call GHt (hr.mono (by decide)) rfl mHt kHt bHt .nil pass0 (pa_cons (pv 1) (pa_cons (pv 2) pa_nil))) (nomark _)) (pw_or1 (pt_cmpR op_ne (pv 4) (pe_call GHk (hr.mono (by decide)) rfl mHk kHk bHk .nil pass0 (pa_cons (pv 1) (pa_cons (pv 2) pa_nil))) (nomark _))))) (pss_one (ps_ret pe_bl)) pss_nil)
      (pss_cons (ps_if (pt_cmpR op_ne (pe_call GSg (hr.mono (by decide)) rfl mSg kSg bSg .nil pass0 (pa_cons (pv 1) (pa_cons (pv 2) pa_nil))) (pe_cmpR op_ne (pv 4) pe_str (nomark _)) (nomark _)) (pss_one (ps_ret pe_bl)) pss_nil)
      (pss_cons (ps_if (pt_cmpR op_eq (pv 4) pe_str (nomark _)) (pss_one (ps_ret (pe_cmpR op_le (pe_op op_mulW (pv 3) (pv 3)) (pe_op op_mulW pe_int (pv 2)) (nomark _)))) pss_nil)
      (pss_one (ps_ret (pe_cmpR op_eq (pe_callB call_abs (by rfl) N.abs PyProof.Rows.boot_abs (pa_cons (pv 3) pa_nil)) (pe_callTy call_int1 (by rfl) N.int PyProof.Rows.boot_int (pa_cons (pe_cmpR op_eq (pv 4) pe_str (nomark _)) pa_nil)) (nomark _))))))), ?_⟩
    have cu0 := cu
    obtain ⟨dx, tt, hp, htt⟩ := cu
    refine ⟨_, rfl, p, dx, _, rfl, hp, cf_no _ _ _ (by decide +kernel) (by decide +kernel) (by decide +kernel), _, rfl, p, a1, a2, a3, a4, a6, n, rfl, cu0, h1, h2, h3, h4, h6, hn, fun H1 s1 => ?_⟩
    refine ⟨_, rfl, p, dx, _, rfl, s1 _ _ hp, cf_no _ _ _ (by decide +kernel) (by decide +kernel) (by decide +kernel), _, rfl, p, a1, a2, a3, a4, a6, n, rfl, cu0.same s1, hn, ?_⟩
    refine ⟨_, _, rfl, ?_⟩
    refine ⟨_, rfl, _, rfl, _, rfl, t, a1, a2, a3, a4, a6, n, rfl, sqT_same s1 ht, h1, h2, h3, h4, h6, by omega, by omega, fun H2 s2 => ?_⟩
    refine ⟨rfl, _, rfl, itF (by rw [decide_eq_true rfl]; rfl) ?_⟩
    refine ⟨_, rfl, _, rfl, _, rfl, t, a1, a2, a3, a4, a6, n, rfl, sqT_same (Same.tr s1 s2) ht, h1, h2, h3, h4, h6, by omega, fun H3 s3 => ?_⟩
    have hk : (∃ x : Str, kd n a1 a2 a3 a4 a6 = .str x) := by
      unfold kd
      split
      · split
        · exact ⟨_, rfl⟩
        · exact ⟨_, rfl⟩
      · exact ⟨_, rfl⟩
    have k := k H3 (Same.tr s1 (Same.tr s2 s3))
    have ht3 := sqT_same (Same.tr s1 (Same.tr s2 s3)) ht
    obtain ⟨x, ex⟩ := hk
    have good_iff : (C74.dis a1 a2 a3 a4 a6 % (n : Nat) = 0 → decide (V.str x = V.str "good") = false) ∧ (C74.dis a1 a2 a3 a4 a6 % (n : Nat) ≠ 0 → decide (V.str x = V.str "good") = true) := by
      rw [← ex]
      unfold kd
      constructor
      · intro z
        rw [if_pos z]
        split
        · decide +kernel
        · decide +kernel
      · intro z
        rw [if_neg z]
        decide +kernel
    have node_iff : C74.dis a1 a2 a3 a4 a6 % (n : Nat) = 0 → (C74.sec a1 a2 a3 a4 a6 % (n : Nat) = 0 → decide (V.str x = V.str "node") = false) ∧ (C74.sec a1 a2 a3 a4 a6 % (n : Nat) ≠ 0 → decide (V.str x = V.str "node") = true) := by
      intro z
      rw [← ex]
      unfold kd
      rw [if_pos z]
      constructor
      · intro y
        rw [if_pos y]
        decide +kernel
      · intro y
        rw [if_neg y]
        decide +kernel
    rw [ex]
    refine ⟨rfl, _, rfl, itF (by rw [decide_eq_true rfl]; rfl) ?_⟩
    have fin : C74.dis a1 a2 a3 a4 a6 % (n : Nat) = 0 → ((if ((n : Int) - (C74.pts n a1 a2 a3 a4 a6 : Nat)) < 0 then -((n : Int) - (C74.pts n a1 a2 a3 a4 a6 : Nat)) else ((n : Int) - (C74.pts n a1 a2 a3 a4 a6 : Nat))) = (if decide (V.str x = V.str "node") = true then (1 : Int) else 0)) := by
      intro z
      by_cases y : C74.sec a1 a2 a3 a4 a6 % (n : Nat) = 0
      · rw [(node_iff z).1 y, gd.c z y]
        simp
      · rw [(node_iff z).2 y]
        rcases gd.n z y with q | q
        · rw [if_pos rfl, if_neg (by omega)]; omega
        · rw [if_pos rfl, if_pos (by omega)]; omega
    refine ⟨_, rfl, _, rfl, t, a1, a2, a3, a4, a6, n, rfl, ht3, h1, h2, h3, h4, h6, by omega, by omega, fun sg => ?_, fun sg => ?_⟩
    · have z := gd.s.mp sg
      have eg := good_iff.1 z
      refine ⟨_, rfl, rfl, rfl, _, rfl, itF (by rw [eg]; rfl) ?_⟩
      refine ⟨_, rfl, rfl, _, rfl, itF eg ?_⟩
      refine ⟨_, rfl, _, rfl, _, rfl, rfl, .inr ⟨_, rfl, rfl, ?_⟩⟩
      have fz := fin z
      rw [decide_eq_true]
      · exact k
      · exact congrArg V.int fz
    · have z : C74.dis a1 a2 a3 a4 a6 % (n : Nat) ≠ 0 := fun q => sg (gd.s.mpr q)
      have eg := good_iff.2 z
      refine ⟨_, rfl, rfl, rfl, _, rfl, itF (by rw [eg]; rfl) ?_⟩
      refine ⟨_, rfl, rfl, _, rfl, itT eg ?_⟩
      refine ⟨_, rfl, _, rfl, _, _, rfl, rfl, mI, _, rfl, _, _, rfl, rfl, mI, _, _, rfl, rfl, ?_⟩
      show Q (V.bl (decide _)) H3
      rw [decide_eq_true (gd.g z)]
      exact k
end
end Lk

set_option Elab.async false
set_option linter.all false
set_option maxRecDepth 100000
set_option maxHeartbeats 4000000
set_option exponentiation.threshold 10000
namespace Lk
open PySem L2
theorem sh_tup (ns : List Int) : SeqAt.shaped (.tuple (ns.map PyData.int)) = true ∧ PyData.eqv (.tuple (ns.map PyData.int)) (.tuple (ns.map PyData.int)) = true := by
  obtain ⟨a, b⟩ := d_ints ns
  have c : PyData.canLay0 (.tuple (ns.map PyData.int)) = true := by rw [PyData.canLay0]; exact a
  refine ⟨?_, SeqAt.eqv_refl _ c⟩
  unfold SeqAt.shaped
  rw [c, Bool.true_and]
  refine decide_eq_true ?_
  simp only [PyData.depth]
  omega
section
variable {P : Program} {w : World} {K : PySem.W.Frag} {mg : Str → Option Value} {base : Heap} {C : Addr}
abbrev sRi : Stmt := top 37
abbrev sLaw : Stmt := top 38
abbrev HCu (P : Program) (w : World) (K : PySem.W.Frag) (mg : Str → Option Value) (base : Heap) : Prop := Has P w K mg base "_law_hc_cubic" 3 ["_law_dice_here"] spCu
abbrev HAr (P : Program) (w : World) (K : PySem.W.Frag) (mg : Str → Option Value) (base : Heap) (C : Addr) : Prop := Has P w K mg base "_law_at_right" 7 ["_law_told", "_law_parts", "_law_prime"] (spAr K C)
def HCub (P : Program) (w : World) (K : PySem.W.Frag) (mg : Str → Option Value) (base : Heap) (C : Addr) : Prop :=
  ∃ f fd, FnOk P w K mg base CX0 3 f fd ["self", "a1", "a2", "a3", "a4", "a6"] (spIni C) ∧ Mk K C f ∧ Binds K fd ["self", "a1", "a2", "a3", "a4", "a6"] []
def spRi : Sp := fun vs H Q _ => ∃ p : Addr, vs = [.ref p] ∧ DicAt H p ∧ ∀ H' : Hp, Kq p H H' → DicAt H' p → Q (.bl true) H'
abbrev nRi : List Str := ["_law_dice_here", "_law_parts", "_law_told", "_law_primes", "_law_turn", "_law_prime"]
theorem scRi : FnScope nRi ["_law_dice_here"] (defScope sRi) := ⟨rfl, rfl, rfl, by decide +kernel, rfl, by decide +kernel, by decide +kernel⟩
theorem ok_ri {f : Addr} {fd : FuncData} (F : Fun K "_law_right" "_law_right" sRi f fd) (N : NN mg) (T : Cb K mg C) (R : HRoll P w K mg base) (Pk : HPick P w K mg base) (Cu : HCu P w K mg base) (I : HCub P w K mg base C)
    (Pd : HasP P w K mg base C "discriminant" 1 (getSp C "_discriminant")) (Ps : HasP P w K mg base C "second" 1 (getSp C "_second")) (Hn : HHn P w K mg base) (Ar : HAr P w K mg base C) : FnOk P w K mg base CX0 8 f fd ["_law_dice_here"] spRi := by
  obtain ⟨fR, dR, GR, mR, kR, bR⟩ := R
  obtain ⟨fPk, dPk, GPk, mPk, kPk, bPk⟩ := Pk
  obtain ⟨fCu, dCu, GCu, mCu, kCu, bCu⟩ := Cu
  obtain ⟨fHn, dHn, GHn, mHn, kHn, bHn⟩ := Hn
  obtain ⟨fAr, dAr, GAr, mAr, kAr, bAr⟩ := Ar
  obtain ⟨pPd, gPd, dPd, pPd_, GPd, bPd⟩ := Pd
  obtain ⟨pPs, gPs, dPs, pPs_, GPs, bPs⟩ := Ps
  obtain ⟨fI, dI, GI, MI, bI⟩ := I
  refine F.ok scRi (fun vs H Q E h => ?_) (fun cdv A outer s H vs Q E hr h => ?_)
  · obtain ⟨p, rfl, _⟩ := h
    rfl
  · obtain ⟨p, rfl, dc, k⟩ := h
    refine ⟨_, pss_cons (ps_set (i := 1) scRi.nd rfl (.inr rfl) (pe_call GCu (hr.mono (by decide)) rfl mCu kCu bCu .nil pass0 (pa_cons (pv 0) pa_nil)))
      (pss_cons (ps_if (pt_cmpR op_eq (pe_call GR (hr.mono (by decide)) rfl mR kR bR .nil pass0 (pa_cons (pv 0) (pa_cons pe_int pa_nil))) pe_int (nomark _)) (pss_one (ps_set (i := 1) scRi.nd rfl (.inr rfl) (pe_callTy call_tuple_of (by rfl) N.tuple (by decide +kernel) (pa_cons (pe_lc (own := [("_law_turn", 4)]) (g := gName 4) (tt := tYes) rfl scRi.nd (pi_range1 rfl N.range (pa_cons pe_int pa_nil)) (blkOk_by (own := [("_law_turn", 4)]) (N := nRi) (sc := defScope sRi) (by decide +kernel)) (fun _ _ _ _ _ => (pg_name (i := 4) scRi.nd rfl (.inl rfl))) (fun _ _ _ _ _ => pts_nil) (fun _ _ _ _ _ => (pe_op op_sub (pe_call GR (hr.mono (by decide)) rfl mR kR bR .nil pass0 (pa_cons (pv 0) (pa_cons pe_int pa_nil))) pe_int))) pa_nil)))) pss_nil)
      (pss_cons (ps_set (i := 2) scRi.nd rfl (.inr rfl) (pe_make MI GI (hr.mono (by decide)) rfl T.mgC bI .nil pass0 (pa_cons (pe_ix ix_tup (pv 1) pe_int (fun _ _ => rfl)) (pa_cons (pe_ix ix_tup (pv 1) pe_int (fun _ _ => rfl)) (pa_cons (pe_ix ix_tup (pv 1) pe_int (fun _ _ => rfl)) (pa_cons (pe_ix ix_tup (pv 1) pe_int (fun _ _ => rfl)) (pa_cons (pe_ix ix_tup (pv 1) pe_int (fun _ _ => rfl)) pa_nil)))))))
      (pss_cons (ps_if (pt_cmpR (op_neD hr.units) (pe_tup (pa_cons (pe_prop (pv 2) T.cl pPd_ GPd (hr.mono (by decide)) bPd .nil pass0 rfl) (pa_cons (pe_prop (pv 2) T.cl pPs_ GPs (hr.mono (by decide)) bPs .nil pass0 rfl) pa_nil))) (pe_call GHn (hr.mono (by decide)) rfl mHn kHn bHn .nil pass0 (pa_cons (pv 1) pa_nil)) (nomark _)) (pss_one (ps_ret pe_bl)) pss_nil)
      (pss_cons (ps_set (i := 3) scRi.nd rfl (.inl rfl) (pe_lst (pa_cons pe_int (pa_cons pe_int (pa_cons (pe_call GPk (hr.mono (by decide)) rfl mPk kPk bPk .nil pass0 (pa_cons (pv 0) (pa_cons (pe_lst (pa_cons pe_int (pa_cons pe_int (pa_cons pe_int (pa_cons pe_int pa_nil))))) pa_nil))) (pa_cons (pe_call GPk (hr.mono (by decide)) rfl mPk kPk bPk .nil pass0 (pa_cons (pv 0) (pa_cons (pe_lst (pa_cons pe_int (pa_cons pe_int (pa_cons pe_int (pa_cons pe_int (pa_cons pe_int (pa_cons pe_int pa_nil))))))) pa_nil))) pa_nil))))))
      (pss_one (ps_ret (pe_cmpR (op_eqD hr.units) (pe_lc (own := [("_law_prime", 5)]) (g := gName 5) rfl scRi.nd (pi_list (pv 3)) (blkOk_by (own := [("_law_prime", 5)]) (N := nRi) (sc := defScope sRi) (by decide +kernel)) (fun _ _ _ _ _ => (pg_name (i := 5) scRi.nd rfl (.inl rfl))) (fun _ _ _ _ _ => (pts_one (pt_not (pt_val (pe_call GAr (hr.mono (by decide)) rfl mAr kAr bAr .nil pass0 (pa_cons (pv 2) (pa_cons (pv 1) (pa_cons (pv 5) pa_nil)))))))) (fun _ _ _ _ _ => (pv 5))) (pe_lst pa_nil) (nomark _)))))))), ?_⟩
    refine ⟨_, rfl, p, rfl, dc, fun H0 t a1 a2 a3 a4 a6 k0 d0 ntp ht h1 h2 h3 h4 h6 => ?_⟩
    obtain ⟨a, b, c, hp0⟩ := d0
    refine ⟨_, rfl, p, a, b, c, 3, rfl, hp0, by decide, by decide, fun r a' c' r0 r1 => ?_⟩
    have ht' : (upd H0 p (.lst [.int a', .int b, .int c'])) t = some (.tup (vs5 a1 a2 a3 a4 a6)) := by rw [upd_ne ntp]; exact ht
    have k1 : Kq p H (upd H0 p (.lst [.int a', .int b, .int c'])) := Kq.trans k0 kq_upd
    have d1 : DicAt (upd H0 p (.lst [.int a', .int b, .int c'])) p := dic_upd
    clear ht k0 hp0
    generalize upd H0 p (.lst [.int a', .int b, .int c']) = H1 at *
    refine ⟨rfl, _, rfl, ?_⟩
    by_cases cr : r = 0
    · refine itT (decide_eq_true (by rw [cr])) ?_
      refine ⟨5, rfl, by decide, by decide, fun D hD => ?_⟩
      refine lc_range (AccR p H1 D (fun x => -1000 ≤ x ∧ x ≤ 1000)) (AccR.zero d1 hD) ?_ ?_
      · intro i H8 hi a8
        refine ⟨rfl, ?_⟩
        obtain ⟨q1, ⟨u1, u2, u3, hp8⟩, rest⟩ := a8
        refine ⟨_, rfl, p, u1, u2, u3, 2001, rfl, hp8, by decide, by decide, fun r2 a2 c2 q0 q1' => ?_⟩
        refine ⟨_, _, rfl, rfl, ?_⟩
        exact AccR.put ⟨q1, ⟨u1, u2, u3, hp8⟩, rest⟩ d1 hD kq_upd dic_upd (by show -1000 ≤ r2 - 1000 ∧ r2 - 1000 ≤ 1000; omega) (Nat.lt_trans hi (by decide))
      · rintro H8 ⟨k8, d8, xs, lx, bx, hx⟩
        obtain ⟨a1, a2, a3, a4, a6, rfl, h1, h2, h3, h4, h6⟩ := five lx bx
        refine ⟨D, _, rfl, .inl ⟨SqL.of hx, fun t nt => ?_⟩⟩
        obtain ⟨u1, u2, u3, hp8⟩ := d8
        have ntp : t ≠ p := fun z => by rw [z, hp8] at nt; cases nt
        have k1 := Kq.trans k1 (Kq.trans k8 (kq_same (same_new nt (o := .tup (vs5 a1 a2 a3 a4 a6)))))
        have d1 := dic_same (same_new nt (o := .tup (vs5 a1 a2 a3 a4 a6))) ⟨u1, u2, u3, hp8⟩
        have ht : (upd H8 t (.tup (vs5 a1 a2 a3 a4 a6))) t = some (.tup (vs5 a1 a2 a3 a4 a6)) := upd_same
        generalize eH : upd H8 t (.tup (vs5 a1 a2 a3 a4 a6)) = H1 at k1 d1 ht
        rw [show upd H8 t (.tup (List.map V.int [a1, a2, a3, a4, a6])) = H1 from eH]
        clear eH
        obtain ⟨a0, b0, c0, hp1⟩ := d1
        refine ⟨_, rfl, t, _, 0, _, rfl, rfl, SqT.of ht, rfl, _, rfl, t, _, 1, _, rfl, rfl, SqT.of ht, rfl, _, rfl, t, _, 2, _, rfl, rfl, SqT.of ht, rfl, _, rfl, t, _, 3, _, rfl, rfl, SqT.of ht, rfl, _, rfl, t, _, 4, _, rfl, rfl, SqT.of ht, rfl, fun x dx nx nd ne => ?_⟩
        refine ⟨x, dx, a1, a2, a3, a4, a6, rfl, upd_same, h1, h2, h3, h4, h6, fun H2 tt bu hx htt => ⟨rfl, ?_⟩⟩
        have S2 : Same H1 H2 := fun b o e => bu b o (ne_of_none e nx) (by rw [upd_ne (ne_of_none e nx), upd_ne (ne_of_none e nd)]; exact e)
        have ht2 := S2 _ _ ht
        refine ⟨_, rfl, x, dx, _, rfl, hx, x, dx, _, _, rfl, hx, cf_d _ _ _, _, rfl, x, dx, _, rfl, hx, x, dx, _, _, rfl, hx, cf_s _ _ _, (by show 2 ≤ sizeLine; decide), fun q nq => ?_⟩
        have S3 := same_new nq (o := .tup [.int (C74.dis a1 a2 a3 a4 a6), .int (C74.sec a1 a2 a3 a4 a6)])
        refine ⟨_, rfl, t, a1, a2, a3, a4, a6, rfl, SqT.of (S3 _ _ ht2), h1, h2, h3, h4, h6, fun H4 r S4 nr hr4 => ?_⟩
        refine ⟨_, _, .tup (SqT.of (S4 _ _ (upd_same (a := q)))) (dp_ints [C74.dis a1 a2 a3 a4 a6, C74.sec a1 a2 a3 a4 a6]), .tup (SqT.of hr4) (dp_ints [C74.dis a1 a2 a3 a4 a6, C74.sec a1 a2 a3 a4 a6]), (sh_tup _).1, (sh_tup _).1, ?_⟩
        rw [(sh_tup _).2]
        refine ⟨_, rfl, itF rfl ?_⟩
        have S14 : Same H1 H4 := Same.tr S2 (Same.tr S3 S4)
        have cu4 : CubAt C H4 x a1 a2 a3 a4 a6 := ⟨dx, tt, S4 _ _ (S3 _ _ hx), S4 _ _ (S3 _ _ htt)⟩
        have ht4 := S14 _ _ ht
        have hp4 := S14 _ _ hp1
        have K4 : Kq p H H4 := Kq.trans k1 (kq_same S14)
        have npx : x ≠ p := fun z => by rw [z, hp1] at nx; cases nx
        have nptt : tt ≠ p := fun z => by
          rw [z, S2 _ _ hp1] at htt; cases htt
        refine ⟨_, rfl, (by show 4 ≤ sizeLine; decide), fun l1 n1 => ?_⟩
        have nl1 : l1 ≠ p := fun z => by rw [z, hp4] at n1; cases n1
        refine ⟨p, l1, a0, b0, c0, _, rfl, same_new n1 _ _ hp4, SqL.of upd_same, nl1, by show 0 < 4; decide, by show 4 < 1000; decide, fun i1 v1 a7 c7 hv1 => ?_⟩
        have K5 : Kq p H (upd (upd H4 l1 (.lst [.int 5, .int 7, .int 11, .int 13])) p (.lst [.int a7, .int b0, .int c7])) := Kq.trans K4 (Kq.trans (kq_same (same_new n1)) kq_upd)
        have L5 : Kq p H4 (upd (upd H4 l1 (.lst [.int 5, .int 7, .int 11, .int 13])) p (.lst [.int a7, .int b0, .int c7])) := Kq.trans (kq_same (same_new n1)) kq_upd
        have hp5 : (upd (upd H4 l1 (.lst [.int 5, .int 7, .int 11, .int 13])) p (.lst [.int a7, .int b0, .int c7])) p = some (.lst [.int a7, .int b0, .int c7]) := upd_same
        generalize upd (upd H4 l1 (.lst [.int 5, .int 7, .int 11, .int 13])) p (.lst [.int a7, .int b0, .int c7]) = H5 at *
        refine ⟨_, rfl, (by show 6 ≤ sizeLine; decide), fun l2 n2 => ?_⟩
        have nl2 : l2 ≠ p := fun z => by rw [z, hp5] at n2; cases n2
        refine ⟨p, l2, a7, b0, c7, _, rfl, same_new n2 _ _ hp5, SqL.of upd_same, nl2, by show 0 < 6; decide, by show 6 < 1000; decide, fun i2 v2 a8 c8 hv2 => ?_⟩
        have K6 : Kq p H (upd (upd H5 l2 (.lst [.int 17, .int 19, .int 23, .int 29, .int 31, .int 37])) p (.lst [.int a8, .int b0, .int c8])) := Kq.trans K5 (Kq.trans (kq_same (same_new n2)) kq_upd)
        have L6 : Kq p H4 (upd (upd H5 l2 (.lst [.int 17, .int 19, .int 23, .int 29, .int 31, .int 37])) p (.lst [.int a8, .int b0, .int c8])) := Kq.trans L5 (Kq.trans (kq_same (same_new n2)) kq_upd)
        have D6 : DicAt (upd (upd H5 l2 (.lst [.int 17, .int 19, .int 23, .int 29, .int 31, .int 37])) p (.lst [.int a8, .int b0, .int c8])) p := dic_upd
        generalize upd (upd H5 l2 (.lst [.int 17, .int 19, .int 23, .int 29, .int 31, .int 37])) p (.lst [.int a8, .int b0, .int c8]) = H6 at *
        obtain ⟨m1, rfl, hm1⟩ : ∃ m : Nat, v1 = .int (m : Int) ∧ m ∈ C74.PR := by
          match i1, hv1 with
          | 0, h => cases h; exact ⟨5, rfl, by decide⟩
          | 1, h => cases h; exact ⟨7, rfl, by decide⟩
          | 2, h => cases h; exact ⟨11, rfl, by decide⟩
          | 3, h => cases h; exact ⟨13, rfl, by decide⟩
        obtain ⟨m2, rfl, hm2⟩ : ∃ m : Nat, v2 = .int (m : Int) ∧ m ∈ C74.PR := by
          match i2, hv2 with
          | 0, h => cases h; exact ⟨17, rfl, by decide⟩
          | 1, h => cases h; exact ⟨19, rfl, by decide⟩
          | 2, h => cases h; exact ⟨23, rfl, by decide⟩
          | 3, h => cases h; exact ⟨29, rfl, by decide⟩
          | 4, h => cases h; exact ⟨31, rfl, by decide⟩
          | 5, h => cases h; exact ⟨37, rfl, by decide⟩
        refine ⟨(by show 4 ≤ sizeLine; decide), fun lp nlp => ?_⟩
        obtain ⟨dx4, tt4, hx4, htt4⟩ := cu4
        have nx4 : x ≠ p := npx
        have ntt4 : tt4 ≠ p := fun z => by rw [z, hp4] at htt4; cases htt4
        have cu6 : CubAt C H6 x a1 a2 a3 a4 a6 := ⟨dx4, tt4, L6 _ _ nx4 hx4, L6 _ _ ntt4 htt4⟩
        have ht6 := L6 _ _ ntp ht4
        have S7 := same_new nlp (o := .lst [.int 2, .int 3, .int (m1 : Int), .int (m2 : Int)])
        have el : (upd H6 lp (.lst [.int 2, .int 3, .int (m1 : Int), .int (m2 : Int)])) lp = some (.lst [.int 2, .int 3, .int (m1 : Int), .int (m2 : Int)]) := upd_same
        generalize upd H6 lp (.lst [.int 2, .int 3, .int (m1 : Int), .int (m2 : Int)]) = H7 at *
        refine ⟨_, rfl, lp, rfl, ⟨_, SqL.of el⟩, fun D hD => ?_⟩
        refine lc_list (xs := [V.int 2, .int 3, .int (m1 : Int), .int (m2 : Int)]) (Acc H7 D fun _ => []) (Acc.zero hD rfl) ?_ ?_ ?_
        · intro i H8 _ a
          exact SqL.of (a.1 _ _ el)
        · intro i v H8 hv a
          obtain ⟨m, rfl, hm⟩ : ∃ m : Nat, v = .int (m : Int) ∧ m ∈ C74.PR := by
            match i, hv with
            | 0, h => cases h; exact ⟨2, rfl, by decide⟩
            | 1, h => cases h; exact ⟨3, rfl, by decide⟩
            | 2, h => cases h; exact ⟨m1, rfl, hm1⟩
            | 3, h => cases h; exact ⟨m2, rfl, hm2⟩
          refine ⟨rfl, ?_⟩
          refine ⟨_, rfl, _, rfl, _, rfl, x, t, a1, a2, a3, a4, a6, m, rfl, cu6.same (Same.tr S7 a.1), SqT.of (a.1 _ _ (S7 _ _ ht6)), h1, h2, h3, h4, h6, hm, fun H9 s9 => ?_⟩
          exact ⟨_, rfl, itF rfl (a.skip s9 rfl)⟩
        · intro H8 a
          refine ⟨(by show 0 ≤ sizeLine; decide), fun z nz => ?_⟩
          refine ⟨_, _, .lst (SqL.of (same_new nz _ _ a.2)) .nil, .lst (SqL.of upd_same) .nil, rfl, rfl, ?_⟩
          refine k _ (Kq.trans K6 (kq_same (Same.tr S7 (Same.tr a.1 (same_new nz))))) ?_
          exact dic_same (Same.tr S7 (Same.tr a.1 (same_new nz))) D6
  
    · refine itF (decide_eq_false (fun z => cr (V.int.inj z))) ?_
      have ht := ht'
      obtain ⟨a0, b0, c0, hp1⟩ := d1
      refine ⟨_, rfl, t, _, 0, _, rfl, rfl, SqT.of ht, rfl, _, rfl, t, _, 1, _, rfl, rfl, SqT.of ht, rfl, _, rfl, t, _, 2, _, rfl, rfl, SqT.of ht, rfl, _, rfl, t, _, 3, _, rfl, rfl, SqT.of ht, rfl, _, rfl, t, _, 4, _, rfl, rfl, SqT.of ht, rfl, fun x dx nx nd ne => ?_⟩
      refine ⟨x, dx, a1, a2, a3, a4, a6, rfl, upd_same, h1, h2, h3, h4, h6, fun H2 tt bu hx htt => ⟨rfl, ?_⟩⟩
      have S2 : Same H1 H2 := fun b o e => bu b o (ne_of_none e nx) (by rw [upd_ne (ne_of_none e nx), upd_ne (ne_of_none e nd)]; exact e)
      have ht2 := S2 _ _ ht
      refine ⟨_, rfl, x, dx, _, rfl, hx, x, dx, _, _, rfl, hx, cf_d _ _ _, _, rfl, x, dx, _, rfl, hx, x, dx, _, _, rfl, hx, cf_s _ _ _, (by show 2 ≤ sizeLine; decide), fun q nq => ?_⟩
      have S3 := same_new nq (o := .tup [.int (C74.dis a1 a2 a3 a4 a6), .int (C74.sec a1 a2 a3 a4 a6)])
      refine ⟨_, rfl, t, a1, a2, a3, a4, a6, rfl, SqT.of (S3 _ _ ht2), h1, h2, h3, h4, h6, fun H4 r S4 nr hr4 => ?_⟩
      refine ⟨_, _, .tup (SqT.of (S4 _ _ (upd_same (a := q)))) (dp_ints [C74.dis a1 a2 a3 a4 a6, C74.sec a1 a2 a3 a4 a6]), .tup (SqT.of hr4) (dp_ints [C74.dis a1 a2 a3 a4 a6, C74.sec a1 a2 a3 a4 a6]), (sh_tup _).1, (sh_tup _).1, ?_⟩
      rw [(sh_tup _).2]
      refine ⟨_, rfl, itF rfl ?_⟩
      have S14 : Same H1 H4 := Same.tr S2 (Same.tr S3 S4)
      have cu4 : CubAt C H4 x a1 a2 a3 a4 a6 := ⟨dx, tt, S4 _ _ (S3 _ _ hx), S4 _ _ (S3 _ _ htt)⟩
      have ht4 := S14 _ _ ht
      have hp4 := S14 _ _ hp1
      have K4 : Kq p H H4 := Kq.trans k1 (kq_same S14)
      have npx : x ≠ p := fun z => by rw [z, hp1] at nx; cases nx
      have nptt : tt ≠ p := fun z => by
        rw [z, S2 _ _ hp1] at htt; cases htt
      refine ⟨_, rfl, (by show 4 ≤ sizeLine; decide), fun l1 n1 => ?_⟩
      have nl1 : l1 ≠ p := fun z => by rw [z, hp4] at n1; cases n1
      refine ⟨p, l1, a0, b0, c0, _, rfl, same_new n1 _ _ hp4, SqL.of upd_same, nl1, by show 0 < 4; decide, by show 4 < 1000; decide, fun i1 v1 a7 c7 hv1 => ?_⟩
      have K5 : Kq p H (upd (upd H4 l1 (.lst [.int 5, .int 7, .int 11, .int 13])) p (.lst [.int a7, .int b0, .int c7])) := Kq.trans K4 (Kq.trans (kq_same (same_new n1)) kq_upd)
      have L5 : Kq p H4 (upd (upd H4 l1 (.lst [.int 5, .int 7, .int 11, .int 13])) p (.lst [.int a7, .int b0, .int c7])) := Kq.trans (kq_same (same_new n1)) kq_upd
      have hp5 : (upd (upd H4 l1 (.lst [.int 5, .int 7, .int 11, .int 13])) p (.lst [.int a7, .int b0, .int c7])) p = some (.lst [.int a7, .int b0, .int c7]) := upd_same
      generalize upd (upd H4 l1 (.lst [.int 5, .int 7, .int 11, .int 13])) p (.lst [.int a7, .int b0, .int c7]) = H5 at *
      refine ⟨_, rfl, (by show 6 ≤ sizeLine; decide), fun l2 n2 => ?_⟩
      have nl2 : l2 ≠ p := fun z => by rw [z, hp5] at n2; cases n2
      refine ⟨p, l2, a7, b0, c7, _, rfl, same_new n2 _ _ hp5, SqL.of upd_same, nl2, by show 0 < 6; decide, by show 6 < 1000; decide, fun i2 v2 a8 c8 hv2 => ?_⟩
      have K6 : Kq p H (upd (upd H5 l2 (.lst [.int 17, .int 19, .int 23, .int 29, .int 31, .int 37])) p (.lst [.int a8, .int b0, .int c8])) := Kq.trans K5 (Kq.trans (kq_same (same_new n2)) kq_upd)
      have L6 : Kq p H4 (upd (upd H5 l2 (.lst [.int 17, .int 19, .int 23, .int 29, .int 31, .int 37])) p (.lst [.int a8, .int b0, .int c8])) := Kq.trans L5 (Kq.trans (kq_same (same_new n2)) kq_upd)
      have D6 : DicAt (upd (upd H5 l2 (.lst [.int 17, .int 19, .int 23, .int 29, .int 31, .int 37])) p (.lst [.int a8, .int b0, .int c8])) p := dic_upd
      generalize upd (upd H5 l2 (.lst [.int 17, .int 19, .int 23, .int 29, .int 31, .int 37])) p (.lst [.int a8, .int b0, .int c8]) = H6 at *
      obtain ⟨m1, rfl, hm1⟩ : ∃ m : Nat, v1 = .int (m : Int) ∧ m ∈ C74.PR := by
        match i1, hv1 with
        | 0, h => cases h; exact ⟨5, rfl, by decide⟩
        | 1, h => cases h; exact ⟨7, rfl, by decide⟩
        | 2, h => cases h; exact ⟨11, rfl, by decide⟩
        | 3, h => cases h; exact ⟨13, rfl, by decide⟩
      obtain ⟨m2, rfl, hm2⟩ : ∃ m : Nat, v2 = .int (m : Int) ∧ m ∈ C74.PR := by
        match i2, hv2 with
        | 0, h => cases h; exact ⟨17, rfl, by decide⟩
        | 1, h => cases h; exact ⟨19, rfl, by decide⟩
        | 2, h => cases h; exact ⟨23, rfl, by decide⟩
        | 3, h => cases h; exact ⟨29, rfl, by decide⟩
        | 4, h => cases h; exact ⟨31, rfl, by decide⟩
        | 5, h => cases h; exact ⟨37, rfl, by decide⟩
      refine ⟨(by show 4 ≤ sizeLine; decide), fun lp nlp => ?_⟩
      obtain ⟨dx4, tt4, hx4, htt4⟩ := cu4
      have nx4 : x ≠ p := npx
      have ntt4 : tt4 ≠ p := fun z => by rw [z, hp4] at htt4; cases htt4
      have cu6 : CubAt C H6 x a1 a2 a3 a4 a6 := ⟨dx4, tt4, L6 _ _ nx4 hx4, L6 _ _ ntt4 htt4⟩
      have ht6 := L6 _ _ ntp ht4
      have S7 := same_new nlp (o := .lst [.int 2, .int 3, .int (m1 : Int), .int (m2 : Int)])
      have el : (upd H6 lp (.lst [.int 2, .int 3, .int (m1 : Int), .int (m2 : Int)])) lp = some (.lst [.int 2, .int 3, .int (m1 : Int), .int (m2 : Int)]) := upd_same
      generalize upd H6 lp (.lst [.int 2, .int 3, .int (m1 : Int), .int (m2 : Int)]) = H7 at *
      refine ⟨_, rfl, lp, rfl, ⟨_, SqL.of el⟩, fun D hD => ?_⟩
      refine lc_list (xs := [V.int 2, .int 3, .int (m1 : Int), .int (m2 : Int)]) (Acc H7 D fun _ => []) (Acc.zero hD rfl) ?_ ?_ ?_
      · intro i H8 _ a
        exact SqL.of (a.1 _ _ el)
      · intro i v H8 hv a
        obtain ⟨m, rfl, hm⟩ : ∃ m : Nat, v = .int (m : Int) ∧ m ∈ C74.PR := by
          match i, hv with
          | 0, h => cases h; exact ⟨2, rfl, by decide⟩
          | 1, h => cases h; exact ⟨3, rfl, by decide⟩
          | 2, h => cases h; exact ⟨m1, rfl, hm1⟩
          | 3, h => cases h; exact ⟨m2, rfl, hm2⟩
        refine ⟨rfl, ?_⟩
        refine ⟨_, rfl, _, rfl, _, rfl, x, t, a1, a2, a3, a4, a6, m, rfl, cu6.same (Same.tr S7 a.1), SqT.of (a.1 _ _ (S7 _ _ ht6)), h1, h2, h3, h4, h6, hm, fun H9 s9 => ?_⟩
        exact ⟨_, rfl, itF rfl (a.skip s9 rfl)⟩
      · intro H8 a
        refine ⟨(by show 0 ≤ sizeLine; decide), fun z nz => ?_⟩
        refine ⟨_, _, .lst (SqL.of (same_new nz _ _ a.2)) .nil, .lst (SqL.of upd_same) .nil, rfl, rfl, ?_⟩
        refine k _ (Kq.trans K6 (kq_same (Same.tr S7 (Same.tr a.1 (same_new nz))))) ?_
        exact dic_same (Same.tr S7 (Same.tr a.1 (same_new nz))) D6

abbrev HRi (P : Program) (w : World) (K : PySem.W.Frag) (mg : Str → Option Value) (base : Heap) : Prop := Has P w K mg base "_law_right" 8 ["_law_dice_here"] spRi
abbrev HDi (P : Program) (w : World) (K : PySem.W.Frag) (mg : Str → Option Value) (base : Heap) : Prop := Has P w K mg base "_law_dice" 1 ["_law_script", "_law_spot"] (spDic K)
def spLaw (K : PySem.W.Frag) : Sp := fun vs H Q _ => ∃ (a : Addr) (ns : List Int), vs = [.ref a] ∧ SqL K H a (ns.map V.int) ∧ ∀ H', Q (.bl true) H'
abbrev nLaw : List Str := ["_law_script", "_law_spot", "_law_dice_here", "_law_first", "_law_last", "_law_prime"]
theorem scLaw : FnScope nLaw ["_law_script"] (defScope sLaw) := ⟨rfl, rfl, rfl, by decide +kernel, rfl, by decide +kernel, by decide +kernel⟩
theorem ok_law {f : Addr} {fd : FuncData} (F : Fun K "law" "law" sLaw f fd) (N : NN mg) (T : Cb K mg C) (Di : HDi P w K mg base) (Ri : HRi P w K mg base) (I : HCub P w K mg base C) (Tr : HTr P w K mg base C) (Ki : HKi P w K mg base C)
    (Pd : HasP P w K mg base C "discriminant" 1 (getSp C "_discriminant")) (Ps : HasP P w K mg base C "second" 1 (getSp C "_second")) : FnOk P w K mg base CX0 9 f fd ["_law_script"] (spLaw K) := by
  obtain ⟨fDi, dDi, GDi, mDi, kDi, bDi⟩ := Di
  obtain ⟨fRi, dRi, GRi, mRi, kRi, bRi⟩ := Ri
  obtain ⟨fTr, dTr, GTr, mTr, bTr⟩ := Tr
  obtain ⟨fKi, dKi, GKi, mKi, bKi⟩ := Ki
  obtain ⟨pPd, gPd, dPd, pPd_, GPd, bPd⟩ := Pd
  obtain ⟨pPs, gPs, dPs, pPs_, GPs, bPs⟩ := Ps
  obtain ⟨fI, dI, GI, MI, bI⟩ := I
  refine F.ok scLaw (fun vs H Q E h => ?_) (fun cdv A outer s H vs Q E hr h => ?_)
  · obtain ⟨a, ns, rfl, _⟩ := h
    rfl
  · obtain ⟨a, ns, rfl, hL, k⟩ := h
    refine ⟨_, pss_cons (ps_for PassesOwn.never rfl (pi_range1 rfl N.range (pa_cons (pe_callB (call_max2 rfl) (by rfl) N.max (by decide +kernel) (pa_cons pe_int (pa_cons (pe_callB (call_min2 rfl) (by rfl) N.min (by decide +kernel) (pa_cons pe_int (pa_cons (pe_callB call_len_seq (by rfl) N.len (by decide +kernel) (pa_cons (pv 0) pa_nil)) pa_nil))) pa_nil))) pa_nil)) (pg_name (i := 1) scLaw.nd rfl (.inl rfl)) (pss_cons (ps_set (i := 2) scLaw.nd rfl (.inl rfl) (pe_call GDi (hr.mono (by decide)) rfl mDi kDi bDi .nil pass0 (pa_cons (pv 0) (pa_cons (pv 1) pa_nil))))
      (pss_one (ps_if (PW.pt (pw_or (pt_not (pt_val (pe_call GRi (hr.mono (by decide)) rfl mRi kRi bRi .nil pass0 (pa_cons (pv 2) pa_nil)))) (pw_or1 (pt_not (pt_val (pe_call GRi (hr.mono (by decide)) rfl mRi kRi bRi .nil pass0 (pa_cons (pv 2) pa_nil))))))) (pss_one (ps_ret pe_bl)) pss_nil))))
      (pss_cons (ps_asg (pe_tup (pa_cons (pe_make MI GI (hr.mono (by decide)) rfl T.mgC bI .nil pass0 (pa_cons pe_int (pa_cons (pe_un un_neg pe_int) (pa_cons pe_int (pa_cons pe_int (pa_cons pe_int pa_nil)))))) (pa_cons (pe_make MI GI (hr.mono (by decide)) rfl T.mgC bI .nil pass0 (pa_cons pe_int (pa_cons pe_int (pa_cons pe_int (pa_cons (pe_un un_neg pe_int) (pa_cons pe_int pa_nil)))))) pa_nil))) (pg_tup rfl (pgs_cons (pg_name (i := 3) scLaw.nd rfl (.inr rfl)) (pgs_cons (pg_name (i := 4) scLaw.nd rfl (.inr rfl)) pgs_nil))))
      (pss_cons (ps_if (pt_cmpR (op_neD hr.units) (pe_lc (own := [("_law_prime", 5)]) (g := gName 5) (tt := tYes) rfl scLaw.nd (pi_tup (pe_tup (pa_cons pe_int (pa_cons pe_int (pa_cons pe_int (pa_cons pe_int (pa_cons pe_int (pa_cons pe_int pa_nil)))))))) (blkOk_by (own := [("_law_prime", 5)]) (N := nLaw) (sc := defScope sLaw) (by decide +kernel)) (fun _ _ _ _ _ => (pg_name (i := 5) scLaw.nd rfl (.inl rfl))) (fun _ _ _ _ _ => pts_nil) (fun _ _ _ _ _ => (pe_meth (pv 3) T.cl mTr GTr (hr.mono (by decide)) bTr .nil pass0 (pa_cons (pv 5) pa_nil)))) (pe_lst (pa_cons (pe_un un_neg pe_int) (pa_cons (pe_un un_neg pe_int) (pa_cons pe_int (pa_cons (pe_un un_neg pe_int) (pa_cons pe_int (pa_cons pe_int pa_nil))))))) (nomark _)) (pss_one (ps_ret pe_bl)) pss_nil)
      (pss_cons (ps_if (pt_cmpR (op_neD hr.units) (pe_lc (own := [("_law_prime", 5)]) (g := gName 5) (tt := tYes) rfl scLaw.nd (pi_tup (pe_tup (pa_cons pe_int (pa_cons pe_int (pa_cons pe_int (pa_cons pe_int (pa_cons pe_int pa_nil))))))) (blkOk_by (own := [("_law_prime", 5)]) (N := nLaw) (sc := defScope sLaw) (by decide +kernel)) (fun _ _ _ _ _ => (pg_name (i := 5) scLaw.nd rfl (.inl rfl))) (fun _ _ _ _ _ => pts_nil) (fun _ _ _ _ _ => (pe_meth (pv 4) T.cl mTr GTr (hr.mono (by decide)) bTr .nil pass0 (pa_cons (pv 5) pa_nil)))) (pe_lst (pa_cons (pe_un un_neg pe_int) (pa_cons (pe_un un_neg pe_int) (pa_cons (pe_un un_neg pe_int) (pa_cons (pe_un un_neg pe_int) (pa_cons (pe_un un_neg pe_int) pa_nil)))))) (nomark _)) (pss_one (ps_ret pe_bl)) pss_nil)
      (pss_one (ps_ret (pe_cmpR (op_eqD hr.units) (pe_lst (pa_cons (pe_prop (pv 3) T.cl pPd_ GPd (hr.mono (by decide)) bPd .nil pass0 rfl) (pa_cons (pe_prop (pv 3) T.cl pPs_ GPs (hr.mono (by decide)) bPs .nil pass0 rfl) (pa_cons (pe_meth (pv 3) T.cl mKi GKi (hr.mono (by decide)) bKi .nil pass0 (pa_cons pe_int pa_nil)) (pa_cons (pe_meth (pe_make MI GI (hr.mono (by decide)) rfl T.mgC bI .nil pass0 (pa_cons pe_int (pa_cons pe_int (pa_cons pe_int (pa_cons pe_int (pa_cons pe_int pa_nil)))))) T.cl mKi GKi (hr.mono (by decide)) bKi .nil pass0 (pa_cons pe_int pa_nil)) pa_nil))))) (pe_lst (pa_cons (pe_un un_neg pe_int) (pa_cons pe_int (pa_cons pe_str (pa_cons pe_str pa_nil))))) (nomark _))))))), ?_⟩
    refine ⟨_, rfl, a, _, rfl, .inl hL, _, _, rfl, _, _, rfl, _, rfl, ?_, ?_, for_range (fun i σ H' => ∃ u1 u2 : Option V, σ = [some (.ref a), u1, u2, none, none, none] ∧ Same H H') ⟨none, none, rfl, same_refl H⟩ ?_ ?_⟩
    · split <;> (try split) <;> omega
    · split <;> (try split) <;> omega
    · rintro i σ H' hi ⟨u1, u2, rfl, sm⟩
      have hi4 : i < 64 := by
        have e : ∀ z : Int, (if (if z < 3 then z else 3) > 1 then (if z < 3 then z else 3) else 1).toNat ≤ 4 := fun z => by split <;> (try split) <;> omega
        exact Nat.lt_of_lt_of_le hi (Nat.le_trans (e _) (by decide))
      refine ⟨_, rfl, _, rfl, a, ns, i, (by rw [Int.zero_add]; rfl), sqL_same sm hL, hi4, fun p x y np => ?_⟩
      have npH : H p = none := none_of sm np
      have S0 := Same.tr sm (same_new np (o := .lst [.int x, .int y, .int 0]))
      refine ⟨_, rfl, p, rfl, ⟨x, y, 0, upd_same⟩, fun H2 k2 d2 => ⟨_, rfl, itF rfl ?_⟩⟩
      refine ⟨_, rfl, p, rfl, d2, fun H3 k3 d3 => ⟨_, rfl, itF rfl ?_⟩⟩
      exact ⟨_, _, rfl, same_kq S0 npH (Kq.trans k2 k3)⟩
    rintro σ H1 ⟨u1, u2, rfl, sm⟩
    clear hL
    have en : ∀ n : Int, (-2 ≤ n ∧ n ≤ 2) → En n := fun n h => ⟨by omega, by omega⟩
    have mk : ∀ {H1 H2 : Hp} {x dx : Addr} {o : HO} {o2 : HO}, H1 x = none → H1 dx = none → But x (upd (upd H1 dx o) x o2) H2 → Same H1 H2 := fun {H1 H2 x dx o o2} nx nd bu b u e => bu b u (ne_of_none e nx) (by rw [upd_ne (ne_of_none e nx), upd_ne (ne_of_none e nd)]; exact e)
    refine ⟨_, rfl, fun x dx nx nd ne => ⟨x, dx, 0, -1, 1, 0, 0, rfl, upd_same, en _ (by decide), en _ (by decide), en _ (by decide), en _ (by decide), en _ (by decide), fun H2 tt bu hx htt => ⟨rfl, ?_⟩⟩⟩
    have S2 := mk nx nd bu
    have cA : CubAt C H2 x 0 (-1) 1 0 0 := ⟨dx, tt, hx, htt⟩
    clear bu hx htt nx nd ne
    refine ⟨_, rfl, fun y dy ny ndy ney => ⟨y, dy, 0, 0, 1, -1, 0, rfl, upd_same, en _ (by decide), en _ (by decide), en _ (by decide), en _ (by decide), en _ (by decide), fun H3 tty buy hy htty => ⟨rfl, ?_⟩⟩⟩
    have S3 := mk ny ndy buy
    have cA3 := cA.same S3
    have cB : CubAt C H3 y 0 0 1 (-1) 0 := ⟨dy, tty, hy, htty⟩
    clear buy hy htty ny ndy ney S2 S3 cA
    refine ⟨(by show 2 ≤ sizeLine; decide), fun q nq => ?_⟩
    refine ⟨q, _, rfl, .inl (.inl upd_same), rfl, _, _, rfl, _, _, rfl, rfl, ?_⟩
    have S4 := same_new nq (o := .tup [.ref x, .ref y])
    have cA4 := cA3.same S4
    have cB4 := cB.same S4
    generalize upd H3 q (.tup [.ref x, .ref y]) = H4 at *
    clear S4
    refine ⟨(by show 6 ≤ sizeLine; decide), fun tp1 ntp1 => ?_⟩
    have T1 := same_new ntp1 (o := .tup [V.int 2, V.int 3, V.int 5, V.int 7, V.int 11, V.int 13])
    have etp1 : (upd H4 tp1 (.tup [V.int 2, V.int 3, V.int 5, V.int 7, V.int 11, V.int 13])) tp1 = some (.tup [V.int 2, V.int 3, V.int 5, V.int 7, V.int 11, V.int 13]) := upd_same
    generalize upd H4 tp1 (.tup [V.int 2, V.int 3, V.int 5, V.int 7, V.int 11, V.int 13]) = G1 at *
    refine ⟨tp1, rfl, ⟨_, SqT.of etp1⟩, fun D1 hD1 => ?_⟩
    refine lc_tup (xs := [V.int 2, V.int 3, V.int 5, V.int 7, V.int 11, V.int 13]) (Acc G1 D1 fun j => (([(-2 : Int), (-1 : Int), (1 : Int), (-2 : Int), (1 : Int), (4 : Int)] : List Int).take j).map V.int) (Acc.zero hD1 rfl) ?_ ?_ ?_
    · intro j H8 _ a
      exact SqT.of (a.1 _ _ etp1)
    · intro j v H8 hv a8
      obtain ⟨m, u, rfl, hm, ev, eu⟩ : ∃ (m : Nat) (u : Int), v = .int (m : Int) ∧ m ∈ C74.PR ∧ (m : Int) - (C74.pts m 0 (-1) 1 0 0 : Nat) = u ∧ (([(-2 : Int), (-1 : Int), (1 : Int), (-2 : Int), (1 : Int), (4 : Int)] : List Int).take (j + 1)).map V.int = (([(-2 : Int), (-1 : Int), (1 : Int), (-2 : Int), (1 : Int), (4 : Int)] : List Int).take j).map V.int ++ [V.int u] := by
        match j, hv with
        | 0, h => cases h; exact ⟨2, -2, rfl, by decide, by decide +kernel, rfl⟩
        | 1, h => cases h; exact ⟨3, -1, rfl, by decide, by decide +kernel, rfl⟩
        | 2, h => cases h; exact ⟨5, 1, rfl, by decide, by decide +kernel, rfl⟩
        | 3, h => cases h; exact ⟨7, -2, rfl, by decide, by decide +kernel, rfl⟩
        | 4, h => cases h; exact ⟨11, 1, rfl, by decide, by decide +kernel, rfl⟩
        | 5, h => cases h; exact ⟨13, 4, rfl, by decide, by decide +kernel, rfl⟩
      have c8 := cA4.same (Same.tr (same_refl H4) (Same.tr T1 a8.1))
      have c88 := c8
      obtain ⟨dx8, tt8, hx8, _⟩ := c8
      refine ⟨rfl, ?_⟩
      refine ⟨_, rfl, _, dx8, _, rfl, hx8, cf_no _ _ _ (by decide +kernel) (by decide +kernel) (by decide +kernel), _, rfl, _, 0, (-1), 1, 0, 0, m, rfl, c88, by decide, by decide, by decide, by decide, by decide, hm, fun H9 s9 => ?_⟩
      refine a8.put hD1 s9 ?_ (by rw [ev]; exact eu)
      rw [List.length_map, List.length_take]
      exact Nat.lt_of_le_of_lt (Nat.min_le_right _ _) (by show 6 < sizeLine; decide)
    intro H8 a8
    refine ⟨_, rfl, _, rfl, _, rfl, (by show 6 ≤ sizeLine; decide), fun z1 nz1 => ?_⟩
    refine ⟨_, _, .lst (SqL.of (same_new nz1 _ _ a8.2)) (dp_ints [(-2 : Int), (-1 : Int), (1 : Int), (-2 : Int), (1 : Int), (4 : Int)]), .lst (SqL.of upd_same) (dp_ints [(-2 : Int), (-1 : Int), (1 : Int), (-2 : Int), (1 : Int), (4 : Int)]), (sh_ints _).1, (sh_ints _).1, ?_⟩
    rw [(sh_ints _).2]
    refine ⟨_, rfl, itF rfl ?_⟩
    have U1 := Same.tr (same_refl H4) (Same.tr T1 (Same.tr a8.1 (same_new nz1 (o := .lst (([(-2 : Int), (-1 : Int), (1 : Int), (-2 : Int), (1 : Int), (4 : Int)] : List Int).map V.int)))))
    have P1 : Same H8 (upd H8 z1 (.lst (([(-2 : Int), (-1 : Int), (1 : Int), (-2 : Int), (1 : Int), (4 : Int)] : List Int).map V.int))) := same_new nz1
    dsimp only
    rw [show (([(-2 : Int), (-1 : Int), (1 : Int), (-2 : Int), (1 : Int), (4 : Int)] : List Int).map V.int) = [V.int (-2), V.int (-1), V.int 1, V.int (-2), V.int 1, V.int 4] from rfl] at U1 P1
    generalize upd H8 z1 (.lst [V.int (-2), V.int (-1), V.int 1, V.int (-2), V.int 1, V.int 4]) = H8 at *
    clear a8
    refine ⟨(by show 5 ≤ sizeLine; decide), fun tp2 ntp2 => ?_⟩
    have T2 := same_new ntp2 (o := .tup [V.int 2, V.int 3, V.int 5, V.int 7, V.int 37])
    have etp2 : (upd H8 tp2 (.tup [V.int 2, V.int 3, V.int 5, V.int 7, V.int 37])) tp2 = some (.tup [V.int 2, V.int 3, V.int 5, V.int 7, V.int 37]) := upd_same
    generalize upd H8 tp2 (.tup [V.int 2, V.int 3, V.int 5, V.int 7, V.int 37]) = G2 at *
    refine ⟨tp2, rfl, ⟨_, SqT.of etp2⟩, fun D2 hD2 => ?_⟩
    refine lc_tup (xs := [V.int 2, V.int 3, V.int 5, V.int 7, V.int 37]) (Acc G2 D2 fun j => (([(-2 : Int), (-3 : Int), (-2 : Int), (-1 : Int), (-1 : Int)] : List Int).take j).map V.int) (Acc.zero hD2 rfl) ?_ ?_ ?_
    · intro j H8 _ a
      exact SqT.of (a.1 _ _ etp2)
    · intro j v H8 hv a8
      obtain ⟨m, u, rfl, hm, ev, eu⟩ : ∃ (m : Nat) (u : Int), v = .int (m : Int) ∧ m ∈ C74.PR ∧ (m : Int) - (C74.pts m 0 0 1 (-1) 0 : Nat) = u ∧ (([(-2 : Int), (-3 : Int), (-2 : Int), (-1 : Int), (-1 : Int)] : List Int).take (j + 1)).map V.int = (([(-2 : Int), (-3 : Int), (-2 : Int), (-1 : Int), (-1 : Int)] : List Int).take j).map V.int ++ [V.int u] := by
        match j, hv with
        | 0, h => cases h; exact ⟨2, -2, rfl, by decide, by decide +kernel, rfl⟩
        | 1, h => cases h; exact ⟨3, -3, rfl, by decide, by decide +kernel, rfl⟩
        | 2, h => cases h; exact ⟨5, -2, rfl, by decide, by decide +kernel, rfl⟩
        | 3, h => cases h; exact ⟨7, -1, rfl, by decide, by decide +kernel, rfl⟩
        | 4, h => cases h; exact ⟨37, -1, rfl, by decide, by decide +kernel, rfl⟩
      have c8 := cB4.same (Same.tr U1 (Same.tr T2 a8.1))
      have c88 := c8
      obtain ⟨dx8, tt8, hx8, _⟩ := c8
      refine ⟨rfl, ?_⟩
      refine ⟨_, rfl, _, dx8, _, rfl, hx8, cf_no _ _ _ (by decide +kernel) (by decide +kernel) (by decide +kernel), _, rfl, _, 0, 0, 1, (-1), 0, m, rfl, c88, by decide, by decide, by decide, by decide, by decide, hm, fun H9 s9 => ?_⟩
      refine a8.put hD2 s9 ?_ (by rw [ev]; exact eu)
      rw [List.length_map, List.length_take]
      exact Nat.lt_of_le_of_lt (Nat.min_le_right _ _) (by show 5 < sizeLine; decide)
    intro H8 a8
    refine ⟨_, rfl, _, rfl, _, rfl, _, rfl, _, rfl, (by show 5 ≤ sizeLine; decide), fun z2 nz2 => ?_⟩
    refine ⟨_, _, .lst (SqL.of (same_new nz2 _ _ a8.2)) (dp_ints [(-2 : Int), (-3 : Int), (-2 : Int), (-1 : Int), (-1 : Int)]), .lst (SqL.of upd_same) (dp_ints [(-2 : Int), (-3 : Int), (-2 : Int), (-1 : Int), (-1 : Int)]), (sh_ints _).1, (sh_ints _).1, ?_⟩
    rw [(sh_ints _).2]
    refine ⟨_, rfl, itF rfl ?_⟩
    have U2 := Same.tr U1 (Same.tr T2 (Same.tr a8.1 (same_new nz2 (o := .lst (([(-2 : Int), (-3 : Int), (-2 : Int), (-1 : Int), (-1 : Int)] : List Int).map V.int)))))
    have P2 : Same H8 (upd H8 z2 (.lst (([(-2 : Int), (-3 : Int), (-2 : Int), (-1 : Int), (-1 : Int)] : List Int).map V.int))) := same_new nz2
    dsimp only
    rw [show (([(-2 : Int), (-3 : Int), (-2 : Int), (-1 : Int), (-1 : Int)] : List Int).map V.int) = [V.int (-2), V.int (-3), V.int (-2), V.int (-1), V.int (-1)] from rfl] at U2 P2
    generalize upd H8 z2 (.lst [V.int (-2), V.int (-3), V.int (-2), V.int (-1), V.int (-1)]) = H8 at *
    clear a8
    have cA9 := cA4.same U2
    have cA99 := cA9
    obtain ⟨dx9, tt9, hx9, htt9⟩ := cA9
    refine ⟨_, rfl, x, dx9, _, rfl, hx9, x, dx9, _, _, rfl, hx9, cf_d _ _ _, _, rfl, x, dx9, _, rfl, hx9, x, dx9, _, _, rfl, hx9, cf_s _ _ _, ?_⟩
    refine ⟨_, rfl, x, dx9, _, rfl, hx9, cf_no _ _ _ (by decide +kernel) (by decide +kernel) (by decide +kernel), x, 0, -1, 1, 0, 0, 11, rfl, cA99, by decide, ?_⟩
    refine fun y dy ny ndy ney => ⟨y, dy, 0, 0, 1, 0, 0, rfl, upd_same, en _ (by decide), en _ (by decide), en _ (by decide), en _ (by decide), en _ (by decide), fun H10 tty buy hy htty => ⟨rfl, ?_⟩⟩
    refine ⟨y, dy, _, rfl, hy, cf_no _ _ _ (by decide +kernel) (by decide +kernel) (by decide +kernel), y, 0, 0, 1, 0, 0, 3, rfl, ⟨dy, tty, hy, htty⟩, by decide, ?_⟩
    refine ⟨(by show 4 ≤ sizeLine; decide), fun z3 nz3 => ?_⟩
    refine ⟨_, rfl, (by show 4 ≤ sizeLine; decide), fun z4 nz4 => ?_⟩
    have e1 : C74.dis 0 (-1) 1 0 0 = -11 := by decide +kernel
    have e2 : C74.sec 0 (-1) 1 0 0 = 16 := by decide +kernel
    have e3 : kd 11 0 (-1) 1 0 0 = .str "node" := by decide +kernel
    have e4 : kd 3 0 0 1 0 0 = .str "cusp" := by decide +kernel
    rw [e1, e2, e3, e4] at *
    refine ⟨.list [.int (-11), .int 16, .str "node", .str "cusp"], .list [.int (-11), .int 16, .str "node", .str "cusp"], .lst (SqL.of (same_new nz4 _ _ upd_same)) (.cons (.int _) (.cons (.int _) (.cons (.str _) (.cons (.str _) .nil)))), .lst (SqL.of upd_same) (.cons (.int _) (.cons (.int _) (.cons (.str _) (.cons (.str _) .nil)))), by decide +kernel, by decide +kernel, ?_⟩
    rw [show PyData.eqv (.list [.int (-11), .int 16, .str "node", .str "cusp"]) (.list [.int (-11), .int 16, .str "node", .str "cusp"]) = true by decide +kernel]
    exact k _
end
end Lk

set_option Elab.async false
set_option linter.all false
set_option maxRecDepth 100000
set_option maxHeartbeats 8000000
set_option exponentiation.threshold 10000
namespace Lk
open PySem L2
theorem loose__TOO_LONG {p : Program} {mg : Str → Option Value} {h : Heap} (x : PySem.W.XL p [(Str.ofString "_TOO_LONG", PySem.W.WData.int 1000000000000000000000000000000000000000000000000000000000000), (Str.ofString "MAX_FACTORED", PySem.W.WData.int 1000000000)] mg h) : ∃ t, mg "_TOO_LONG" = some (.int 1000000000000000000000000000000000000000000000000000000000000 t) := by
  obtain ⟨v, e, r⟩ := x.2.val _ (List.Mem.head _)
  cases r with
  | int i t => exact ⟨t, e⟩
theorem loose_MAX_FACTORED {p : Program} {mg : Str → Option Value} {h : Heap} (x : PySem.W.XL p [(Str.ofString "_TOO_LONG", PySem.W.WData.int 1000000000000000000000000000000000000000000000000000000000000), (Str.ofString "MAX_FACTORED", PySem.W.WData.int 1000000000)] mg h) : ∃ t, mg "MAX_FACTORED" = some (.int 1000000000 t) := by
  obtain ⟨v, e, r⟩ := x.2.val _ (List.Mem.tail _ (List.Mem.head _))
  cases r with
  | int i t => exact ⟨t, e⟩
/-- as LawAtS, of any program -/
def LawAtC (prog : Program) (w : World) (K : PySem.W.Frag) (CX : CXT) (k : Nat) (x : Str) (mg : Str → Option Value) (fa : Addr) (h : Heap) : Prop :=
  ∃ (fd : FuncData) (cs : List (Addr × Addr)) (sp : Sp), (∀ p ∈ cs, h.get? p.2 = some { cls := .none, data := .fields #[] }) ∧ (∀ p ∈ cs, K.lookup p.2 = none) ∧ (∀ p ∈ cs, PySem.W.CodeHd h p.1 p.2) ∧ (∀ (s : Shared) (u : Value), BindsTo s fd ⟨[u], []⟩ [(x, u)]) ∧
    (∀ (H : Hp) (a : Addr) (ns : List Int), ns.length ≤ 63 → True → (∀ p ∈ cs, H p.2 = some (.tbl #[])) → SqL K H a (ns.map V.int) → sp [.ref a] H (fun v _ => v = .bl true) fun _ _ _ => False) ∧
    ∀ base : Heap, K.In base → base.Ns mainGlobals mg → (∀ p ∈ cs, LamX.TabB base mg p.1 p.2) → FnOk prog w K mg base CX k fa fd [x] sp
theorem walkT {l : PySem.W.OpenLaw} {q : Program} {loose : List Str} {XP : (Str → Option Value) → Heap → Prop} {YP : World → Heap → Prop} {d : DefRec} {K : Params → PySem.W.Frag} {k : Nat} (hn : l.most = some 63) (hdf : d.params.defaults = []) (hr : Room k callerA)
    (hY : ∀ (w : World) (h : Heap), YP w h → (K w.params).In h)
    (F : ∀ (w : World) (mg : Str → Option Value) (fa : Addr) (h : Heap), YP w h → (K w.params).In h → h.Ns mainGlobals mg → XP mg h → mg d.name = some (.ref fa) → LawAtC l.prog w (K w.params) CX0 k "_law_script" mg fa h) :
    PySem.W.WalkO q loose XP YP l.row.toRowW d [] (fun f vs => PySem.call f vs) := by
  refine Att.attach_call hn hdf fun w s₀ s₁ mg mb fa o pm cd doc a vs ns G Y ho hd hcd hmg hobj hints hlen hg => ?_
  have KX := hY w _ Y
  obtain ⟨fd, cs, sp, hT, nT, C, hb, hsp, hF⟩ := F w mg fa _ Y KX G.T.g G.X hmg
  exact LamX.law_callTs KX G.T.g G.T.b G.T.builtins G.T.nolimit hg hT nT C G.T.bmain hobj hints (Nat.le_trans hlen (by decide)) hr hF hb (fun H hH hS => hsp H a ns hlen trivial hH hS) fun H e s' z => z
theorem scGet (j : Nat) (h : j = 3 ∨ j = 4) : FnScope ["self"] ["self"] (defScope (sIn j)) := by
  rcases h with rfl | rfl
  · exact ⟨rfl, rfl, rfl, by decide +kernel, rfl, by decide +kernel, by decide +kernel⟩
  · exact ⟨rfl, rfl, rfl, by decide +kernel, rfl, by decide +kernel, by decide +kernel⟩
theorem all_mk {P : Program} {w : World} {K : PySem.W.Frag} {h : Heap} {mg : Str → Option Value} {fa : Addr} (X : K.In h) (G : h.Ns mainGlobals mg) (hfa : mg "law" = some (.ref fa)) (h__TOO_LONG : ∃ t, mg "_TOO_LONG" = some (.int 1000000000000000000000000000000000000000000000000000000000000 t)) (h_MAX_FACTORED : ∃ t, mg "MAX_FACTORED" = some (.int 1000000000 t))
    {Cq fIq qpq3 fpq3 qpq4 fpq4 fmq10 fmq11 fd9 fd13 fd14 fd15 fd16 fd22 fd23 fd24 fd25 fd27 fd28 fd29 fd30 fd31 fd32 fd33 fd34 fd35 fd36 fd37 fd38 : Addr} {odIq anIq odpq3 anpq3 odpq4 anpq4 odmq10 anmq10 odmq11 anmq11 odd9 and9 odd13 and13 odd14 and14 odd15 and15 odd16 and16 odd22 and22 odd23 and23 odd24 and24 odd25 and25 odd27 and27 odd28 and28 odd29 and29 odd30 and30 odd31 and31 odd32 and32 odd33 and33 odd34 and34 odd35 and35 odd36 and36 odd37 and37 odd38 and38 : Option Addr} {slIq slpq3 slpq4 slmq10 slmq11 sld9 sld13 sld14 sld15 sld16 sld22 sld23 sld24 sld25 sld27 sld28 sld29 sld30 sld31 sld32 sld33 sld34 sld35 sld36 sld37 sld38 : Array (Option Value)} {ocIq kVIq dcIq pmIq ctIq cdIq ocpq3 kVpq3 dcpq3 pmpq3 ctpq3 cdpq3 ocpq4 kVpq4 dcpq4 pmpq4 ctpq4 cdpq4 ocmq10 kVmq10 dcmq10 pmmq10 ctmq10 cdmq10 ocmq11 kVmq11 dcmq11 pmmq11 ctmq11 cdmq11 ocd9 kVd9 dcd9 pmd9 ctd9 cdd9 ocd13 kVd13 dcd13 pmd13 ctd13 cdd13 ocd14 kVd14 dcd14 pmd14 ctd14 cdd14 ocd15 kVd15 dcd15 pmd15 ctd15 cdd15 ocd16 kVd16 dcd16 pmd16 ctd16 cdd16 ocd22 kVd22 dcd22 pmd22 ctd22 cdd22 ocd23 kVd23 dcd23 pmd23 ctd23 cdd23 ocd24 kVd24 dcd24 pmd24 ctd24 cdd24 ocd25 kVd25 dcd25 pmd25 ctd25 cdd25 ocd27 kVd27 dcd27 pmd27 ctd27 cdd27 ocd28 kVd28 dcd28 pmd28 ctd28 cdd28 ocd29 kVd29 dcd29 pmd29 ctd29 cdd29 ocd30 kVd30 dcd30 pmd30 ctd30 cdd30 ocd31 kVd31 dcd31 pmd31 ctd31 cdd31 ocd32 kVd32 dcd32 pmd32 ctd32 cdd32 ocd33 kVd33 dcd33 pmd33 ctd33 cdd33 ocd34 kVd34 dcd34 pmd34 ctd34 cdd34 ocd35 kVd35 dcd35 pmd35 ctd35 cdd35 ocd36 kVd36 dcd36 pmd36 ctd36 cdd36 ocd37 kVd37 dcd37 pmd37 ctd37 cdd37 ocd38 kVd38 dcd38 pmd38 ctd38 cdd38 : Value}
    {rspq3 rspq4 : List Value}
    {tkMAX_PRIME tkMAX_ENTRY tkMAX_COUNTED : Tok}
    (aCq : PySem.W.nsIn K mainGlobals "Cubic" = some (some (.ref Cq)))
    (pgq : PySem.W.plainGet K Cq Str.empty = true)
    (hdq : PySem.W.hasDictIn K Cq = true)
    (poq : PySem.W.plainOver K Cq = true)
    (saq : PySem.W.findIn K (.ref Cq) "__setattr__" = some (some (.builtin "object.__setattr__")))
    (mkq : PySem.W.makesIn K Cq = true)
    (kCq : PySem.W.keepIn K (.ref Cq) = true)
    (nq_told_entries : PySem.W.findIn K (.ref Cq) "_told_entries" = some none)
    (nq_discriminant : PySem.W.findIn K (.ref Cq) "_discriminant" = some none)
    (nq_second : PySem.W.findIn K (.ref Cq) "_second" = some none)
    (aIq : PySem.W.findIn K (.ref Cq) "__init__" = some (some (.ref fIq)))
    (iIq : PySem.W.isFn K (.ref fIq) = true)
    (lIq : K.lookup fIq = some ⟨ocIq, odIq, .func (PySem.W.fnOf "__init__" "Cubic.__init__" (defArgs (sIn 0)) (defBody (sIn 0)) (defScope (sIn 0)) .none kVIq dcIq pmIq anIq cdIq ctIq), slIq⟩)
    (cIq : PySem.W.codeIn K cdIq "Cubic.__init__" = true)
    (kIq : PySem.W.keepIn K (.ref fIq) = true)
    (apq3 : PySem.W.findIn K (.ref Cq) "discriminant" = some (some (.ref qpq3)))
    (gpq3 : PySem.W.specialIn K (.ref qpq3) "__get__" = some (some (.builtin "property.__get__")))
    (tpq3 : PySem.W.takesIn K (.ref qpq3) = some true)
    (rpq3 : PySem.W.recIn K qpq3 "property" = some (.ref fpq3 :: rspq3))
    (lpq3 : K.lookup fpq3 = some ⟨ocpq3, odpq3, .func (PySem.W.fnOf "discriminant" "Cubic.discriminant" (defArgs (sIn 3)) (defBody (sIn 3)) (defScope (sIn 3)) .none kVpq3 dcpq3 pmpq3 anpq3 cdpq3 ctpq3), slpq3⟩)
    (cpq3 : PySem.W.codeIn K cdpq3 "Cubic.discriminant" = true)
    (kpq3 : PySem.W.keepIn K (.ref fpq3) = true)
    (apq4 : PySem.W.findIn K (.ref Cq) "second" = some (some (.ref qpq4)))
    (gpq4 : PySem.W.specialIn K (.ref qpq4) "__get__" = some (some (.builtin "property.__get__")))
    (tpq4 : PySem.W.takesIn K (.ref qpq4) = some true)
    (rpq4 : PySem.W.recIn K qpq4 "property" = some (.ref fpq4 :: rspq4))
    (lpq4 : K.lookup fpq4 = some ⟨ocpq4, odpq4, .func (PySem.W.fnOf "second" "Cubic.second" (defArgs (sIn 4)) (defBody (sIn 4)) (defScope (sIn 4)) .none kVpq4 dcpq4 pmpq4 anpq4 cdpq4 ctpq4), slpq4⟩)
    (cpq4 : PySem.W.codeIn K cdpq4 "Cubic.second" = true)
    (kpq4 : PySem.W.keepIn K (.ref fpq4) = true)
    (amq10 : PySem.W.findIn K (.ref Cq) "trace_at" = some (some (.ref fmq10)))
    (imq10 : PySem.W.isFn K (.ref fmq10) = true)
    (lmq10 : K.lookup fmq10 = some ⟨ocmq10, odmq10, .func (PySem.W.fnOf "trace_at" "Cubic.trace_at" (defArgs (sIn 10)) (defBody (sIn 10)) (defScope (sIn 10)) .none kVmq10 dcmq10 pmmq10 anmq10 cdmq10 ctmq10), slmq10⟩)
    (cmq10 : PySem.W.codeIn K cdmq10 "Cubic.trace_at" = true)
    (kmq10 : PySem.W.keepIn K (.ref fmq10) = true)
    (amq11 : PySem.W.findIn K (.ref Cq) "kind_at" = some (some (.ref fmq11)))
    (imq11 : PySem.W.isFn K (.ref fmq11) = true)
    (lmq11 : K.lookup fmq11 = some ⟨ocmq11, odmq11, .func (PySem.W.fnOf "kind_at" "Cubic.kind_at" (defArgs (sIn 11)) (defBody (sIn 11)) (defScope (sIn 11)) .none kVmq11 dcmq11 pmmq11 anmq11 cdmq11 ctmq11), slmq11⟩)
    (cmq11 : PySem.W.codeIn K cdmq11 "Cubic.kind_at" = true)
    (kmq11 : PySem.W.keepIn K (.ref fmq11) = true)
    (ad9 : PySem.W.nsIn K mainGlobals "is_short_integer" = some (some (.ref fd9)))
    (ld9 : K.lookup fd9 = some ⟨ocd9, odd9, .func (PySem.W.fnOf "is_short_integer" "is_short_integer" (defArgs (sShort)) (defBody (sShort)) (defScope (sShort)) .none kVd9 dcd9 pmd9 and9 cdd9 ctd9), sld9⟩)
    (cd9 : PySem.W.codeIn K cdd9 "is_short_integer" = true)
    (kd9 : PySem.W.keepIn K (.ref fd9) = true)
    (ad13 : PySem.W.nsIn K mainGlobals "is_integer" = some (some (.ref fd13)))
    (ld13 : K.lookup fd13 = some ⟨ocd13, odd13, .func (PySem.W.fnOf "is_integer" "is_integer" (defArgs (sIsI)) (defBody (sIsI)) (defScope (sIsI)) .none kVd13 dcd13 pmd13 and13 cdd13 ctd13), sld13⟩)
    (cd13 : PySem.W.codeIn K cdd13 "is_integer" = true)
    (kd13 : PySem.W.keepIn K (.ref fd13) = true)
    (ad14 : PySem.W.nsIn K mainGlobals "is_prime" = some (some (.ref fd14)))
    (ld14 : K.lookup fd14 = some ⟨ocd14, odd14, .func (PySem.W.fnOf "is_prime" "is_prime" (defArgs (sPr)) (defBody (sPr)) (defScope (sPr)) .none kVd14 dcd14 pmd14 and14 cdd14 ctd14), sld14⟩)
    (cd14 : PySem.W.codeIn K cdd14 "is_prime" = true)
    (kd14 : PySem.W.keepIn K (.ref fd14) = true)
    (ad15 : PySem.W.nsIn K mainGlobals "check_prime" = some (some (.ref fd15)))
    (ld15 : K.lookup fd15 = some ⟨ocd15, odd15, .func (PySem.W.fnOf "check_prime" "check_prime" (defArgs (sCp)) (defBody (sCp)) (defScope (sCp)) .none kVd15 dcd15 pmd15 and15 cdd15 ctd15), sld15⟩)
    (cd15 : PySem.W.codeIn K cdd15 "check_prime" = true)
    (kd15 : PySem.W.keepIn K (.ref fd15) = true)
    (ad16 : PySem.W.nsIn K mainGlobals "_least_factor" = some (some (.ref fd16)))
    (ld16 : K.lookup fd16 = some ⟨ocd16, odd16, .func (PySem.W.fnOf "_least_factor" "_least_factor" (defArgs (sLf)) (defBody (sLf)) (defScope (sLf)) .none kVd16 dcd16 pmd16 and16 cdd16 ctd16), sld16⟩)
    (cd16 : PySem.W.codeIn K cdd16 "_least_factor" = true)
    (kd16 : PySem.W.keepIn K (.ref fd16) = true)
    (ad22 : PySem.W.nsIn K mainGlobals "_is_entry" = some (some (.ref fd22)))
    (ld22 : K.lookup fd22 = some ⟨ocd22, odd22, .func (PySem.W.fnOf "_is_entry" "_is_entry" (defArgs (sEn)) (defBody (sEn)) (defScope (sEn)) .none kVd22 dcd22 pmd22 and22 cdd22 ctd22), sld22⟩)
    (cd22 : PySem.W.codeIn K cdd22 "_is_entry" = true)
    (kd22 : PySem.W.keepIn K (.ref fd22) = true)
    (ad23 : PySem.W.nsIn K mainGlobals "_invariants" = some (some (.ref fd23)))
    (ld23 : K.lookup fd23 = some ⟨ocd23, odd23, .func (PySem.W.fnOf "_invariants" "_invariants" (defArgs (sIv)) (defBody (sIv)) (defScope (sIv)) .none kVd23 dcd23 pmd23 and23 cdd23 ctd23), sld23⟩)
    (cd23 : PySem.W.codeIn K cdd23 "_invariants" = true)
    (kd23 : PySem.W.keepIn K (.ref fd23) = true)
    (ad24 : PySem.W.nsIn K mainGlobals "_check_counted" = some (some (.ref fd24)))
    (ld24 : K.lookup fd24 = some ⟨ocd24, odd24, .func (PySem.W.fnOf "_check_counted" "_check_counted" (defArgs (sCc)) (defBody (sCc)) (defScope (sCc)) .none kVd24 dcd24 pmd24 and24 cdd24 ctd24), sld24⟩)
    (cd24 : PySem.W.codeIn K cdd24 "_check_counted" = true)
    (kd24 : PySem.W.keepIn K (.ref fd24) = true)
    (ad25 : PySem.W.nsIn K mainGlobals "_count_points" = some (some (.ref fd25)))
    (ld25 : K.lookup fd25 = some ⟨ocd25, odd25, .func (PySem.W.fnOf "_count_points" "_count_points" (defArgs (sCt)) (defBody (sCt)) (defScope (sCt)) .none kVd25 dcd25 pmd25 and25 cdd25 ctd25), sld25⟩)
    (cd25 : PySem.W.codeIn K cdd25 "_count_points" = true)
    (kd25 : PySem.W.keepIn K (.ref fd25) = true)
    (ad27 : PySem.W.nsIn K mainGlobals "_law_dice" = some (some (.ref fd27)))
    (ld27 : K.lookup fd27 = some ⟨ocd27, odd27, .func (PySem.W.fnOf "_law_dice" "_law_dice" (defArgs (sDic)) (defBody (sDic)) (defScope (sDic)) .none kVd27 dcd27 pmd27 and27 cdd27 ctd27), sld27⟩)
    (cd27 : PySem.W.codeIn K cdd27 "_law_dice" = true)
    (kd27 : PySem.W.keepIn K (.ref fd27) = true)
    (ad28 : PySem.W.nsIn K mainGlobals "_law_roll" = some (some (.ref fd28)))
    (ld28 : K.lookup fd28 = some ⟨ocd28, odd28, .func (PySem.W.fnOf "_law_roll" "_law_roll" (defArgs (sRoll)) (defBody (sRoll)) (defScope (sRoll)) .none kVd28 dcd28 pmd28 and28 cdd28 ctd28), sld28⟩)
    (cd28 : PySem.W.codeIn K cdd28 "_law_roll" = true)
    (kd28 : PySem.W.keepIn K (.ref fd28) = true)
    (ad29 : PySem.W.nsIn K mainGlobals "_law_pick" = some (some (.ref fd29)))
    (ld29 : K.lookup fd29 = some ⟨ocd29, odd29, .func (PySem.W.fnOf "_law_pick" "_law_pick" (defArgs (sPick)) (defBody (sPick)) (defScope (sPick)) .none kVd29 dcd29 pmd29 and29 cdd29 ctd29), sld29⟩)
    (cd29 : PySem.W.codeIn K cdd29 "_law_pick" = true)
    (kd29 : PySem.W.keepIn K (.ref fd29) = true)
    (ad30 : PySem.W.nsIn K mainGlobals "_law_hc_cubic" = some (some (.ref fd30)))
    (ld30 : K.lookup fd30 = some ⟨ocd30, odd30, .func (PySem.W.fnOf "_law_hc_cubic" "_law_hc_cubic" (defArgs (sCu)) (defBody (sCu)) (defScope (sCu)) .none kVd30 dcd30 pmd30 and30 cdd30 ctd30), sld30⟩)
    (cd30 : PySem.W.codeIn K cdd30 "_law_hc_cubic" = true)
    (kd30 : PySem.W.keepIn K (.ref fd30) = true)
    (ad31 : PySem.W.nsIn K mainGlobals "_law_hc_holds" = some (some (.ref fd31)))
    (ld31 : K.lookup fd31 = some ⟨ocd31, odd31, .func (PySem.W.fnOf "_law_hc_holds" "_law_hc_holds" (defArgs (sHo)) (defBody (sHo)) (defScope (sHo)) .none kVd31 dcd31 pmd31 and31 cdd31 ctd31), sld31⟩)
    (cd31 : PySem.W.codeIn K cdd31 "_law_hc_holds" = true)
    (kd31 : PySem.W.keepIn K (.ref fd31) = true)
    (ad32 : PySem.W.nsIn K mainGlobals "_law_hc_trace" = some (some (.ref fd32)))
    (ld32 : K.lookup fd32 = some ⟨ocd32, odd32, .func (PySem.W.fnOf "_law_hc_trace" "_law_hc_trace" (defArgs (sHt)) (defBody (sHt)) (defScope (sHt)) .none kVd32 dcd32 pmd32 and32 cdd32 ctd32), sld32⟩)
    (cd32 : PySem.W.codeIn K cdd32 "_law_hc_trace" = true)
    (kd32 : PySem.W.keepIn K (.ref fd32) = true)
    (ad33 : PySem.W.nsIn K mainGlobals "_law_hc_numbers" = some (some (.ref fd33)))
    (ld33 : K.lookup fd33 = some ⟨ocd33, odd33, .func (PySem.W.fnOf "_law_hc_numbers" "_law_hc_numbers" (defArgs (sHn)) (defBody (sHn)) (defScope (sHn)) .none kVd33 dcd33 pmd33 and33 cdd33 ctd33), sld33⟩)
    (cd33 : PySem.W.codeIn K cdd33 "_law_hc_numbers" = true)
    (kd33 : PySem.W.keepIn K (.ref fd33) = true)
    (ad34 : PySem.W.nsIn K mainGlobals "_law_hc_kind" = some (some (.ref fd34)))
    (ld34 : K.lookup fd34 = some ⟨ocd34, odd34, .func (PySem.W.fnOf "_law_hc_kind" "_law_hc_kind" (defArgs (sHk)) (defBody (sHk)) (defScope (sHk)) .none kVd34 dcd34 pmd34 and34 cdd34 ctd34), sld34⟩)
    (cd34 : PySem.W.codeIn K cdd34 "_law_hc_kind" = true)
    (kd34 : PySem.W.keepIn K (.ref fd34) = true)
    (ad35 : PySem.W.nsIn K mainGlobals "_law_singular" = some (some (.ref fd35)))
    (ld35 : K.lookup fd35 = some ⟨ocd35, odd35, .func (PySem.W.fnOf "_law_singular" "_law_singular" (defArgs (sSg)) (defBody (sSg)) (defScope (sSg)) .none kVd35 dcd35 pmd35 and35 cdd35 ctd35), sld35⟩)
    (cd35 : PySem.W.codeIn K cdd35 "_law_singular" = true)
    (kd35 : PySem.W.keepIn K (.ref fd35) = true)
    (ad36 : PySem.W.nsIn K mainGlobals "_law_at_right" = some (some (.ref fd36)))
    (ld36 : K.lookup fd36 = some ⟨ocd36, odd36, .func (PySem.W.fnOf "_law_at_right" "_law_at_right" (defArgs (sAr)) (defBody (sAr)) (defScope (sAr)) .none kVd36 dcd36 pmd36 and36 cdd36 ctd36), sld36⟩)
    (cd36 : PySem.W.codeIn K cdd36 "_law_at_right" = true)
    (kd36 : PySem.W.keepIn K (.ref fd36) = true)
    (ad37 : PySem.W.nsIn K mainGlobals "_law_right" = some (some (.ref fd37)))
    (ld37 : K.lookup fd37 = some ⟨ocd37, odd37, .func (PySem.W.fnOf "_law_right" "_law_right" (defArgs (sRi)) (defBody (sRi)) (defScope (sRi)) .none kVd37 dcd37 pmd37 and37 cdd37 ctd37), sld37⟩)
    (cd37 : PySem.W.codeIn K cdd37 "_law_right" = true)
    (kd37 : PySem.W.keepIn K (.ref fd37) = true)
    (ad38 : PySem.W.nsIn K mainGlobals "law" = some (some (.ref fd38)))
    (ld38 : K.lookup fd38 = some ⟨ocd38, odd38, .func (PySem.W.fnOf "law" "law" (defArgs (sLaw)) (defBody (sLaw)) (defScope (sLaw)) .none kVd38 dcd38 pmd38 and38 cdd38 ctd38), sld38⟩)
    (cd38 : PySem.W.codeIn K cdd38 "law" = true)
    (kd38 : PySem.W.keepIn K (.ref fd38) = true)
    (g_MAX_PRIME : PySem.W.nsIn K mainGlobals "MAX_PRIME" = some (some (.int 997 tkMAX_PRIME)))
    (g_MAX_ENTRY : PySem.W.nsIn K mainGlobals "MAX_ENTRY" = some (some (.int 1000 tkMAX_ENTRY)))
    (g_MAX_COUNTED : PySem.W.nsIn K mainGlobals "MAX_COUNTED" = some (some (.int 97 tkMAX_COUNTED)))
    (g_isqrt : PySem.W.nsIn K mainGlobals "isqrt" = some (some (.builtin "math.isqrt")))
    (z_int : PySem.W.nsIn K mainGlobals "int" = some none)
    (z_len : PySem.W.nsIn K mainGlobals "len" = some none)
    (z_abs : PySem.W.nsIn K mainGlobals "abs" = some none)
    (z_max : PySem.W.nsIn K mainGlobals "max" = some none)
    (z_min : PySem.W.nsIn K mainGlobals "min" = some none)
    (z_isinstance : PySem.W.nsIn K mainGlobals "isinstance" = some none)
    (z_bool : PySem.W.nsIn K mainGlobals "bool" = some none)
    (z_range : PySem.W.nsIn K mainGlobals "range" = some none)
    (z_all : PySem.W.nsIn K mainGlobals "all" = some none)
    (z_tuple : PySem.W.nsIn K mainGlobals "tuple" = some none)
    : LawAtC P w K CX0 9 "_law_script" mg fa h := by
  have e := hfa.symm.trans (PySem.W.mg_of X G ad38)
  cases e
  have clq : Cls K Cq := ⟨pgq, hdq, poq, saq⟩
  have FIq := fun_mk (st := sIn 0) lIq cIq kIq
  have bIq := FIq.binds (ps := ["self", "a1", "a2", "a3", "a4", "a6"]) fun _ _ _ _ _ _ us hl => match us, hl with | [_, _, _, _, _, _], _ => rfl
  have Fpq3 := fun_mk (st := sIn 3) lpq3 cpq3 kpq3
  have bpq3 := Fpq3.binds (ps := ["self"]) fun _ _ _ _ _ _ us hl => match us, hl with | [_], _ => rfl
  have Fpq4 := fun_mk (st := sIn 4) lpq4 cpq4 kpq4
  have bpq4 := Fpq4.binds (ps := ["self"]) fun _ _ _ _ _ _ us hl => match us, hl with | [_], _ => rfl
  have Fmq10 := fun_mk (st := sIn 10) lmq10 cmq10 kmq10
  have bmq10 := Fmq10.binds (ps := ["self", "prime"]) fun _ _ _ _ _ _ us hl => match us, hl with | [_, _], _ => rfl
  have Fmq11 := fun_mk (st := sIn 11) lmq11 cmq11 kmq11
  have bmq11 := Fmq11.binds (ps := ["self", "prime"]) fun _ _ _ _ _ _ us hl => match us, hl with | [_, _], _ => rfl
  have F9 := fun_mk (st := sShort) ld9 cd9 kd9
  have b9 := F9.binds (ps := ["value"]) fun _ _ _ _ _ _ us hl => match us, hl with | [_], _ => rfl
  have g9 := PySem.W.mg_of X G ad9
  have F13 := fun_mk (st := sIsI) ld13 cd13 kd13
  have b13 := F13.binds (ps := ["value"]) fun _ _ _ _ _ _ us hl => match us, hl with | [_], _ => rfl
  have g13 := PySem.W.mg_of X G ad13
  have F14 := fun_mk (st := sPr) ld14 cd14 kd14
  have b14 := F14.binds (ps := ["value"]) fun _ _ _ _ _ _ us hl => match us, hl with | [_], _ => rfl
  have g14 := PySem.W.mg_of X G ad14
  have F15 := fun_mk (st := sCp) ld15 cd15 kd15
  have b15 := F15.binds (ps := ["prime"]) fun _ _ _ _ _ _ us hl => match us, hl with | [_], _ => rfl
  have g15 := PySem.W.mg_of X G ad15
  have F16 := fun_mk (st := sLf) ld16 cd16 kd16
  have b16 := F16.binds (ps := ["number", "start"]) fun _ _ _ _ _ _ us hl => match us, hl with | [_, _], _ => rfl
  have g16 := PySem.W.mg_of X G ad16
  have F22 := fun_mk (st := sEn) ld22 cd22 kd22
  have b22 := F22.binds (ps := ["value"]) fun _ _ _ _ _ _ us hl => match us, hl with | [_], _ => rfl
  have g22 := PySem.W.mg_of X G ad22
  have F23 := fun_mk (st := sIv) ld23 cd23 kd23
  have b23 := F23.binds (ps := ["told"]) fun _ _ _ _ _ _ us hl => match us, hl with | [_], _ => rfl
  have g23 := PySem.W.mg_of X G ad23
  have F24 := fun_mk (st := sCc) ld24 cd24 kd24
  have b24 := F24.binds (ps := ["prime"]) fun _ _ _ _ _ _ us hl => match us, hl with | [_], _ => rfl
  have g24 := PySem.W.mg_of X G ad24
  have F25 := fun_mk (st := sCt) ld25 cd25 kd25
  have b25 := F25.binds (ps := ["told", "prime"]) fun _ _ _ _ _ _ us hl => match us, hl with | [_, _], _ => rfl
  have g25 := PySem.W.mg_of X G ad25
  have F27 := fun_mk (st := sDic) ld27 cd27 kd27
  have b27 := F27.binds (ps := ["_law_script", "_law_spot"]) fun _ _ _ _ _ _ us hl => match us, hl with | [_, _], _ => rfl
  have g27 := PySem.W.mg_of X G ad27
  have F28 := fun_mk (st := sRoll) ld28 cd28 kd28
  have b28 := F28.binds (ps := ["_law_dice_here", "_law_total"]) fun _ _ _ _ _ _ us hl => match us, hl with | [_, _], _ => rfl
  have g28 := PySem.W.mg_of X G ad28
  have F29 := fun_mk (st := sPick) ld29 cd29 kd29
  have b29 := F29.binds (ps := ["_law_dice_here", "_law_items"]) fun _ _ _ _ _ _ us hl => match us, hl with | [_, _], _ => rfl
  have g29 := PySem.W.mg_of X G ad29
  have F30 := fun_mk (st := sCu) ld30 cd30 kd30
  have b30 := F30.binds (ps := ["_law_dice_here"]) fun _ _ _ _ _ _ us hl => match us, hl with | [_], _ => rfl
  have g30 := PySem.W.mg_of X G ad30
  have F31 := fun_mk (st := sHo) ld31 cd31 kd31
  have b31 := F31.binds (ps := ["_law_parts", "_law_prime", "_law_x", "_law_y"]) fun _ _ _ _ _ _ us hl => match us, hl with | [_, _, _, _], _ => rfl
  have g31 := PySem.W.mg_of X G ad31
  have F32 := fun_mk (st := sHt) ld32 cd32 kd32
  have b32 := F32.binds (ps := ["_law_parts", "_law_prime"]) fun _ _ _ _ _ _ us hl => match us, hl with | [_, _], _ => rfl
  have g32 := PySem.W.mg_of X G ad32
  have F33 := fun_mk (st := sHn) ld33 cd33 kd33
  have b33 := F33.binds (ps := ["_law_parts"]) fun _ _ _ _ _ _ us hl => match us, hl with | [_], _ => rfl
  have g33 := PySem.W.mg_of X G ad33
  have F34 := fun_mk (st := sHk) ld34 cd34 kd34
  have b34 := F34.binds (ps := ["_law_parts", "_law_prime"]) fun _ _ _ _ _ _ us hl => match us, hl with | [_, _], _ => rfl
  have g34 := PySem.W.mg_of X G ad34
  have F35 := fun_mk (st := sSg) ld35 cd35 kd35
  have b35 := F35.binds (ps := ["_law_parts", "_law_prime"]) fun _ _ _ _ _ _ us hl => match us, hl with | [_, _], _ => rfl
  have g35 := PySem.W.mg_of X G ad35
  have F36 := fun_mk (st := sAr) ld36 cd36 kd36
  have b36 := F36.binds (ps := ["_law_told", "_law_parts", "_law_prime"]) fun _ _ _ _ _ _ us hl => match us, hl with | [_, _, _], _ => rfl
  have g36 := PySem.W.mg_of X G ad36
  have F37 := fun_mk (st := sRi) ld37 cd37 kd37
  have b37 := F37.binds (ps := ["_law_dice_here"]) fun _ _ _ _ _ _ us hl => match us, hl with | [_], _ => rfl
  have g37 := PySem.W.mg_of X G ad37
  have F38 := fun_mk (st := sLaw) ld38 cd38 kd38
  have b38 := F38.binds (ps := ["_law_script"]) fun _ _ _ _ _ _ us hl => match us, hl with | [_], _ => rfl
  have g38 := PySem.W.mg_of X G ad38
  refine ⟨PySem.W.fnOf "law" "law" (defArgs sLaw) (defBody sLaw) (defScope sLaw) .none kVd38 dcd38 pmd38 and38 cdd38 ctd38, [], spLaw K, (fun _ z => nomatch z), (fun _ z => nomatch z), (fun _ z => nomatch z), fun s v => .of_eq rfl, (fun H a ns _ _ _ hS => ⟨a, ns, rfl, hS, fun _ => rfl⟩), fun base _ _ _ => ?_⟩
  have N : NN mg := { int := PySem.W.mg_none_of X G z_int, len := PySem.W.mg_none_of X G z_len, abs := PySem.W.mg_none_of X G z_abs, max := PySem.W.mg_none_of X G z_max, min := PySem.W.mg_none_of X G z_min, isinstance := PySem.W.mg_none_of X G z_isinstance, bool := PySem.W.mg_none_of X G z_bool, range := PySem.W.mg_none_of X G z_range, all := PySem.W.mg_none_of X G z_all, tuple := PySem.W.mg_none_of X G z_tuple, tl := h__TOO_LONG, mf := h_MAX_FACTORED, mp := ⟨_, PySem.W.mg_of X G g_MAX_PRIME⟩, me := ⟨_, PySem.W.mg_of X G g_MAX_ENTRY⟩, mc := ⟨_, PySem.W.mg_of X G g_MAX_COUNTED⟩, isqrt := PySem.W.mg_of X G g_isqrt }
  have T : Cb K mg Cq := { mgC := PySem.W.mg_of X G aCq, cl := clq, nT := nq_told_entries, nD := nq_discriminant, nS := nq_second }
  have hSh : HSh P w K mg base := ⟨_, _, ok_short F9 N, g9, kd9, b9⟩
  have hIsI : HIsI P w K mg base := ⟨_, _, ok_isI F13 hSh, g13, kd13, b13⟩
  have hLf : HLf P w K mg base := ⟨_, _, ok_lf F16 N.isqrt N.range, g16, kd16, b16⟩
  have hPr : HPr P w K mg base := ⟨_, _, ok_pr F14 N hIsI hLf, g14, kd14, b14⟩
  have hCp : Has P w K mg base "check_prime" 4 ["prime"] spCp := ⟨_, _, ok_cp F15 N hPr, g15, kd15, b15⟩
  have hEn : HEn P w K mg base := ⟨_, _, ok_en F22 N hSh, g22, kd22, b22⟩
  have hIv : HIv P w K mg base := ⟨_, _, ok_iv F23, g23, kd23, b23⟩
  have hCc : HCc P w K mg base := ⟨_, _, ok_cc F24 N hCp, g24, kd24, b24⟩
  have hCt : HCt P w K mg base := ⟨_, _, ok_ct F25 N, g25, kd25, b25⟩
  have hI : HCub P w K mg base Cq := ⟨_, _, ok_ini FIq N T hEn hIv, ⟨mkq, aIq, iIq, kCq⟩, bIq⟩
  have hTr : HTr P w K mg base Cq := ⟨_, _, ok_tr Fmq10 T hCc hCt, ⟨amq10, imq10, kmq10⟩, bmq10⟩
  have hKi : HKi P w K mg base Cq := ⟨_, _, ok_ki Fmq11 T hCc, ⟨amq11, imq11, kmq11⟩, bmq11⟩
  have hPd : HasP P w K mg base Cq "discriminant" 1 (getSp Cq "_discriminant") := ⟨_, _, _, ⟨apq3, gpq3, tpq3, _, rpq3⟩, fn_getter lpq3 cpq3 (scGet 3 (.inl rfl)) rfl rfl clq nq_discriminant, bpq3⟩
  have hPs : HasP P w K mg base Cq "second" 1 (getSp Cq "_second") := ⟨_, _, _, ⟨apq4, gpq4, tpq4, _, rpq4⟩, fn_getter lpq4 cpq4 (scGet 4 (.inr rfl)) rfl rfl clq nq_second, bpq4⟩
  have oRoll := ok_roll (P := P) (w := w) (base := base) F28 N.bl
  have hRoll : HRoll P w K mg base := ⟨_, _, oRoll, g28, kd28, b28⟩
  have hPick : HPick P w K mg base := ⟨_, _, ok_pick F29 N.bl g28 kd28 b28 oRoll, g29, kd29, b29⟩
  have hDi : HDi P w K mg base := ⟨_, _, ok_dic F27 N.bl, g27, kd27, b27⟩
  have hCu : HCu P w K mg base := ⟨_, _, ok_cu F30 N hRoll hPick, g30, kd30, b30⟩
  have hHo : HHo P w K mg base := ⟨_, _, ok_ho F31, g31, kd31, b31⟩
  have hHt : HHt P w K mg base := ⟨_, _, ok_ht F32 N hHo, g32, kd32, b32⟩
  have hHn : HHn P w K mg base := ⟨_, _, ok_hn F33, g33, kd33, b33⟩
  have hHk : HHk P w K mg base := ⟨_, _, ok_hk F34 hHn, g34, kd34, b34⟩
  have hSg : HSg P w K mg base := ⟨_, _, ok_sg F35 N hHo, g35, kd35, b35⟩
  have hAr : HAr P w K mg base Cq := ⟨_, _, ok_ar F36 N T hTr hKi hHt hHk hSg, g36, kd36, b36⟩
  have hRi : HRi P w K mg base := ⟨_, _, ok_ri F37 N T hRoll hPick hCu hI hPd hPs hHn hAr, g37, kd37, b37⟩
  exact ok_law F38 N T hDi hRi hI hTr hKi hPd hPs
end Lk

set_option Elab.async false
set_option maxRecDepth 100000
open PySem PySem.W PyProof.Rows in
set_option maxRecDepth 100000 in
set_option maxHeartbeats 0 in
theorem PySem.Challenge.cw_lawseries_k74_whole_traces_and_kinds_of_holds : PySem.Challenge.rw_lawseries_k74_whole_traces_and_kinds_of.Holds := by
  w_on; o_law; k_head; (case hw => w_witness2)
  k_fill
  refine Lk.walkT (l := PySem.Challenge.rw_lawseries_k74_whole_traces_and_kinds_of) (k := 9) rfl rfl ⟨rfl, by decide, by decide⟩ (fun w h Y => PySem.W.kIn_of Y) ?F
  case F =>
    intro w mg fa h Y KX G XX hmg
    refine' Lk.all_mk KX G hmg (Lk.loose__TOO_LONG XX) (Lk.loose_MAX_FACTORED XX) ?aCq ?pgq ?hdq ?poq ?saq ?mkq ?kCq ?nq_told_entries ?nq_discriminant ?nq_second ?aIq ?iIq ?lIq ?cIq ?kIq ?apq3 ?gpq3 ?tpq3 ?rpq3 ?lpq3 ?cpq3 ?kpq3 ?apq4 ?gpq4 ?tpq4 ?rpq4 ?lpq4 ?cpq4 ?kpq4 ?amq10 ?imq10 ?lmq10 ?cmq10 ?kmq10 ?amq11 ?imq11 ?lmq11 ?cmq11 ?kmq11 ?ad9 ?ld9 ?cd9 ?kd9 ?ad13 ?ld13 ?cd13 ?kd13 ?ad14 ?ld14 ?cd14 ?kd14 ?ad15 ?ld15 ?cd15 ?kd15 ?ad16 ?ld16 ?cd16 ?kd16 ?ad22 ?ld22 ?cd22 ?kd22 ?ad23 ?ld23 ?cd23 ?kd23 ?ad24 ?ld24 ?cd24 ?kd24 ?ad25 ?ld25 ?cd25 ?kd25 ?ad27 ?ld27 ?cd27 ?kd27 ?ad28 ?ld28 ?cd28 ?kd28 ?ad29 ?ld29 ?cd29 ?kd29 ?ad30 ?ld30 ?cd30 ?kd30 ?ad31 ?ld31 ?cd31 ?kd31 ?ad32 ?ld32 ?cd32 ?kd32 ?ad33 ?ld33 ?cd33 ?kd33 ?ad34 ?ld34 ?cd34 ?kd34 ?ad35 ?ld35 ?cd35 ?kd35 ?ad36 ?ld36 ?cd36 ?kd36 ?ad37 ?ld37 ?cd37 ?kd37 ?ad38 ?ld38 ?cd38 ?kd38 ?g_MAX_PRIME ?g_MAX_ENTRY ?g_MAX_COUNTED ?g_isqrt ?z_int ?z_len ?z_abs ?z_max ?z_min ?z_isinstance ?z_bool ?z_range ?z_all ?z_tuple 
    (case aCq => k_is)
    (case pgq => k_is)
    (case hdq => k_is)
    (case poq => k_is)
    (case saq => k_is)
    (case mkq => k_is)
    (case kCq => k_is)
    (case nq_told_entries => k_is)
    (case nq_discriminant => k_is)
    (case nq_second => k_is)
    (case aIq => k_is)
    (case iIq => k_is)
    (case lIq => k_is)
    (case cIq => k_is)
    (case kIq => k_is)
    (case apq3 => k_is)
    (case gpq3 => k_is)
    (case tpq3 => k_is)
    (case rpq3 => k_is)
    (case lpq3 => k_is)
    (case cpq3 => k_is)
    (case kpq3 => k_is)
    (case apq4 => k_is)
    (case gpq4 => k_is)
    (case tpq4 => k_is)
    (case rpq4 => k_is)
    (case lpq4 => k_is)
    (case cpq4 => k_is)
    (case kpq4 => k_is)
    (case amq10 => k_is)
    (case imq10 => k_is)
    (case lmq10 => k_is)
    (case cmq10 => k_is)
    (case kmq10 => k_is)
    (case amq11 => k_is)
    (case imq11 => k_is)
    (case lmq11 => k_is)
    (case cmq11 => k_is)
    (case kmq11 => k_is)
    (case ad9 => k_is)
    (case ld9 => k_is)
    (case cd9 => k_is)
    (case kd9 => k_is)
    (case ad13 => k_is)
    (case ld13 => k_is)
    (case cd13 => k_is)
    (case kd13 => k_is)
    (case ad14 => k_is)
    (case ld14 => k_is)
    (case cd14 => k_is)
    (case kd14 => k_is)
    (case ad15 => k_is)
    (case ld15 => k_is)
    (case cd15 => k_is)
    (case kd15 => k_is)
    (case ad16 => k_is)
    (case ld16 => k_is)
    (case cd16 => k_is)
    (case kd16 => k_is)
    (case ad22 => k_is)
    (case ld22 => k_is)
    (case cd22 => k_is)
    (case kd22 => k_is)
    (case ad23 => k_is)
    (case ld23 => k_is)
    (case cd23 => k_is)
    (case kd23 => k_is)
    (case ad24 => k_is)
    (case ld24 => k_is)
    (case cd24 => k_is)
    (case kd24 => k_is)
    (case ad25 => k_is)
    (case ld25 => k_is)
    (case cd25 => k_is)
    (case kd25 => k_is)
    (case ad27 => k_is)
    (case ld27 => k_is)
    (case cd27 => k_is)
    (case kd27 => k_is)
    (case ad28 => k_is)
    (case ld28 => k_is)
    (case cd28 => k_is)
    (case kd28 => k_is)
    (case ad29 => k_is)
    (case ld29 => k_is)
    (case cd29 => k_is)
    (case kd29 => k_is)
    (case ad30 => k_is)
    (case ld30 => k_is)
    (case cd30 => k_is)
    (case kd30 => k_is)
    (case ad31 => k_is)
    (case ld31 => k_is)
    (case cd31 => k_is)
    (case kd31 => k_is)
    (case ad32 => k_is)
    (case ld32 => k_is)
    (case cd32 => k_is)
    (case kd32 => k_is)
    (case ad33 => k_is)
    (case ld33 => k_is)
    (case cd33 => k_is)
    (case kd33 => k_is)
    (case ad34 => k_is)
    (case ld34 => k_is)
    (case cd34 => k_is)
    (case kd34 => k_is)
    (case ad35 => k_is)
    (case ld35 => k_is)
    (case cd35 => k_is)
    (case kd35 => k_is)
    (case ad36 => k_is)
    (case ld36 => k_is)
    (case cd36 => k_is)
    (case kd36 => k_is)
    (case ad37 => k_is)
    (case ld37 => k_is)
    (case cd37 => k_is)
    (case kd37 => k_is)
    (case ad38 => k_is)
    (case ld38 => k_is)
    (case cd38 => k_is)
    (case kd38 => k_is)
    (case g_MAX_PRIME => k_is)
    (case g_MAX_ENTRY => k_is)
    (case g_MAX_COUNTED => k_is)
    (case g_isqrt => k_is)
    (case z_int => k_is)
    (case z_len => k_is)
    (case z_abs => k_is)
    (case z_max => k_is)
    (case z_min => k_is)
    (case z_isinstance => k_is)
    (case z_bool => k_is)
    (case z_range => k_is)
    (case z_all => k_is)
    (case z_tuple => k_is)

