import PyProof.Rows.All
import Wide.All
import OpenK.AllK
import Wide.FinOn
import HandS.ForExc
import HandS.ExcInit
import HandS.ForMost
import HandS.ExcIs
import HandS.ExcField
import HandS.Nested
import HandS.Lambda
import HandS.Defaults
import HandS.MakeKw
import HandS.ExcValue
import KE.KExcIs
import PyProof.ReprRoads
import HandS.Head0
import HandS.Head1
import HandS.Head2
import HandS.HeadEnd
import HandS.HeadHook1
import HandS.HeadHook2
import HandS.HeadHook3
import HandS.HeadHook4
import HandS.HeadWalk
import HandS.EndTab
import HandS.NoneIn
import PySem.Challenge.RW_partswithin_k00_errors_made
set_option Elab.async false
set_option linter.all false
set_option maxRecDepth 100000
set_option maxHeartbeats 4200000
namespace Mine
open PySem PySem.W PySem.Calls PyProof.Rows PySem.HandSPX
/-! ### an own class beneath ValueError, called with keywords too -/
/-- its object in the heap -/
def VeAt (h : Heap) (C : Addr) : Prop := ∃ nm q N bs up sn sub ab col dd k0 k1 k2 k3 k5, h.get? C = some (excClassObj nm q C N bs up true sn sub ab col dd k0 k1 k2 k3 k5 "ValueError.__new__") ∧ refsVE up = true
theorem VeAt.keeps {h h' : Heap} {C : Addr} (V : VeAt h C) (k : ∀ b o, h.get? b = some o → h'.get? b = some o) : VeAt h' C := by
  obtain ⟨nm, q, N, bs, up, sn, sub, ab, col, dd, k0, k1, k2, k3, k5, e, r⟩ := V
  exact ⟨nm, q, N, bs, up, sn, sub, ab, col, dd, k0, k1, k2, k3, k5, k _ _ e, r⟩
theorem over_ve {C : Addr} {up : List Value} (r : refsVE up = true) {T : String} {b : Bool} (e : veTail.contains (.type T) = b) : (Value.ref C :: up).contains (.type T) = b := by
  rw [List.contains_cons, refsVE_contains T up r, e]
  cases b <;> rfl
/-- the heap with the new exception of C behind the tuple of what it was made with -/
abbrev withX (h : Heap) (C : Addr) (us : List Value) : Heap := (h.push (kdv_tup us)).push (excO C h.objs.size)
theorem withX_keeps {h : Heap} {C : Addr} {us : List Value} (b : Addr) (o : Obj) (e : h.get? b = some o) : (withX h C us).get? b = some o :=
  Heap.get?_push_of_some _ (Heap.get?_push_of_some _ e)
theorem withX_at {h : Heap} {C : Addr} {us : List Value} : (withX h C us).get? (h.objs.size + 1) = some (excO C h.objs.size) := by heap_get
section
variable {pr : Program} {w : World} {A : Around} {E : Value → Shared → Prop} {R : Result → Shared → Prop} {s : Shared} {C fI : Addr} {us : List Value} {ks : List (Str × Value)}
theorem ve_check {m : Model} {Q : Unit → Shared → Prop} (V : VeAt s.heap C) (q : Q () s) : wpAny m A (checkBuiltinCall "ValueError.__new__" ⟨.ref C :: us, ks⟩) Q E s := by
  obtain ⟨hp, gs, dr, tk, os⟩ := s
  obtain ⟨_, _, _, _, _, _, _, _, _, _, _, _, _, _, _, here, r⟩ := V
  have VE := PySem.F.excBase_ValueError
  have yes := over_ve (C := C) r VE.hasB
  have star := VE.noStar
  simp only [checkBuiltinCall, VE.newKind, VE.newSplit, VE.newRow]
  repeat (first
    | refine wpAny_loadPart_at here ?_
    | (refine wpAny_isSubtype_exc here ?_
       rw [yes])
    | refine wpAny_staticBase_exc here ?_
    | refine wpAny_madeBy_exc here ?_
    | simp only [bne_self_eq_false, Bool.false_eq_true, if_false]
    | wp_step)
  exact q
theorem ve_new (V : VeAt s.heap C) (few : us.length ≤ sizeLine) (q : R (.ok (.ret (.ref (s.heap.objs.size + 1)))) { s with heap := withX s.heap C us }) : codeAny (model pr w) A (.builtin "ValueError.__new__" ⟨.ref C :: us, ks⟩) R s := by
  obtain ⟨hp, gs, dr, tk, os⟩ := s
  obtain ⟨_, _, _, _, _, _, _, _, _, _, _, _, _, _, _, here, r⟩ := V
  have VE := PySem.F.excBase_ValueError
  have ends := VE.ends
  have yes := over_ve (C := C) r VE.hasB
  have noA := over_ve (C := C) r VE.noAttr
  have noN := over_ve (C := C) r VE.noName
  refine codeAny_builtinAt VE.entry ?_
  unfold PySem.Builtin.«BaseException.__new__»
  refine PySem.wpAt_bind (PySem.wpAt_bind (PySem.wpAt_stack fun _ _ => PySem.wpAt_of_wpAny ?_))
  wp_walk
  refine PySem.wpAt_of_wpAny ?_
  rw [VE.owner]
  repeat (first
    | with_reducible refine wpAny_madeHere_exc VE.canon here ?_
    | with_reducible refine wpAny_loadPart_at here ?_
    | (with_reducible refine wpAny_isSubtype_exc here ?_
       first
         | rw [yes]
         | rw [noA]
         | rw [noN])
    | wp_step)
  show R _ _
  rw [Heap.size_push]
  exact q
/-- type.__call__ on such a class with its own __init__ -/
theorem ve_make {Q : Fin → Shared → Prop} (V : VeAt s.heap C) (look : Looks (model pr w) s.heap (typeLookup (.ref C) "__init__") (some (.ref fI))) (bnd : ∀ x, Looks (model pr w) s.heap (bindSpecial (.ref fI) x) (.ref fI, [x])) (few : us.length ≤ sizeLine)
    (q : codeAny (model pr w) A (.call (.ref fI) ⟨.ref (s.heap.objs.size + 1) :: us, ks⟩) (fun r s2 => match r with
      | .ok (.ret v) => v = .none ∧ Q (.done (.ret (.ref (s.heap.objs.size + 1)))) s2
      | .ok _ => False
      | .error e => E e s2) { s with heap := withX s.heap C us }) : wpAny (model pr w) A (Builtin.«type.__call__» ⟨.ref C :: us, ks⟩) Q E s := by
  have V0 := V
  obtain ⟨hp, gs, dr, tk, os⟩ := s
  obtain ⟨_, _, _, _, up, _, _, _, _, _, _, _, _, _, _, here, r⟩ := V
  repeat (first
    | with_reducible refine wpAny_loadPart_at here ?_
    | with_reducible refine wpAny_madeBy_exc here ?_
    | wp_step)
  refine codeAny_call_builtin_code (Code.quiet_builtin _ PySem.F.excBase_ValueError.quiet) (ve_check V0 (ve_new V0 few ?_))
  show wpAny _ _ _ _ _ _
  have here2 := withX_keeps (C := C) (us := us) _ _ here
  have itself : (Value.ref C :: up).contains (.ref C) = true := by simp
  have made := withX_at (h := hp) (C := C) (us := us)
  have look2 := look.keeps (withX_keeps (C := C) (us := us))
  have bnd2 := (bnd (.ref (hp.objs.size + 1))).keeps (withX_keeps (C := C) (us := us))
  unfold isInstance
  repeat (first
    | with_reducible refine wpAny_loadPart_at made ?_
    | (with_reducible refine wpAny_isSubtype_exc here2 ?_
       rw [itself])
    | wp_step)
  refine look2.at (wpAny_holding (wpAny_bind (bnd2.at (wpAny_bind (wpAny_call (codeAny_mono q fun z s2 hz => ?_))))))
  match z, hz with
  | .error _, hz => exact hz
  | .ok (.ret _), ⟨rfl, hz⟩ =>
    first
      | exact wpAny_pure (wpAny_pure hz)
      | (wp_walk; exact hz)
/-- such a class, called -/
theorem ve_call (V : VeAt s.heap C) (look : Looks (model pr w) s.heap (typeLookup (.ref C) "__init__") (some (.ref fI))) (bnd : ∀ x, Looks (model pr w) s.heap (bindSpecial (.ref fI) x) (.ref fI, [x])) (few : us.length ≤ sizeLine)
    (q : codeAny (model pr w) (A.under (.builtin "type.__call__" ⟨.ref C :: us, ks⟩)) (.call (.ref fI) ⟨.ref (s.heap.objs.size + 1) :: us, ks⟩) (InitBack (s.heap.objs.size + 1) R) { s with heap := withX s.heap C us }) :
    codeAny (model pr w) A (.call (.ref C) ⟨us, ks⟩) R s := by
  have V0 := V
  obtain ⟨hp, gs, dr, tk, os⟩ := s
  obtain ⟨_, _, _, _, _, _, _, _, _, _, _, _, _, _, _, here, _⟩ := V
  have f1 := tc_lookup
  have f2 := tc_bind (.ref C)
  have ty : (⟨hp, gs, dr, tk, os⟩ : Shared).TypeIs (.ref C) "type" := ⟨_, here, rfl⟩
  refine codeAny_of_tree ?_
  show wpAny (model pr w) _ (callAny (.ref C) ⟨us, ks⟩) _ _ _
  repeat (any_goals (first
    | assumption
    | with_reducible refine wpAny_loadPart_at here ?_
    | wp_step))
  refine ⟨rfl, codeAny_call_builtin_at (Code.quiet_builtin _ (by decide +kernel)) entry_typeCall (wpAny_check_type_call_sub here (ve_make V0 look bnd few (codeAny_mono q fun z s2 hz => ?_)))⟩
  match z, hz with
  | .error _, hz => exact hz
  | .ok (.ret _), hz => exact hz
end
end Mine
namespace Mine
open PySem L2 PySem.Spec PyProof.Rows
/-- C(e, ..), C an own exception class with its own __init__: the exception as a value -/
def tMkV (C : Addr) (sp : Sp) (dvs : List V) (ta : TA) : TE := fun σ H Q => ta σ H fun vs H1 => vs.length ≤ 1000 ∧ ∀ a, H1 a = none → sp (.ref a :: (vs ++ dvs)) (upd H1 a (exo a C none))
  (fun v H2 => v = .non ∧ Q (.ref a) H2) (fun _ _ _ => False)
/-- C(k = e, ..): by keywords alone -/
def tMkK (C : Addr) (n : Nat) (sp : Sp) (gV : List V → List V → List V) (tk : TA) : TE := fun σ H Q => tk σ H fun zs H1 => zs.length = n ∧ ∀ a, H1 a = none → sp (gV [.ref a] zs) (upd H1 a (exo a C none))
  (fun v H2 => v = .non ∧ Q (.ref a) H2) (fun _ _ _ => False)
section
variable {X : Cx} {CX : CXT} {C fI : Addr} {k : Nat} {fd : FuncData} {ps : List Str} {sp : Sp}
theorem oex_at {h : Heap} (T : OexC X.K C) (kin : X.K.In h) : VeAt h C := by
  obtain ⟨nm, q, N, bs, up, sn, sub, ab, col, dd, k0, k1, k2, k3, k5, e, r⟩ := T.cls
  exact ⟨nm, q, N, bs, up, sn, sub, ab, col, dd, k0, k1, k2, k3, k5, kin _ _ e, r⟩
/-- the call itself: a the new exception, all the parameters' values told by vs -/
theorem make_x {pins : List (Addr × Obj)} {σ : L2.St} {H : Hp} {s : Shared} {Q : VK} {us all : List Value} {ks : List (Str × Value)} {vs : List V} (T : OexC X.K C) (iC : PySem.W.findIn X.K (.ref C) "__init__" = some (some (.ref fI))) (tI : PySem.W.typeIn X.K (.ref fI) = some (.type "function"))
    (G : FnOk X.prog X.w X.K X.mg X.base CX k fI fd ps sp) (room : Room (k + 1) X.A) (out : Passes CX X (fun _ _ _ => False)) (I : Inv X pins σ H s) (few : us.length ≤ sizeLine)
    (bnd : ∀ s2 : Shared, X.K.In s2.heap → BindsTo s2 fd ⟨.ref (s.heap.objs.size + 1) :: us, ks⟩ (ps.zip all)) (rv : Vals vs all)
    (q : sp vs (upd H (s.heap.objs.size + 1) (exo (s.heap.objs.size + 1) C none)) (fun v H2 => v = .non ∧ Q (.ref (s.heap.objs.size + 1)) H2) fun _ _ _ => False) : wpAny (model X.prog X.w) X.A (call (.ref C) us ks) (EP X pins σ Q) X.xe s := by
  have J := I.laid (t' := s.toks) (a := s.heap.objs.size + 1) (o := exo (s.heap.objs.size + 1) C none) (h' := withX s.heap C us) withX_keeps (Nat.le_succ _) (exo_ok withX_at)
  refine wpAny_call (ve_call (oex_at T I.kIn) (PySem.W.looks_findIn I.kIn iC) (fun x => PySem.W.bind_fn I.kIn x tI) few
    (codeAny_mono (G.run _ X.stack _ _ _ all _ _ (fun _ _ _ => False) (room.make C us ks) (J.env0.make C us ks) (bnd _ J.kIn) rv q) fun z s2 hz => ?_))
  match z, hz with
  | .error er, hz => exact out pins σ _ _ er s2 J hz
  | .ok (.ret u), ⟨v, H2, y1, y2, y3, y4, y5, e, y6⟩ =>
    subst e
    obtain ⟨h2, g2, d2, t2, o2⟩ := s2
    exact ⟨y5, .ref (s.heap.objs.size + 1), H2, J.call' (ch := []) y1 y3 y4 y2 (fun b z => absurd z (by simp)), rfl, y6⟩
theorem pe_mkx {e : Expr} {es : List Expr} {ta : TA} {p pos : Pos} {x : Str} {ds : List Value} {dvs : List V} (T : OexC X.K C) (iC : PySem.W.findIn X.K (.ref C) "__init__" = some (some (.ref fI))) (tI : PySem.W.typeIn X.K (.ref fI) = some (.type "function")) (G : FnOk X.prog X.w X.K X.mg X.base CX k fI fd ps sp) (room : Room (k + 1) X.A) (bnd : Binds X.K fd ps ds) (rd : Vals dvs ds) (out : Passes CX X (fun _ _ _ => False)) (glob : Gl X x) (mC : X.mg x = some (.ref C)) (args : PA X (e :: es) ta)
    (nd : (x == ("__debug__" : Str)) = false := by decide) (line : starEach (e :: es) X.env = (false, eval e X.env) :: starEach es X.env := by rfl) (none2 : (backTo pos (starEach es X.env)).any (·.1) = false := by rfl) : PE X (.Call (.Name x p) (e :: es) [] pos) (tMkV C sp dvs ta) := by
  refine ⟨fun pins s0 σ H Q I0 h => wpAny_Call_Name_kw (ld_glob I0 glob mC ?_ nd)⟩
  refine PySem.W.callWith_K (h₀ := X.base) I0.ok.mod.kin T.kC (thn (args.run pos pins s0 σ H _ I0 h) fun us s ⟨vs, H1, I, r, len, q⟩ => ⟨I.kIn, ?_⟩) line none2
  have qa := q _ (I.hok.fresh (Nat.le_succ _))
  have rv : Vals (V.ref (s.heap.objs.size + 1) :: (vs ++ dvs)) (Value.ref (s.heap.objs.size + 1) :: us ++ ds) := .cons rfl (r.append rd)
  refine make_x (us := us) T iC tI G room out I (by rw [← Paired.length r, sizeLine_eq]; omega) (fun s2 kin => bnd s2 (Value.ref (s.heap.objs.size + 1) :: us) kin ?_) rv qa
  have le := rv.length
  rw [G.len _ _ _ _ qa] at le
  exact le.symm
theorem pe_mkxK {x : Str} {p pos : Pos} {ks : List Str} {kws : List Keyword} {tk : TA} {g : List Value → List Value → List Value} {gV : List V → List V → List V} (T : OexC X.K C) (iC : PySem.W.findIn X.K (.ref C) "__init__" = some (some (.ref fI))) (tI : PySem.W.typeIn X.K (.ref fI) = some (.type "function")) (G : FnOk X.prog X.w X.K X.mg X.base CX k fI fd ps sp) (room : Room (k + 1) X.A) (bnd : KBn X.K fd ps 1 ks g gV) (out : Passes CX X (fun _ _ _ => False)) (glob : Gl X x) (mC : X.mg x = some (.ref C)) (keys : PK X kws tk)
    (named : (backToKw pos (keywordEach kws X.env)).all (·.1.isSome) = true := by rfl) (names : (backToKw pos (keywordEach kws X.env)).filterMap (·.1) = ks := by rfl) (nd : (x == ("__debug__" : Str)) = false := by decide) (none2 : ((backTo pos (starEach [] X.env)).any (·.1) || (backToKw pos (keywordEach kws X.env)).any (·.1.isNone)) = false := by rfl) : PE X (.Call (.Name x p) [] kws pos) (tMkK C ks.length sp gV tk) := by
  refine ⟨fun pins s0 σ H Q I0 h => wpAny_Call_Name_kw (ld_glob I0 glob mC ?_ nd)⟩
  refine PySem.W.callWith_KW0 (h₀ := X.base) I0.ok.mod.kin T.kC named (thn (keys.run pos pins s0 σ H _ I0 h) fun ws s ⟨zs, H1, I, r, len, q⟩ => ⟨I.kIn, ?_⟩) none2
  rw [names]
  exact make_x T iC tI G room out I (Nat.zero_le _) (fun s2 kin => bnd.to s2 [_] ws kin rfl (r.length.symm.trans len)) (bnd.rel (vs := [.ref (s.heap.objs.size + 1)]) (.cons rfl .nil) r) (q _ (I.hok.fresh (Nat.le_succ _)))
end
/-! ### __init__ that stores its parameters -/
def spInit1 (K : PySem.W.Frag) (C : Addr) (fld : Str) : Sp := fun vs H Q _ => ∃ (a : Addr) (v : V), vs = [.ref a, v] ∧ OexC K C ∧ PySem.W.findIn K (.ref C) fld = some none ∧ H a = some (exo a C none) ∧
  ∀ dx, H dx = none → dx ≠ a → Q .non (upd (upd H dx (exd dx [(fld, v)])) a (exo a C (some dx)))
def spInit2 (K : PySem.W.Frag) (C : Addr) (f1 f2 : Str) : Sp := fun vs H Q _ => ∃ (a : Addr) (v1 v2 : V), vs = [.ref a, v1, v2] ∧ OexC K C ∧ PySem.W.findIn K (.ref C) f1 = some none ∧ PySem.W.findIn K (.ref C) f2 = some none ∧ H a = some (exo a C none) ∧
  ∀ dx, H dx = none → dx ≠ a → Q .non (upd (upd (upd H dx (exd dx [(f1, v1)])) a (exo a C (some dx))) dx (exd dx [(f2, v2), (f1, v1)]))
section
variable {w : World} {P : Program} {base : Heap} {K : PySem.W.Frag} {mg : Str → Option Value}
theorem ok_init1 {f C : Addr} {fd : FuncData} {qual p fld : Str} {st : Stmt} {q1 q2 q3 q4 : Pos} (F : Fun K "__init__" qual st f fd) (S : FnScope ["self", p] ["self", p] (defScope st))
    (hb : defBody st = [.Assign [.Attribute (.Name "self" q1) fld q2] (.Name p q3) q4]) (h0 : (defScope st).names.lookup ("self" : Str) = some NameKind.local) (h1 : (defScope st).names.lookup p = some NameKind.local) (hd : (p == ("__debug__" : Str)) = false) (hcd : (p == ("__classdict__" : Str)) = false) :
    FnOk P w K mg base CX0 1 f fd ["self", p] (spInit1 K C fld) := by
  refine F.ok S (fun vs H Q E h => ?_) (fun cdv A outer s H vs Q E hr h => ?_)
  · obtain ⟨a, v, rfl, _⟩ := h
    rfl
  · obtain ⟨a, v, rfl, T, no, ha, k⟩ := h
    rw [hb]
    refine ⟨_, pss_one (ps_ost (pe_var (i := 0) rfl (Or.inl h0)) (pe_var (i := 1) rfl (Or.inl h1) hd hcd)), ?_⟩
    exact ⟨_, rfl, _, rfl, a, C, rfl, T, no, .inl ⟨ha, fun dx n ne => k dx n ne⟩⟩
theorem ok_init2 {f C : Addr} {fd : FuncData} {qual p1 p2 f1 f2 : Str} {st : Stmt} {q1 q2 q3 q4 r1 r2 r3 r4 : Pos} (F : Fun K "__init__" qual st f fd) (S : FnScope ["self", p1, p2] ["self", p1, p2] (defScope st))
    (hb : defBody st = [.Assign [.Attribute (.Name "self" q1) f1 q2] (.Name p1 q3) q4, .Assign [.Attribute (.Name "self" r1) f2 r2] (.Name p2 r3) r4]) (h0 : (defScope st).names.lookup ("self" : Str) = some NameKind.local) (h1 : (defScope st).names.lookup p1 = some NameKind.local) (h2 : (defScope st).names.lookup p2 = some NameKind.local)
    (hd : (p1 == ("__debug__" : Str)) = false) (hcd : (p1 == ("__classdict__" : Str)) = false) (hd' : (p2 == ("__debug__" : Str)) = false) (hcd' : (p2 == ("__classdict__" : Str)) = false) :
    FnOk P w K mg base CX0 1 f fd ["self", p1, p2] (spInit2 K C f1 f2) := by
  refine F.ok S (fun vs H Q E h => ?_) (fun cdv A outer s H vs Q E hr h => ?_)
  · obtain ⟨a, v1, v2, rfl, _⟩ := h
    rfl
  · obtain ⟨a, v1, v2, rfl, T, no1, no2, ha, k⟩ := h
    rw [hb]
    refine ⟨_, pss_cons (ps_ost (pe_var (i := 0) rfl (Or.inl h0)) (pe_var (i := 1) rfl (Or.inl h1) hd hcd)) (pss_one (ps_ost (pe_var (i := 0) rfl (Or.inl h0)) (pe_var (i := 2) rfl (Or.inl h2) hd' hcd'))), ?_⟩
    refine ⟨_, rfl, _, rfl, a, C, rfl, T, no1, .inl ⟨ha, fun dx n ne => ?_⟩⟩
    refine ⟨_, rfl, _, rfl, a, C, rfl, T, no2, .inr ⟨dx, _, upd_same, by rw [upd_ne ne, upd_same], (by show 1 ≤ 900; decide), ?_⟩⟩
    exact k dx n ne
end
/-! ### an exception as a value -/
def ExcV (H : Hp) (a C : Addr) (fs : List (Str × V)) : Prop := (∃ dx, H a = some (exo a C (some dx)) ∧ H dx = some (exd dx fs)) ∨ (fs = [] ∧ H a = some (exo a C none))
theorem ExcV.same {H H' : Hp} {a C : Addr} {fs : List (Str × V)} (x : ExcV H a C fs) (s : Same H H') : ExcV H' a C fs := by
  rcases x with ⟨dx, h1, h2⟩ | ⟨e, h1⟩
  · exact .inl ⟨dx, s _ _ h1, s _ _ h2⟩
  · exact .inr ⟨e, s _ _ h1⟩
/-- C(..): a new exception that holds what its arguments tell -/
def tExcV (C : Addr) (mk : List V → Option (List (Str × V))) (ta : TA) : TE := fun σ H Q => ta σ H fun vs H1 => ∃ fs, mk vs = some fs ∧ ∀ a H2, H1 a = none → Same H1 H2 → ExcV H2 a C fs → Q (.ref a) H2
def mk1 (f : Str) : List V → Option (List (Str × V))
  | [v] => some [(f, v)]
  | _ => none
def mk2 (f1 f2 : Str) : List V → Option (List (Str × V))
  | [v1, v2] => some [(f2, v2), (f1, v1)]
  | _ => none
/-- by keywords in the other order -/
def mk2r (f1 f2 : Str) : List V → Option (List (Str × V))
  | [v2, v1] => some [(f2, v2), (f1, v1)]
  | _ => none
theorem PE.imp {X : Cx} {e : Expr} {t t' : TE} (h : PE X e t) (i : ∀ σ H Q, t' σ H Q → t σ H Q) : PE X e t' := ⟨fun pins s σ H Q I q => h.run pins s σ H Q I (i σ H Q q)⟩
theorem PA.mono' {X : Cx} {es : List Expr} {t : TA} (h : PA X es t) : True := trivial
theorem same_new2 {H : Hp} {a dx : Addr} {o1 o2 : HO} (ha : H a = none) (hd : H dx = none) : Same H (upd (upd H dx o1) a o2) := fun b o e => by
  rw [upd_ne (ne_of_none e ha), upd_ne (ne_of_none e hd)]
  exact e
/-- what the written part says of an exception class of one field -/
structure XC1 (P : Program) (w : World) (K : PySem.W.Frag) (mg : Str → Option Value) (base : Heap) (x : Str) (C : Addr) (fld p : Str) : Prop where
  oex : OexC K C
  no : PySem.W.findIn K (.ref C) fld = some none
  gC : mg x = some (.ref C)
  ini : ∃ (fI : Addr) (fd : FuncData), PySem.W.findIn K (.ref C) "__init__" = some (some (.ref fI)) ∧ PySem.W.typeIn K (.ref fI) = some (.type "function") ∧ FnOk P w K mg base CX0 1 fI fd ["self", p] (spInit1 K C fld) ∧ Binds K fd ["self", p] [] ∧ KBn K fd ["self", p] 1 [p] (fun us ws => us ++ ws) (fun vs zs => vs ++ zs)
structure XC2 (P : Program) (w : World) (K : PySem.W.Frag) (mg : Str → Option Value) (base : Heap) (x : Str) (C : Addr) (f1 f2 p1 p2 : Str) : Prop where
  oex : OexC K C
  no1 : PySem.W.findIn K (.ref C) f1 = some none
  no2 : PySem.W.findIn K (.ref C) f2 = some none
  gC : mg x = some (.ref C)
  ini : ∃ (fI : Addr) (fd : FuncData), PySem.W.findIn K (.ref C) "__init__" = some (some (.ref fI)) ∧ PySem.W.typeIn K (.ref fI) = some (.type "function") ∧ FnOk P w K mg base CX0 1 fI fd ["self", p1, p2] (spInit2 K C f1 f2) ∧ Binds K fd ["self", p1, p2] [] ∧
    KBn K fd ["self", p1, p2] 1 [p2, p1] (fun us ws => us ++ ws.reverse) (fun vs zs => vs ++ zs.reverse)
section
variable {X : Cx} {x fld p' f1 f2 p1 p2 : Str} {C : Addr} {e : Expr} {es : List Expr} {ta tk : TA} {p pos : Pos} {kws : List Keyword}
theorem pe_x1 (T : XC1 X.prog X.w X.K X.mg X.base x C fld p') (hr : Room 2 X.A) (hx : Passes CX0 X (fun _ _ _ => False)) (hg : Gl X x) (ha : PA X (e :: es) ta) (mono : ∀ σ H Q Q', (∀ vs H1, Q vs H1 → Q' vs H1) → ta σ H Q → ta σ H Q') (hdb : (x == ("__debug__" : Str)) = false := by decide) (he : starEach (e :: es) X.env = (false, eval e X.env) :: starEach es X.env := by rfl) (hpl : (backTo pos (starEach es X.env)).any (·.1) = false := by rfl) :
    PE X (.Call (.Name x p) (e :: es) [] pos) (tExcV C (mk1 fld) ta) := by
  obtain ⟨fI, fd, iC, tI, F1, hb, _⟩ := T.ini
  refine PE.imp (pe_mkx (dvs := []) T.oex iC tI F1 hr hb .nil hx hg T.gC ha hdb he hpl) fun σ H Q h => ?_
  refine mono σ H _ _ (fun vs H1 hq => ?_) h
  obtain ⟨fs, e1, q⟩ := hq
  match vs, e1 with
  | [v], e1 =>
    cases e1
    refine ⟨by show 1 ≤ 1000; decide, fun a ha => ⟨a, v, rfl, T.oex, T.no, upd_same, fun dx n ne => ⟨rfl, ?_⟩⟩⟩
    rw [upd_ne ne] at n
    have e2 : upd (upd (upd H1 a (exo a C none)) dx (exd dx [(fld, v)])) a (exo a C (some dx)) = upd (upd H1 dx (exd dx [(fld, v)])) a (exo a C (some dx)) := by
      funext b
      by_cases hb : b = a
      · rw [hb, upd_same, upd_same]
      · rw [upd_ne hb, upd_ne hb]
        by_cases hd : b = dx
        · rw [hd, upd_same, upd_same]
        · rw [upd_ne hd, upd_ne hd, upd_ne hb]
    rw [e2]
    exact q a _ ha (same_new2 ha n) (.inl ⟨dx, upd_same, by rw [upd_ne ne, upd_same]⟩)
theorem pe_x1K (T : XC1 X.prog X.w X.K X.mg X.base x C fld p') (hr : Room 2 X.A) (hx : Passes CX0 X (fun _ _ _ => False)) (hg : Gl X x) (hkw : PK X kws tk) (mono : ∀ σ H Q Q', (∀ vs H1, Q vs H1 → Q' vs H1) → tk σ H Q → tk σ H Q')
    (hall : (backToKw pos (keywordEach kws X.env)).all (·.1.isSome) = true := by rfl) (hks : (backToKw pos (keywordEach kws X.env)).filterMap (·.1) = [p'] := by rfl) (hdb : (x == ("__debug__" : Str)) = false := by decide) (hpl : ((backTo pos (starEach [] X.env)).any (·.1) || (backToKw pos (keywordEach kws X.env)).any (·.1.isNone)) = false := by rfl) :
    PE X (.Call (.Name x p) [] kws pos) (tExcV C (mk1 fld) tk) := by
  obtain ⟨fI, fd, iC, tI, F1, _, hb⟩ := T.ini
  refine PE.imp (pe_mkxK T.oex iC tI F1 hr hb hx hg T.gC hkw hall hks hdb hpl) fun σ H Q h => ?_
  refine mono σ H _ _ (fun vs H1 hq => ?_) h
  obtain ⟨fs, e1, q⟩ := hq
  match vs, e1 with
  | [v], e1 =>
    cases e1
    refine ⟨rfl, fun a ha => ⟨a, v, rfl, T.oex, T.no, upd_same, fun dx n ne => ⟨rfl, ?_⟩⟩⟩
    rw [upd_ne ne] at n
    have e2 : upd (upd (upd H1 a (exo a C none)) dx (exd dx [(fld, v)])) a (exo a C (some dx)) = upd (upd H1 dx (exd dx [(fld, v)])) a (exo a C (some dx)) := by
      funext b
      by_cases hb : b = a
      · rw [hb, upd_same, upd_same]
      · rw [upd_ne hb, upd_ne hb]
        by_cases hd : b = dx
        · rw [hd, upd_same, upd_same]
        · rw [upd_ne hd, upd_ne hd, upd_ne hb]
    rw [e2]
    exact q a _ ha (same_new2 ha n) (.inl ⟨dx, upd_same, by rw [upd_ne ne, upd_same]⟩)
theorem fin2 {H1 : Hp} {a dx : Addr} {o1 o2 o3 o4 : HO} (ne : dx ≠ a) : upd (upd (upd (upd H1 a o1) dx o2) a o3) dx o4 = upd (upd H1 dx o4) a o3 := by
  funext b
  by_cases hb : b = a
  · rw [hb, upd_same, upd_ne ne.symm, upd_same]
  · rw [upd_ne hb]
    by_cases hd : b = dx
    · rw [hd, upd_same, upd_same]
    · rw [upd_ne hd, upd_ne hb, upd_ne hd, upd_ne hb, upd_ne hd]
theorem pe_x2 (T : XC2 X.prog X.w X.K X.mg X.base x C f1 f2 p1 p2) (hr : Room 2 X.A) (hx : Passes CX0 X (fun _ _ _ => False)) (hg : Gl X x) (ha : PA X (e :: es) ta) (mono : ∀ σ H Q Q', (∀ vs H1, Q vs H1 → Q' vs H1) → ta σ H Q → ta σ H Q') (hdb : (x == ("__debug__" : Str)) = false := by decide) (he : starEach (e :: es) X.env = (false, eval e X.env) :: starEach es X.env := by rfl) (hpl : (backTo pos (starEach es X.env)).any (·.1) = false := by rfl) :
    PE X (.Call (.Name x p) (e :: es) [] pos) (tExcV C (mk2 f1 f2) ta) := by
  obtain ⟨fI, fd, iC, tI, F1, hb, _⟩ := T.ini
  refine PE.imp (pe_mkx (dvs := []) T.oex iC tI F1 hr hb .nil hx hg T.gC ha hdb he hpl) fun σ H Q h => ?_
  refine mono σ H _ _ (fun vs H1 hq => ?_) h
  obtain ⟨fs, e1, q⟩ := hq
  match vs, e1 with
  | [v1, v2], e1 =>
    cases e1
    refine ⟨by show 2 ≤ 1000; decide, fun a ha => ⟨a, v1, v2, rfl, T.oex, T.no1, T.no2, upd_same, fun dx n ne => ⟨rfl, ?_⟩⟩⟩
    rw [upd_ne ne] at n
    rw [fin2 ne]
    exact q a _ ha (same_new2 ha n) (.inl ⟨dx, upd_same, by rw [upd_ne ne, upd_same]⟩)
theorem pe_x2K (T : XC2 X.prog X.w X.K X.mg X.base x C f1 f2 p1 p2) (hr : Room 2 X.A) (hx : Passes CX0 X (fun _ _ _ => False)) (hg : Gl X x) (hkw : PK X kws tk) (mono : ∀ σ H Q Q', (∀ vs H1, Q vs H1 → Q' vs H1) → tk σ H Q → tk σ H Q')
    (hall : (backToKw pos (keywordEach kws X.env)).all (·.1.isSome) = true := by rfl) (hks : (backToKw pos (keywordEach kws X.env)).filterMap (·.1) = [p2, p1] := by rfl) (hdb : (x == ("__debug__" : Str)) = false := by decide) (hpl : ((backTo pos (starEach [] X.env)).any (·.1) || (backToKw pos (keywordEach kws X.env)).any (·.1.isNone)) = false := by rfl) :
    PE X (.Call (.Name x p) [] kws pos) (tExcV C (mk2r f1 f2) tk) := by
  obtain ⟨fI, fd, iC, tI, F1, _, hb⟩ := T.ini
  refine PE.imp (pe_mkxK T.oex iC tI F1 hr hb hx hg T.gC hkw hall hks hdb hpl) fun σ H Q h => ?_
  refine mono σ H _ _ (fun vs H1 hq => ?_) h
  obtain ⟨fs, e1, q⟩ := hq
  match vs, e1 with
  | [v2, v1], e1 =>
    cases e1
    refine ⟨rfl, fun a ha => ⟨a, v1, v2, rfl, T.oex, T.no1, T.no2, upd_same, fun dx n ne => ⟨rfl, ?_⟩⟩⟩
    rw [upd_ne ne] at n
    rw [fin2 ne]
    exact q a _ ha (same_new2 ha n) (.inl ⟨dx, upd_same, by rw [upd_ne ne, upd_same]⟩)
/-- C(), C without an own __init__ -/
theorem pe_x0 {bmB : List Value} {B newId initId : String} (F : ExcBaseFacts B newId initId bmB) (q : PySem.W.excIn X.K C bmB newId = true) (gC : X.mg x = some (.ref C)) (kC : PySem.W.keepIn X.K (.ref C) = true) (hg : Gl X x) (hdb : (x == ("__debug__" : Str)) = false := by decide) :
    PE X (.Call (.Name x p) [] [] pos) (fun σ H Q => ∀ a H2, H a = none → Same H H2 → ExcV H2 a C [] → Q (.ref a) H2) := by
  refine ⟨fun pins s σ H Q I h => wpAny_Call_Name_kw (ld_glob I hg gC ?_ hdb)⟩
  refine PySem.W.callWith_K0 (I.kIn) kC ?_
  show wpAny _ _ (call (.ref C) []) _ _ _
  obtain ⟨bm, N, nm, qn, bs, hdct, sn, sub, ab, col, dd, k0, k1, k2, k3, k5, mN, hC, hN, hni, T⟩ := exc_obj I.kIn q
  refine wpAny_call_exc_subT F T hC hN hni (fun h' a hm => ?_) (Nat.zero_le _)
  have hn : H a = none := I.hok.gone hm.new
  obtain ⟨t, ht, _⟩ := hm.there
  exact ⟨.ref a, upd H a (exo a C none), I.laidN hm.keeps hm.new hn (exo_ok ht), rfl, h a _ hn (fun b o e => by rw [upd_ne (ne_of_none e hn)]; exact e) (.inr ⟨rfl, upd_same⟩)⟩
end
end Mine
namespace Mine
open PySem L2 PySem.Spec PyProof.Rows
/-- an exception value's object in the heap -/
theorem exc_inst {X : Cx} {pins : List (Addr × Obj)} {σ : L2.St} {s : Shared} {H : Hp} {a C : Addr} {fs : List (Str × V)} (I : Inv X pins σ H s) (e : ExcV H a C fs) : ∃ (o : Obj) (od : Option Obj), PySem.W.InstAt s.heap a o C od := by
  rcases e with ⟨dx, h1, h2⟩ | ⟨_, h1⟩
  · obtain ⟨t1, hget⟩ := exo_at I.hok h1
    obtain ⟨mA, hns, rel⟩ := exd_at I.hok h2
    obtain ⟨oD, _, _, hoD, _, _⟩ := hns.count (within_of rel)
    exact ⟨_, some oD, hget, rfl, rfl, hoD⟩
  · obtain ⟨t1, hget⟩ := exo_at I.hok h1
    exact ⟨_, none, hget, rfl, rfl, trivial⟩
/-- isinstance of an exception value -/
def rIsX (K : PySem.W.Frag) : List V → Hp → VK → Prop := fun xs H Q => ∃ (a C : Addr) (fs : List (Str × V)) (c : V) (cv : Value) (b : Bool), xs = [.ref a, c] ∧ ExcV H a C fs ∧ ExcC K C ∧ (∀ u, RelV c u → u = cv) ∧ PySem.W.kitOne K (.ref C) cv = some b ∧ Q (.bl b) H
theorem call_isX {X : Cx} : CallR X (.builtin "isinstance") (rIsX X.K) := by
  rintro pins s σ H xs us Q I r ⟨a, C, fs, c, cv, b, rfl, hx, E, hcv, e, q⟩
  match us, r with
  | [_, ut], .cons rx (.cons rt .nil) =>
    cases rx
    cases hcv _ rt
    obtain ⟨o, od, J⟩ := exc_inst I hx
    have here : (PySem.W.clsIn X.K C).isSome = true := by
      obtain ⟨cd, z, _⟩ := PySem.W.any_some E.hd
      rw [z]
      rfl
    exact PySem.W.kia_one (PySem.W.kitx_exc here E.hg E.hk E.hs E.ha E.hn E.ht E.hm) I.kIn J e (fun z => nomatch z) fun tk => ⟨.bl b, H, I.kept (t' := tk) fun _ _ z => z, rfl, q⟩
/-- e.n of an exception value -/
def tXat (K : PySem.W.Frag) (n : Str) (te : TE) : TE := fun σ H Q => te σ H fun x H1 => ∃ (a C : Addr) (fs : List (Str × V)) (v : V), x = .ref a ∧ XfC K C ∧ PySem.W.findIn K (.ref C) n = some none ∧ ExcV H1 a C fs ∧ fs.lookup n = some v ∧ Q v H1
theorem pe_xat {X : Cx} {e : Expr} {te : TE} {pos : Pos} {n : Str} (he : PE X e te) (hb : attributeBase e n X.env (eval e X.env) = eval e X.env := by rfl) : PE X (.Attribute e n pos) (tXat X.K n te) := by
  refine ⟨fun pins s0 σ H Q I0 h => attr_of hb (thn (he.run pins s0 σ H _ I0 h) fun u s1 ⟨x, H1, I1, rx, a, C, fs, v, ex, T, hno, hx, l, q⟩ => ?_)⟩
  subst ex
  cases rx
  obtain ⟨dx, h1, h2⟩ : ∃ dx, H1 a = some (exo a C (some dx)) ∧ H1 dx = some (exd dx fs) := by
    rcases hx with hx | ⟨e, _⟩
    · exact hx
    · rw [e] at l
      cases l
  obtain ⟨t1, hget⟩ := exo_at I1.hok h1
  obtain ⟨mA, hns, hr⟩ := exd_at I1.hok h2
  obtain ⟨od, ho, look⟩ := lookIn_ns hns
  obtain ⟨u, hu, ru⟩ := RelO.some_of (v := v) (o := mA n) (l ▸ hr n)
  have J : PySem.W.InstAt s1.heap a { cls := .ref C, dict := some dx, data := .fields #[.ref t1, .none, .none, .none, .bool false, .none] } C (some od) := ⟨hget, rfl, rfl, ho⟩
  have own := PySem.W.findObj_own T.hdC hno rfl (by rw [look, hu])
  exact HandSPX.exc_get I1.kIn J T.ga T.gg T.exC own (handed_of ru) ⟨v, H1, I1.tok _, ru, q⟩
end Mine
namespace Mine
open PySem L2 PySem.Spec PyProof.Rows LamX NdefX
/-! ### lambdas as values: made, called -/
/-- at f: the lambda of the code record at F.c -/
def LamO (f : Addr) (F : NF) (bE : Expr) : HO := .ext fun h => ∃ (od : Option Addr) (sl : Array (Option Value)) (pm ctv : Value), h.get? f = some (⟨.type "function", od, .func (PySem.W.kla_fn F.name F.qual F.params bE F.scope F.cl pm (.ref F.c) ctv), sl⟩ : Obj)
theorem lamO_ne {f : Addr} {F : NF} {bE : Expr} (ps : Array Value) : LamO f F bE ≠ .tbl ps := fun z => by
  unfold LamO at z
  cases z
theorem lamO_at {P : Program} {w : World} {H : Hp} {h : Heap} {f : Addr} {F : NF} {bE : Expr} (hok : HOk P w H h) (e : H f = some (LamO f F bE)) : ∃ (od : Option Addr) (sl : Array (Option Value)) (pm ctv : Value), h.get? f = some (⟨.type "function", od, .func (PySem.W.kla_fn F.name F.qual F.params bE F.scope F.cl pm (.ref F.c) ctv), sl⟩ : Obj) := by
  have x : ObjOk P w H h f (.ext fun h => ∃ (od : Option Addr) (sl : Array (Option Value)) (pm ctv : Value), h.get? f = some (⟨.type "function", od, .func (PySem.W.kla_fn F.name F.qual F.params bE F.scope F.cl pm (.ref F.c) ctv), sl⟩ : Obj)) := hok f _ e
  exact x.1
theorem lamO_ok {P : Program} {w : World} {H : Hp} {h : Heap} {f : Addr} {F : NF} {bE : Expr} {pm ctv : Value} (e : h.get? f = some (PySem.W.kla_obj F.name F.qual F.params bE F.scope F.cl pm F.c ctv)) : ObjOk P w H h f (LamO f F bE) :=
  ⟨⟨none, _, pm, ctv, e⟩, ⟨_, e⟩, fun h1 h2 ⟨od, sl, pm, ctv, z⟩ k => ⟨od, sl, pm, ctv, k _ z⟩⟩
/-- the table of the code objects, one more written in -/
abbrev oneMore (H : Hp) (P c' : Addr) (ps : Array Value) (pos : Pos) (q : Str) : Hp := upd (upd H P (.tbl (ps ++ #[rawInt pos.line, rawInt pos.col, .ref c']))) c' (CodeO c' q)
theorem more_ext {H : Hp} {P c' : Addr} {ps : Array Value} {pos : Pos} {q : Str} (at_ : H P = some (.tbl ps)) (new : H c' = none) : ExtN H (oneMore H P c' ps pos q) := fun b o e n => by
  have n1 : b ≠ c' := ne_of_none e new
  have n2 : b ≠ P := by
    rintro rfl
    cases at_.symm.trans e
    exact n ps rfl
  rw [oneMore, upd_ne n1, upd_ne n2, e]
theorem more_tabs {T : List (Addr × Str)} {H : Hp} {P c' : Addr} {ps : Array Value} {pos : Pos} {q : Str} (all : Tabs T H) (at_ : H P = some (.tbl ps)) (new : H c' = none) (one : ∀ p ∈ T, p.1 = P → p.2 = q) : Tabs T (oneMore H P c' ps pos q) := fun p hp => by
  have keep := more_ext (pos := pos) (q := q) at_ new
  obtain ⟨us, z1, z2, z3⟩ := all p hp
  have n1 : p.1 ≠ c' := ne_of_none z1 new
  by_cases here : p.1 = P
  · have eu : us = ps := by
      rw [here, at_] at z1
      cases z1
      rfl
    subst eu
    rw [one p hp here] at z3 ⊢
    refine ⟨us ++ #[rawInt pos.line, rawInt pos.col, .ref c'], by rw [oneMore, upd_ne n1, here, upd_same], ?_, fun p2 cv hc => ?_⟩ <;> rw [Array.toList_append] at *
    · exact PySem.TriplesOk_snoc pos.line pos.col (.ref c') _ z2
    · rcases among_app us.toList z2 hc with old | rfl
      · obtain ⟨c0, y1, y2⟩ := z3 p2 cv old
        exact ⟨c0, y1, keep c0 _ y2 codeO_ne⟩
      · exact ⟨c', rfl, upd_same⟩
  · refine ⟨us, by rw [oneMore, upd_ne n1, upd_ne here, z1], z2, fun p2 cv hc => ?_⟩
    obtain ⟨c0, y1, y2⟩ := z3 p2 cv hc
    exact ⟨c0, y1, keep c0 _ y2 codeO_ne⟩
section
variable {s : Shared} {H : Hp} {X : Cx} {σ : L2.St} {pins : List (Addr × Obj)}
/-- a lambda of the text, its code object at c' -/
abbrev lamF (X : Cx) (params : Arguments) (scope : Scope) (c' : Addr) : NF := ⟨"<lambda>", X.env.qual ++ "<lambda>", params, [], scope, cloFrom X.env.cells scope.names [], c'⟩
/-- its function object, laid behind all else -/
theorem lam_laid {T : List (Addr × Str)} {params : Arguments} {body : Expr} {scope : Scope} {h' : Heap} {tk : Nat} {c' : Addr} {pm ctv : Value} {R : Shared → Prop} (I : Inv X pins σ H s) (all : Tabs T H) (code : H c' = some (CodeO c' (X.env.qual ++ "<lambda>"))) (old : ∀ b o, s.heap.get? b = some o → h'.get? b = some o) (size : s.heap.objs.size ≤ h'.objs.size)
    (go : ∀ (f : Addr) (H1 : Hp) (s2 : Shared), s2 = { s with heap := h'.push (PySem.W.kla_obj "<lambda>" (X.env.qual ++ "<lambda>") params body scope (cloFrom X.env.cells scope.names []) pm c' ctv), toks := tk } → f = h'.objs.size → Inv X pins σ H1 s2 → Same H H1 → Tabs T H1 → H1 f = some (LamO f (lamF X params scope c') body) → H1 c' = some (CodeO c' (X.env.qual ++ "<lambda>")) → R s2) :
    R { s with heap := h'.push (PySem.W.kla_obj "<lambda>" (X.env.qual ++ "<lambda>") params body scope (cloFrom X.env.cells scope.names []) pm c' ctv), toks := tk } := by
  have new : H h'.objs.size = none := I.hok.fresh size
  have st : Same H (upd H h'.objs.size (LamO h'.objs.size (lamF X params scope c') body)) := fun b o e => by
    rw [upd_ne (ne_of_none e new), e]
  exact go _ _ _ rfl rfl (I.laid (fun b o e => Heap.get?_push_of_some _ (old b o e)) size (lamO_ok (Heap.get?_push_size _ rfl))) st (all.ext st) upd_same (st _ _ code)
theorem lamv_make {T : List (Addr × Str)} {c P : Addr} {params : Arguments} {body : Expr} {scope : Scope} {pos : Pos} {E : Value → Shared → Prop} {Q : Value → Shared → Prop} (I : Inv X pins σ H s) (B : TabB X.base X.mg c P) (code : X.env.code = .ref c) (mem : (P, X.env.qual ++ "<lambda>") ∈ T) (one : ∀ p ∈ T, p.1 = P → p.2 = X.env.qual ++ "<lambda>") (all : Tabs T H)
    (plain : defaultsOf params X.env = ([], [])) (caught : ∀ y ∈ scope.names, y.2 = .free → ∃ c, X.env.cells.lookup y.1 = some c)
    (go : ∀ (f c' : Addr) (H1 : Hp) (s2 : Shared), Inv X pins σ H1 s2 → ExtN H H1 → Tabs T H1 → H f = none → H1 f = some (LamO f (lamF X params scope c') body) → H1 c' = some (CodeO c' (X.env.qual ++ "<lambda>")) → Q (.ref f) s2) : wpAny (model X.prog X.w) X.A (eval (.Lambda params body scope pos) X.env) Q E s := by
  obtain ⟨ps, atP, ok3, codes⟩ := all _ mem
  have tab := I.hok P _ atP
  cases known : codeAmong pos ps.toList with
  | some cv =>
    obtain ⟨c', rfl, atC⟩ := codes pos cv known
    refine PySem.W.kla_eval plain (PySem.W.kla_makeFunctionHit (closure_ok caught) I.ok.glob (I.mod.glob.keeps I.bk) code (B.code.keeps I.bk) tab ok3 known (B.bm.keeps I.bk) fun ctv h' tk old size => ?_)
    refine lam_laid (R := Q (.ref h'.objs.size)) I all atC old size fun f H1 s2 _ ef I1 st t1 l1 c1 => ?_
    subst ef
    exact go _ c' H1 s2 I1 (ExtN.of st) t1 (I.hok.fresh size) l1 c1
  | none =>
    refine PySem.W.kla_eval plain (PySem.W.kla_makeFunction (closure_ok caught) I.ok.glob (I.mod.glob.keeps I.bk) code (B.code.keeps I.bk) tab ok3 known B.gP (B.bm.keeps I.bk) fun c' ctv h' tk old ge lt rec tab2 => ?_)
    obtain ⟨_, oc, vs, t, ec, y1, y2, y3⟩ := rec
    cases ec
    have new : H c' = none := I.hok.fresh ge
    have size := Nat.le_trans ge (Nat.le_of_lt lt)
    have I1 : Inv X pins σ (oneMore H P c' ps pos (X.env.qual ++ "<lambda>")) { s with heap := h', toks := tk } := inv_table I atP old tab2 ge ⟨oc, vs, t, y1, y2, y3⟩
    refine lam_laid (s := { s with heap := h', toks := tk }) (R := Q (.ref h'.objs.size)) I1 (more_tabs all atP new one) upd_same (fun b o e => e) (Nat.le_refl _) fun f H1 s2 _ ef I2 st t1 l1 c1 => ?_
    subst ef
    exact go _ c' H1 s2 I2 ((more_ext atP new).trans (ExtN.of st)) t1 (I.hok.fresh size) l1 c1
/-- a lambda as a value -/
def tLamV (T : List (Addr × Str)) (mk : Addr → NF) (bE : Expr) : TE := fun σ H Q => Tabs T H ∧ ∀ (f c' : Addr) (H1 : Hp), ExtN H H1 → Tabs T H1 → H f = none → H1 f = some (LamO f (mk c') bE) → H1 c' = some (CodeO c' (mk c').qual) → Q (.ref f) H1
theorem pe_lamv {T : List (Addr × Str)} {c P : Addr} {params : Arguments} {body : Expr} {scope : Scope} {pos : Pos} (TB : TabB X.base X.mg c P) (hcode : X.env.code = .ref c)
    (hm : (P, X.env.qual ++ "<lambda>") ∈ T) (hu : ∀ p ∈ T, p.1 = P → p.2 = X.env.qual ++ "<lambda>") (hdef : defaultsOf params X.env = ([], []) := by rfl) (hfree : ∀ y ∈ scope.names, y.2 = .free → X.env.scope.names.lookup y.1 = some .cell ∨ X.env.scope.names.lookup y.1 = some .free) :
    PE X (.Lambda params body scope pos) (tLamV T (fun c' => ⟨"<lambda>", X.env.qual ++ "<lambda>", params, [], scope, cloFrom X.env.cells scope.names [], c'⟩) body) := by
  refine ⟨fun pins s σ H Q I ⟨hT, h⟩ => ?_⟩
  refine lamv_make I TB hcode hm hu hT hdef (fun y hy e => I.ok.has _ (hfree y hy e)) fun f c' H1 s' I1 e1 t1 n1 l1 c1 => ?_
  exact ⟨.ref f, H1, I1, rfl, h f c' H1 e1 t1 n1 l1 c1⟩
end
/-! ### called -/
structure LOk (P : Program) (w : World) (K : PySem.W.Frag) (mg : Str → Option Value) (base : Heap) (CX : CXT) (k : Nat) (f : Addr) (F : NF) (bE : Expr) (ps fr : List Str) (sp : List (Option V) → Sp) : Prop where
  many : ∀ ws vs H Q E, sp ws vs H Q E → vs.length = ps.length
  does : ∀ (A : Around) (outer : List Env) (s : Shared) (H : Hp) (us : List Value) (vs : List V) (ws : List (Option V)) (Q : VK) (E : XK), Room k A → Env0 P w K mg base A outer s H → H f = some (LamO f F bE) → H F.c = some (CodeO F.c F.qual) → CellsAt F.cl fr ws s.heap H → Vals vs us →
    sp ws vs H Q E → codeAny (model P w) A (.call (.ref f) ⟨us, []⟩) (CR CX outer P w H s Q E) s
section
variable {CX : CXT} {w : World} {P : Program} {base : Heap} {K : PySem.W.Frag} {mg : Str → Option Value} {N ps fr : List Str} {F : NF} {bE : Expr} {f : Addr} {k j : Nat} {sp sp' : List (Option V) → Sp}
theorem lok_of (S : NScope N ps fr F.scope) (bnd : ∀ (pm ctv : Value) (us : List Value), us.length = ps.length → bindArgs (PySem.W.kla_fn F.name F.qual F.params bE F.scope F.cl pm (.ref F.c) ctv) ⟨us, []⟩ = pure (ps.zip us)) (many : ∀ ws vs H Q E, sp ws vs H Q E → vs.length = ps.length)
    (body : ∀ (A : Around) (outer : List Env) (s : Shared) (H : Hp) (vs : List V) (ws : List (Option V)) (Q : VK) (E : XK), Room k (A.deeper (envF F f s.heap.objs.size)) → ws.length = fr.length → sp ws vs H Q E →
      ∃ t, PE (ncx CX P w K mg base N F f A outer s H E) bE t ∧ t (startF N vs ws) H Q) : LOk P w K mg base CX (k + 1) f F bE ps fr sp := by
  refine ⟨many, fun A outer s H us vs ws Q E room e0 atF atC cells rv told => ?_⟩
  have le := many _ _ _ _ _ told
  obtain ⟨t, term, go⟩ := body A outer s H vs ws Q E (room.deeper _) cells.len told
  obtain ⟨od, sl, pm, ctv, fn⟩ := lamO_at e0.hok atF
  have free : s.heap.NoLimit := e0.mod.nolimit.keeps fun b o e => (e0.bs b o e).1
  refine PySem.W.kla_callFunE room.depth fn rfl S.co S.gen rfl (codeO_at e0.hok atC) ?_
  rw [bnd pm ctv us (rv.length.symm.trans le)]
  refine wpAny_pure (wpAny_newFunctionEnv S.nocell (fun y hy => S.par y.1 (List.of_mem_zip hy).1) (fun h1 frame but => ⟨free.fresh _ but, ?_⟩) S.kind)
  show codeAny _ _ (.expr bE (envF F f s.heap.objs.size)) _ _
  have old : ∀ b o, s.heap.get? b = some o → h1.get? b = some o := fun b o e => by
    have lt := Heap.lt_size e
    exact but.extBut b o (Nat.ne_of_lt lt) (Heap.get?_push_of_some _ e)
  have I := inv_startN (CX := CX) (F := F) (f := f) (E := E) (tk := s.toks + (ps.zip us).length) S room.hd e0 le rv cells frame old
  exact PySem.W.kla_codeExpr (wpAny_mono (term.run [] _ (startF N vs ws) H _ I go) (fun v s2 ⟨v2, H2, J, r2, q2⟩ => ⟨v2, H2, J.os, J.bare, J.base, J.hok, r2, q2⟩) fun e s2 z => z)
end
section
variable {X : Cx} {CX : CXT} {k j i : Nat} {mk : Addr → NF} {bE : Expr} {ps : List Str} {sp : Addr → Addr → Sp} {E : XK} {x : Str} {p pos : Pos} {e : Expr} {es : List Expr} {t : TA}
theorem run_l {pins : List (Addr × Obj)} {σ : L2.St} {H : Hp} {s : Shared} {Q : VK} {f : Addr} {F : NF} {us : List Value} {vs : List V} {spl : List (Option V) → Sp} (Fn : LOk X.prog X.w X.K X.mg X.base CX k f F bE ps [] spl) (hcl : F.cl = []) (hr : Room j X.A) (hk : k ≤ j) (hx : Passes CX X E)
    (I : Inv X pins σ H s) (hf : H f = some (LamO f F bE)) (hc : H F.c = some (CodeO F.c F.qual)) (r : Vals vs us) (h : spl [] vs H Q E) : wpAny (model X.prog X.w) X.A (call (.ref f) us) (EP X pins σ Q) X.xe s := by
  have C : CellsAt F.cl [] [] s.heap H := by
    rw [hcl]
    exact ⟨rfl, fun y c z => (nomatch z), fun x y c z => (nomatch z), fun i y z => absurd z (by simp)⟩
  refine wpAny_call (codeAny_mono (Fn.does X.A X.stack s H us vs [] Q E (hr.mono hk) I.env0 hf hc C r h) fun z s2 hz => ?_)
  match z, hz with
  | .error er, hz => exact hx pins σ H s er s2 I hz
  | .ok (.ret u), hz => exact I.after hz
theorem lamAt_of {pins : List (Addr × Obj)} {σ : L2.St} {H : Hp} {s : Shared} {f : Addr} {F : NF} (I : Inv X pins σ H s) (e : H f = some (LamO f F bE)) : PySem.W.FnAt f s.heap := by
  obtain ⟨od, sl, pm, ctv, ho⟩ := lamO_at I.hok e
  exact ⟨_, _, _, _, ho⟩
/-- what is called: some lambda at the slot's address, its promise told -/
def tCallLam (P : Program) (w : World) (K : PySem.W.Frag) (mg : Str → Option Value) (base : Heap) (CX : CXT) (k i : Nat) (E : XK) (t : TA) : TE := fun σ H Q => ∃ (f : Addr) (F : NF) (bE : Expr) (ps : List Str) (spl : List (Option V) → Sp), σ[i]? = some (some (.ref f)) ∧
  LOk P w K mg base CX k f F bE ps [] spl ∧ F.cl = [] ∧ H f = some (LamO f F bE) ∧ t σ H fun vs H1 => H1 f = some (LamO f F bE) ∧ H1 F.c = some (CodeO F.c F.qual) ∧ spl [] vs H1 Q E
theorem pe_callLam (hr : Room j X.A) (hk : k ≤ j) (hx : Passes CX X E) (hN : X.N[i]? = some x) (hv : Vis X.env.scope x) (ha : PA X (e :: es) t) (hd : (x == ("__debug__" : Str)) = false := by decide) (hcd : (x == ("__classdict__" : Str)) = false := by decide) (he : starEach (e :: es) X.env = (false, eval e X.env) :: starEach es X.env := by rfl) (hpl : (backTo pos (starEach es X.env)).any (·.1) = false := by rfl) :
    PE X (.Call (.Name x p) (e :: es) [] pos) (tCallLam X.prog X.w X.K X.mg X.base CX k i E t) := by
  refine ⟨fun pins s σ H Q I ⟨f, F, bE, ps, spl, hs, Fn, hcl, hf, ht⟩ => ?_⟩
  refine wpAny_Call_Name_kw (thn ((pe_var (pos := p) (i := i) hN hv hd hcd).run pins s σ H (fun v H1 => v = .ref f ∧ H1 = H) I ⟨.ref f, hs, rfl, rfl⟩) fun u s1 ⟨v, H1, I1, r1, q1⟩ => ?_)
  obtain ⟨ev, eH⟩ := q1
  subst ev
  rw [eH] at I1
  cases r1
  refine PySem.W.callWith_F (lamAt_of I1 hf) (thn (ha.run pos pins s1 σ H _ I1 ht) fun us s2 ⟨vs, H2, I2, r2, hf2, hc2, q2⟩ => ⟨lamAt_of I2 hf2, ?_⟩) he hpl
  exact run_l (us := us) Fn hcl hr hk hx I2 hf2 hc2 r2 q2
end
end Mine
namespace Mine
open PySem L2 PySem.Spec PyProof.Rows
/-- what can be shown: flat data without dicts, or a dict of one text key and an int -/
def ItemD (K : PySem.W.Frag) (H : Hp) (v : V) (d : PyData) : Prop := (Dp K H v d ∧ d.hasDict = false) ∨ ∃ (a : Addr) (k : Str) (i : Int), v = .ref a ∧ H a = some (.dK [(Sum.inr k, .int i)]) ∧ d = .dict [(.str k, .int i)]
inductive ItemsD (K : PySem.W.Frag) (H : Hp) : List V → List PyData → Prop
  | nil : ItemsD K H [] []
  | cons {v : V} {vs : List V} {d : PyData} {ds : List PyData} : ItemD K H v d → ItemsD K H vs ds → ItemsD K H (v :: vs) (d :: ds)
section
variable {s : Shared} {H : Hp} {X : Cx} {σ : L2.St} {pins : List (Addr × Obj)}
theorem ItemD.reads (I : Inv X pins σ H s) {v : V} {d : PyData} {u : Value} (x : ItemD X.K H v d) (r : RelV v u) : ∃ as, Reads s.heap u d as ∧ (d.hasDict = true → sysModules ∉ as) := by
  rcases x with ⟨x, hd⟩ | ⟨a, k, i, rfl, ha, rfl⟩
  · obtain ⟨as, h⟩ := Dp.reads I d v u x r
    exact ⟨as, h, fun z => by rw [hd] at z; cases z⟩
  · obtain rfl : u = Value.ref a := r
    obtain ⟨_, hsys, vs, hkv, o, es, ep, e1, e2, e3, e4, e5, e6⟩ := I.hok a _ ha
    cases hkv with
    | cons q1 q2 =>
      cases q2
      rename_i p
      obtain ⟨pk, pv⟩ := p
      obtain ⟨q3, q4⟩ := q1
      dsimp only at q3 q4
      subst q3
      obtain ⟨t, rfl⟩ := q4
      generalize hel : es.toList = el at e5
      cases e5 with
      | cons z1 z2 z3 =>
        cases z3
        rename_i e
        obtain ⟨t', ek⟩ : ∃ t', e.key = Value.str k t' := by
          rcases keyIs_shape (show keyIs (.inr k) e.key = true from z1) with ⟨j, t', y1, y2⟩ | ⟨x, t', y1, y2⟩
          · cases y1
          · cases y1
            exact ⟨t', y2⟩
        have h1 : ReadsAll s.heap (es.toList.map (·.key)) (([((.str k : PyData), (.int i : PyData))]).map (·.1)) [] := by
          rw [hel]
          show ReadsAll s.heap [e.key] [.str k] ([] ++ [])
          rw [ek]
          exact .cons (.str _ _) .nil
        have h2 : ReadsAll s.heap (es.toList.map (·.val)) (([((.str k : PyData), (.int i : PyData))]).map (·.2)) [] := by
          rw [hel]
          show ReadsAll s.heap [e.val] [.int i] ([] ++ [])
          rw [show e.val = Value.int i t from z2]
          exact .cons (.int _ _) .nil
        refine ⟨_, .dict e1 e2.1 e3 h1 h2, fun _ hm => ?_⟩
        have e : sysModules = a := by simpa using hm
        rw [← e] at hsys
        simp at hsys
theorem ItemsD.shows (I : Inv X pins σ H s) : ∀ {vs : List V} {ds : List PyData} {us : List Value}, ItemsD X.K H vs ds → Vals vs us → PyData.showableAll ds = true → (∀ t ∈ PyData.shownAll ds, t.length ≤ sizeLine) →
    ∃ as bs, ReadsAll s.heap us ds as ∧ ReadAtMost s.heap (PyData.depthAll ds) bs ∧ ReprAllK X.prog X.w bs s.heap (PyData.depthAll ds) us (PyData.shownAll ds)
  | _, _, _, .nil, .nil, _, _ => ⟨[], [], .nil, (fun _ h => nomatch h), by simp only [PyData.shownAll]; exact .nil⟩
  | _, _, _, .cons (d := d) (ds := ds) x xs, .cons r rs, hs, hz => by
    obtain ⟨hs1, hs2⟩ : d.showable = true ∧ PyData.showableAll ds = true := by simpa [PyData.showableAll] using hs
    have hzs : ∀ t ∈ d.shown :: PyData.shownAll ds, t.length ≤ sizeLine := fun t ht => hz t (by simp only [PyData.shownAll]; exact ht)
    obtain ⟨a1, y1, y2⟩ := x.reads I r
    obtain ⟨b1, hb1, k1⟩ := ReprK.of_reads (prog := X.prog) (w := X.w) y1 hs1 y2 (hzs _ (List.mem_cons_self ..))
    obtain ⟨a2, b2, y3, hb2, k2⟩ := ItemsD.shows I xs rs hs2 fun t ht => hzs t (List.mem_cons_of_mem _ ht)
    refine ⟨a1 ++ a2, b1 ++ b2, .cons y1 y3, fun b hm => ?_, ?_⟩
    · rcases List.mem_append.1 hm with hm | hm
      · obtain ⟨e, es, z1, z2⟩ := hb1 b hm
        exact ⟨e, es, z1, by simp only [PyData.depthAll]; omega⟩
      · obtain ⟨e, es, z1, z2⟩ := hb2 b hm
        exact ⟨e, es, z1, by simp only [PyData.depthAll]; omega⟩
    · have l1 : d.depth ≤ PyData.depthAll (d :: ds) := by simp only [PyData.depthAll]; omega
      have l2 : PyData.depthAll ds ≤ PyData.depthAll (d :: ds) := by simp only [PyData.depthAll]; omega
      have m1 := (k1.more (as' := b1 ++ b2) fun b hb => List.mem_append_left _ hb).level_le l1
      have m2 := k2.more_le (as' := b1 ++ b2) (fun b hb => List.mem_append_right _ hb) l2
      show ReprAllK _ _ _ _ _ _ (d.shown :: PyData.shownAll ds)
      exact .cons m1 m2
/-- repr(l), l a list -/
def rReprL (K : PySem.W.Frag) : List V → Hp → VK → Prop := fun xs H Q => ∃ (p : Addr) (vs : List V) (ds : List PyData), xs = [.ref p] ∧ H p = some (.lst vs) ∧ ItemsD K H vs ds ∧ PyData.showableAll ds = true ∧ PyData.depthAll ds ≤ 60 ∧ (listText (PyData.shownAll ds)).length ≤ sizeLine ∧ Q (.str (listText (PyData.shownAll ds))) H
theorem call_reprL (hg : X.A.guards = some []) (hu : X.A.units + 64 < cLine) : CallR X (.builtin "repr") (rReprL X.K) := by
  rintro pins s σ H xs us Q I r ⟨p, vs, ds, rfl, hp, hI, hs, hd, hz, q⟩
  cases r with
  | cons r1 rr =>
    cases rr
    cases r1
    obtain ⟨hl, its, n, rv, ho⟩ := I.hok p _ hp
    obtain ⟨as, bs, y1, y2, y3⟩ := hI.shows I rv hs fun t ht => Nat.le_trans (listText_mem_le ht) hz
    have R : Reads s.heap (.ref p) (.list ds) _ := .list (n := n) ho rfl rfl (by simpa using y1)
    have hna : p ∉ bs := not_mem_of_deeper R (by simp only [PyData.depth]; omega) y2
    have fin : ∀ (h' : Heap) (u : Tok) (tk : Nat), (∀ b o, s.heap.get? b = some o → h'.get? b = some o) → EP X pins σ Q (.str (listText (PyData.shownAll ds)) u) { s with heap := h', toks := tk } := fun h' u tk k => ⟨.str _, H, I.kept k, ⟨_, rfl⟩, q⟩
    have hT : s.TypeIs (.ref p) "list" := ⟨_, ho, rfl⟩
    refine call_repr_slot (by omega) hT F.slot_list_repr.toG ?_
    cases its with
    | nil =>
      cases y1
      have e : listText (PyData.shownAll []) = ("[]" : Str) := by simp only [PyData.shownAll]; exact listText_nil
      rw [e] at fin
      exact call_list_repr_empty hT ho rfl ⟨_, _, rfl, fin s.heap _ _ fun _ _ z => z⟩
    | cons v its =>
      exact call_list_reprK ho rfl rfl hna (by simpa using y3.length_eq) (fun i y e => y3.item i y (by simpa using e)) hg (fun b _ => Clear.nil b) (by show X.A.units + 1 + _ < cLine; omega) (fun _ _ z => z) (fun h' u tk k => ⟨_, _, rfl, fin h' u tk k⟩) hz
end
end Mine
namespace Mine
open PySem L2
def top (i : Nat) : Stmt := PySem.Challenge.pw_partswithin_k00_errors_made.main.body.getD i (.Pass ⟨0, 0, 0, 0⟩)
abbrev sStart : Stmt := top 46
abbrev sDraw : Stmt := top 47
abbrev sMixed : Stmt := top 48
/-! ### the stream of draws: a list at a of a list of ints at q and three ints -/
structure Strm (H : Hp) (a q : Addr) (cs : List Int) (l n m : Int) : Prop where
  ha : H a = some (.lst [.ref q, .int l, .int n, .int m])
  hq : H q = some (.lst (cs.map V.int))
  l0 : 0 ≤ l
  n0 : 0 ≤ n
  m0 : 0 ≤ m
  m1 : m < 2147483647
theorem Strm.ne {H : Hp} {a q : Addr} {cs : List Int} {l n m : Int} (S : Strm H a q cs l n m) : a ≠ q := by
  intro e
  have h1 := S.ha
  rw [e, S.hq] at h1
  have h2 := HO.lst.inj (Option.some.inj h1)
  cases cs with
  | nil => cases h2
  | cons c cs => cases h2
theorem dp_ints (K : PySem.W.Frag) (H : Hp) : ∀ cs : List Int, DpAll K H (cs.map V.int) (cs.map PyData.int)
  | [] => .nil
  | c :: cs => .cons (.int c) (dp_ints K H cs)
theorem lay_ints : ∀ cs : List Int, PyData.canLayAll0 (cs.map PyData.int) = true
  | [] => rfl
  | c :: cs => by
    show (PyData.canLay0 (.int c) && PyData.canLayAll0 (cs.map PyData.int)) = true
    rw [lay_ints cs]
    rfl
theorem depth_ints : ∀ cs : List Int, PyData.depthAll (cs.map PyData.int) = 0
  | [] => rfl
  | c :: cs => by
    show max (PyData.depth (.int c)) (PyData.depthAll (cs.map PyData.int)) = 0
    rw [depth_ints cs]
    rfl
theorem shaped_ints (cs : List Int) : SeqAt.shaped (.list (cs.map PyData.int)) = true := by
  show (PyData.canLayAll0 (cs.map PyData.int) && decide (PyData.depth (.list (cs.map PyData.int)) ≤ 64)) = true
  rw [lay_ints cs]
  show decide (PyData.depthAll (cs.map PyData.int) + 1 ≤ 64) = true
  rw [depth_ints cs]
  rfl
theorem seq0 {n : Nat} (h : 0 < n) : seqIndex? 0 n = some 0 := by
  unfold seqIndex?
  simp
  omega
theorem eqv_nil (ds : List PyData) : PyData.eqv (.list ds) (.list []) = ds.isEmpty := by
  cases ds <;> rfl
abbrev rLenQ (K : PySem.W.Frag) : List V → Hp → VK → Prop := fun xs H Q => ∃ p ys, xs = [V.ref p] ∧ (SqL K H p ys ∨ SqT K H p ys) ∧ Q (V.int ys.length) H
def spStart (K : PySem.W.Frag) : Sp := fun vs H Q _ => ∃ (a : Addr) (ns : List Int), vs = [.ref a] ∧ SqL K H a (ns.map V.int) ∧ ∀ (p q : Addr) (H' : Hp), H p = none → Same H H' → Strm H' p q ns 0 0 11 → Q (.ref p) H'
def spMixed (K : PySem.W.Frag) : Sp := fun vs H Q _ => ∃ (a q b : Addr) (cs : List Int) (l n m : Int) (xs : List V), vs = [.ref a, .ref b] ∧ Strm H a q cs l n m ∧ n < 1000000000 ∧ SqL K H b xs ∧ b ≠ a ∧ b ≠ q ∧ xs.length ≤ 1000 ∧
  ∀ (p : Addr) (ys : List V) (cs' : List Int) (l' m' : Int) (H' : Hp), H p = none → H' p = some (.lst ys) → (∀ v ∈ ys, v ∈ xs) → ys.length = xs.length → Strm H' a q cs' l' (n + xs.length) m' → (∀ b o, H b = some o → b ≠ a → b ≠ q → H' b = some o) → Q (.ref p) H'
def spDraw : Sp := fun vs H Q _ => ∃ (a q : Addr) (cs : List Int) (l n m k : Int), vs = [.ref a, .int k] ∧ 0 < k ∧ k < 1073741824 ∧ Strm H a q cs l n m ∧ n < 1000000000000 ∧
  ∀ (d : Int) (cs' : List Int) (l' m' : Int) (H' : Hp), 0 ≤ d → d < k → Strm H' a q cs' l' (n + 1) m' → (∀ b o, H b = some o → b ≠ a → b ≠ q → H' b = some o) → Q (.int d) H'
structure TxtD (K : PySem.W.Frag) (mg : Str → Option Value) : Prop where
  int : mg "int" = none
  list : mg "list" = none
  range : mg "range" = none
  len : mg "len" = none
section
variable {w : World} {P : Program} {base : Heap} {K : PySem.W.Frag} {mg : Str → Option Value}
theorem scD : FnScope ["_law_stream", "_law_many", "_law_cell", "_law_digit", "_law_mixed_here"] ["_law_stream", "_law_many"] (defScope sDraw) := ⟨rfl, rfl, rfl, by decide +kernel, rfl, by decide +kernel, by decide +kernel⟩
theorem ok_draw {f : Addr} {fd : FuncData} (F : Fun K "_law_draw" "_law_draw" sDraw f fd) (T : TxtD K mg) : FnOk P w K mg base CX0 1 f fd ["_law_stream", "_law_many"] spDraw := by
  refine F.ok scD (fun vs H Q E h => ?_) (fun cdv A outer s H vs Q E hr h => ?_)
  · obtain ⟨a, q, cs, l, n, m, k, rfl, _⟩ := h
    rfl
  · obtain ⟨a, q, cs, l, n, m, k, rfl, k0, k1', S, hn, kk⟩ := h
    have naq : a ≠ q := S.ne
    obtain ⟨tr, hR, rR⟩ : ∃ t, PSs (cxOf CX0 P w K mg base ["_law_stream", "_law_many", "_law_cell", "_law_digit", "_law_mixed_here"] "_law_draw" (defScope sDraw) f cdv A outer s H E).nox ((defBody sDraw).drop 2) t ∧
        ∀ (cs1 : List Int) (l1 m1' : Int) (v : Option V) (H1 : Hp), Strm H1 a q cs1 l1 (n + 1) m1' → (∀ b o, H b = some o → b ≠ a → b ≠ q → H1 b = some o) → t { nx := fun _ H' => Q .non H', rt := Q } [some (.ref a), some (.int k), v, none, none] H1 := by
      refine ⟨_, (pss_cons (ps_if (pt_cmpR op_gt (pe_ix ix_list (pv 0) pe_int (fun _ _ => rfl)) pe_int (nomark _))
        (pss_cons (ps_set (i := 3) scD.nd rfl (Or.inl rfl) (pe_op op_mod (pe_callTy call_int1 (by rfl) T.int (by decide +kernel) (pa_cons (pe_ix ix_list (pv 0) pe_int (fun _ _ => rfl)) pa_nil)) (pv 1)))
        (pss_cons (ps_asg (pe_op op_fdiv (pe_ix ix_list (pv 0) pe_int (fun _ _ => rfl)) (pv 1)) (pg_sub (pv 0) pe_int set_list))
        (pss_one (ps_ret (pv 3))))) pss_nil)
      (pss_cons (ps_set (i := 4) scD.nd rfl (Or.inl rfl) (pe_op op_mod (pe_callTy call_int1 (by rfl) T.int (by decide +kernel) (pa_cons (pe_op op_pow (pe_op op_add (pe_op op_add (pe_ix ix_list (pv 0) pe_int (fun _ _ => rfl)) (pe_op op_mul pe_int (pe_ix ix_list (pv 0) pe_int (fun _ _ => rfl)))) pe_int) pe_int) pa_nil)) pe_int))
      (pss_one (ps_ret (pe_op op_mod (pe_op op_mod (pe_callTy call_int1 (by rfl) T.int (by decide +kernel) (pa_cons (pe_op op_pow (pe_op op_add (pe_op op_add (pe_op op_mul (pv 4) pe_int) (pe_op op_mul pe_int (pe_ix ix_list (pv 0) pe_int (fun _ _ => rfl)))) pe_int) pe_int) pa_nil)) pe_int) (pv 1)))))), ?_⟩
      intro cs1 l1 m1' v H1 T1 k1
      obtain ⟨ta, tq, tl, tn, tm0, tm1⟩ := id T1
      refine ⟨_, rfl, a, _, _, _, rfl, rfl, SqL.of ta, atI_nat (j := 1) rfl, _, _, rfl, rfl, _, rfl, ?_⟩
      refine ite2 (fun c1 => ?_) (fun c1 => ?_)
      · have hl : 0 < l1 := of_decide_eq_true c1
        refine ⟨_, rfl, a, _, _, _, rfl, rfl, SqL.of ta, atI_nat (j := 1) rfl, .inl ⟨_, rfl, _, rfl, _, _, rfl, rfl, k0, ?_⟩⟩
        refine ⟨_, rfl, a, _, _, _, rfl, rfl, SqL.of ta, atI_nat (j := 1) rfl, _, rfl, _, _, rfl, rfl, ⟨k0, k1'⟩, _, rfl, a, _, _, 1, rfl, rfl, ta, rfl, _, rfl, ?_⟩
        exact kk _ cs1 (l1 / k) m1' _ (Int.emod_nonneg _ (by omega)) (Int.emod_lt_of_pos _ k0) ⟨upd_same, by rw [upd_ne naq.symm]; exact tq, Int.ediv_nonneg tl (by omega), tn, tm0, tm1⟩ (fun b o e h1 h2 => by rw [upd_ne h1]; exact k1 b o e h1 h2)
      · refine ⟨_, rfl, a, _, _, _, rfl, rfl, SqL.of ta, atI_nat (j := 3) rfl, _, rfl, a, _, _, _, rfl, rfl, SqL.of ta, atI_nat (j := 2) rfl, _, _, rfl, rfl, .inl ⟨by decide, by decide⟩, _, _, rfl, rfl, _, _, rfl, rfl, _, _, rfl, rfl, ⟨by decide, by decide, ?_⟩, .inl ⟨_, rfl, _, _, rfl, rfl, (by show (0 : Int) < 2147483629; decide), ?_⟩⟩
        · show (m1' + 7919 * (n + 1) + 104729).natAbs < 2 ^ 64
          omega
        · have z0 : 0 ≤ ((m1' + 7919 * (n + 1) + 104729) ^ (5 : Int).toNat) % 2147483629 := Int.emod_nonneg _ (by decide)
          have z1 : ((m1' + 7919 * (n + 1) + 104729) ^ (5 : Int).toNat) % 2147483629 < 2147483629 := Int.emod_lt_of_pos _ (by decide)
          dsimp only
          generalize ((m1' + 7919 * (n + 1) + 104729) ^ (5 : Int).toNat) % 2147483629 = z at z0 z1 ⊢
          refine ⟨_, rfl, _, _, rfl, rfl, .inr ⟨by decide, by decide⟩, _, rfl, a, _, _, _, rfl, rfl, SqL.of ta, atI_nat (j := 2) rfl, _, _, rfl, rfl, .inl ⟨by decide, by decide⟩, _, _, rfl, rfl, _, _, rfl, rfl, _, _, rfl, rfl, ⟨by decide, by decide, ?_⟩, .inl ⟨_, rfl, _, _, rfl, rfl, (by show (0 : Int) < 1000000007; decide), _, rfl, _, _, rfl, rfl, k0, ?_⟩⟩
          · show (z * 48271 + 30011 * (n + 1) + 29).natAbs < 2 ^ 64
            omega
          · exact kk _ cs1 l1 m1' _ (Int.emod_nonneg _ (by omega)) (Int.emod_lt_of_pos _ k0) T1 k1
    refine ⟨_, pss_cons (ps_asg (pe_op op_add (pe_ix ix_list (pv 0) pe_int (fun _ _ => rfl)) pe_int) (pg_sub (pv 0) pe_int set_list))
      (pss_cons (ps_while PassesOwn.never (PW.pt (pw_and (pt_cmpR op_eq (pe_ix ix_list (pv 0) pe_int (fun _ _ => rfl)) pe_int (nomark _)) (pw_and1 (pt_cmpR (op_neD hr.units) (pe_ix ix_list (pv 0) pe_int (fun _ _ => rfl)) (pe_lst pa_nil) (nomark _)))))
        (pss_cons (ps_set (i := 2) scD.nd rfl (Or.inl rfl) (pe_bm PySem.F.plainAttrs_list PySem.F.slot_list_pop PySem.F.type_list_pop mt_popAt (pe_ix ix_list (pv 0) pe_int (fun _ _ => rfl)) (pa_cons pe_int pa_nil)))
        (pss_cons (ps_asg (pe_op op_mod (pe_callTy call_int1 (by rfl) T.int (by decide +kernel) (pa_cons (pe_op op_add (pe_op op_add (pe_op op_mul (pe_ix ix_list (pv 0) pe_int (fun _ _ => rfl)) pe_int) (pv 2)) pe_int) pa_nil)) pe_int) (pg_sub (pv 0) pe_int set_list))
        (pss_one (ps_asg (pe_ifExp (pt_cmpR op_ge (pv 2) (pe_op op_pow pe_int pe_int) (nomark _)) (pv 2) pe_int) (pg_sub (pv 0) pe_int set_list)))))) hR), ?_⟩
    obtain ⟨ha, hq, l0, n0, m0, m1⟩ := id S
    have naq : a ≠ q := S.ne
    -- _law_stream[2] = _law_stream[2] + 1
    refine ⟨_, rfl, a, _, _, _, rfl, rfl, SqL.of ha, atI_nat (j := 2) rfl, _, _, rfl, rfl, _, rfl, a, _, _, 2, rfl, rfl, ha, rfl, ?_⟩
    show tSeq _ _ _ _ (upd H a (.lst [.ref q, .int l, .int (n + 1), .int m]))
    have S1 : Strm (upd H a (.lst [.ref q, .int l, .int (n + 1), .int m])) a q cs l (n + 1) m := ⟨upd_same, by rw [upd_ne naq.symm]; exact hq, l0, by omega, m0, m1⟩
    -- while
    refine while_by (fun σ H' => ∃ (cs' : List Int) (l' m' : Int) (v : Option V), σ = [some (.ref a), some (.int k), v, none, none] ∧ Strm H' a q cs' l' (n + 1) m' ∧ (∀ b o, H b = some o → b ≠ a → b ≠ q → H' b = some o)) (fun σ H' => match H' q with | some (.lst xs) => xs.length | _ => 0) ?_ ?_ ?_
    · exact ⟨cs, l, m, none, rfl, S1, fun b o e h1 _ => by rw [upd_ne h1]; exact e⟩
    · rintro σ H1 ⟨cs1, l1, m1', v, rfl, T1, k1⟩
      obtain ⟨ta, tq, tl, tn, tm0, tm1⟩ := id T1
      -- stream[1] == 0 and stream[0] != []
      refine ⟨_, rfl, a, _, _, _, rfl, rfl, SqL.of ta, atI_nat (j := 1) rfl, rfl, _, rfl, ?_⟩
      refine ite2 (fun c1 => ?_) (fun c1 => ?_)
      · refine ⟨_, rfl, a, _, _, _, rfl, rfl, SqL.of ta, atI_nat (j := 0) rfl, Nat.zero_le _, fun p hp => ?_⟩
        have nap : a ≠ p := ne_of_none ta hp
        have nqp : q ≠ p := ne_of_none tq hp
        refine ⟨.list (cs1.map PyData.int), .list [], .lst (SqL.of (by rw [upd_ne nqp]; exact tq)) (dp_ints _ _ _), .lst (SqL.of upd_same) .nil, shaped_ints _, by decide +kernel, _, rfl, ?_⟩
        rw [eqv_nil]
        have T2 : Strm (upd H1 p (.lst [])) a q cs1 l1 (n + 1) m1' := ⟨by rw [upd_ne nap]; exact ta, by rw [upd_ne nqp]; exact tq, tl, tn, tm0, tm1⟩
        have k2 : ∀ b o, H b = some o → b ≠ a → b ≠ q → upd H1 p (.lst []) b = some o := fun b o e h1 h2 => by
          have z := k1 b o e h1 h2
          rw [upd_ne (ne_of_none z hp)]
          exact z
        cases cs1 with
        | nil =>
          refine iteF ?_
          exact rR _ _ _ _ _ T2 k2
        | cons c cs2 =>
          refine iteT ?_
          -- cell = stream[0].pop(0)
          refine ⟨_, rfl, a, _, _, _, rfl, rfl, SqL.of T2.ha, atI_nat (j := 0) rfl, .inl ⟨rfl, _, SqL.of T2.hq⟩, q, _, 0, 0, .int c, rfl, rfl, T2.hq, by decide, by decide, seq0 (by simp), rfl, ?_⟩
          have T3 : Strm (upd (upd H1 p (.lst [])) q (.lst ((List.map V.int (c :: cs2)).eraseIdx 0))) a q cs2 l1 (n + 1) m1' := ⟨by rw [upd_ne naq]; exact T2.ha, upd_same, tl, tn, tm0, tm1⟩
          have k3 : ∀ b o, H b = some o → b ≠ a → b ≠ q → upd (upd H1 p (.lst [])) q (.lst ((List.map V.int (c :: cs2)).eraseIdx 0)) b = some o := fun b o e h1 h2 => by
            rw [upd_ne h2]
            exact k2 b o e h1 h2
          have len1 : (match H1 q with | some (.lst xs) => xs.length | _ => 0) = cs2.length + 1 := by
            rw [tq]
            simp
          rw [len1]
          generalize upd (upd H1 p (.lst [])) q (.lst ((List.map V.int (c :: cs2)).eraseIdx 0)) = H2 at T3 k3 ⊢
          -- stream[3] = int(stream[3] * 8191 + cell + 3) % 2147483647
          refine ⟨_, rfl, a, _, _, _, rfl, rfl, SqL.of T3.ha, atI_nat (j := 3) rfl, _, _, rfl, rfl, .inr ⟨by decide, by decide⟩, _, rfl, _, _, rfl, rfl, _, _, rfl, rfl, .inl ⟨_, rfl, ?_⟩⟩
          refine ⟨_, _, rfl, rfl, (by show (0 : Int) < 2147483647; decide), _, rfl, a, _, _, 3, rfl, rfl, T3.ha, rfl, ?_⟩
          dsimp only [List.set_cons_zero, List.set_cons_succ]
          have M0 : 0 ≤ (m1' * 8191 + c + 3) % 2147483647 := Int.emod_nonneg _ (by decide)
          have M1 : (m1' * 8191 + c + 3) % 2147483647 < 2147483647 := Int.emod_lt_of_pos _ (by decide)
          generalize (m1' * 8191 + c + 3) % 2147483647 = M at M0 M1 ⊢
          have T4 : Strm (upd H2 a (.lst [.ref q, .int l1, .int (n + 1), .int M])) a q cs2 l1 (n + 1) M := ⟨upd_same, by rw [upd_ne naq.symm]; exact T3.hq, tl, tn, M0, M1⟩
          have k4 : ∀ b o, H b = some o → b ≠ a → b ≠ q → upd H2 a (.lst [.ref q, .int l1, .int (n + 1), .int M]) b = some o := fun b o e h1 h2 => by
            rw [upd_ne h1]
            exact k3 b o e h1 h2
          generalize upd H2 a (.lst [.ref q, .int l1, .int (n + 1), .int M]) = H3 at T4 k4 ⊢
          -- stream[1] = cell if cell >= 10 ** 18 else 0
          refine ⟨_, rfl, _, _, rfl, rfl, ⟨by decide, by decide, by decide⟩, _, _, rfl, rfl, _, rfl, ?_⟩
          refine ite2 (fun c2 => ?_) (fun c2 => ?_)
          · refine ⟨_, rfl, _, rfl, a, _, _, 1, rfl, rfl, T4.ha, rfl, ?_⟩
            have c3 : (10 : Int) ^ (18 : Int).toNat ≤ c := of_decide_eq_true c2
            have T5 : Strm (upd H3 a (.lst [.ref q, .int c, .int (n + 1), .int M])) a q cs2 c (n + 1) M := ⟨upd_same, by rw [upd_ne naq.symm]; exact T4.hq, Int.le_trans (by decide) c3, tn, M0, M1⟩
            refine ⟨⟨cs2, c, M, _, rfl, T5, fun b o e h1 h2 => by rw [upd_ne h1]; exact k4 b o e h1 h2⟩, ?_⟩
            have z := T5.hq
            dsimp only [List.set_cons_zero, List.set_cons_succ]
            rw [z]
            simp
          · refine ⟨_, rfl, a, _, _, 1, rfl, rfl, T4.ha, rfl, ?_⟩
            have T5 : Strm (upd H3 a (.lst [.ref q, .int 0, .int (n + 1), .int M])) a q cs2 0 (n + 1) M := ⟨upd_same, by rw [upd_ne naq.symm]; exact T4.hq, by decide, tn, M0, M1⟩
            refine ⟨⟨cs2, 0, M, _, rfl, T5, fun b o e h1 h2 => by rw [upd_ne h1]; exact k4 b o e h1 h2⟩, ?_⟩
            have z := T5.hq
            dsimp only [List.set_cons_zero, List.set_cons_succ]
            rw [z]
            simp
      · exact rR _ _ _ _ _ T1 k1
    · intro σ1 H1 Q1 Q2 hQ hc
      obtain ⟨v1, e1, p1, xs1, i1, w1, r1, r2, r3, r4, r5, b1, r6, hc⟩ := hc
      refine ⟨v1, e1, p1, xs1, i1, w1, r1, r2, r3, r4, r5, b1, r6, ?_⟩
      cases b1 with
      | true =>
        rw [if_pos rfl] at hc
        refine iteT ?_
        obtain ⟨v2, e2, p2, xs2, i2, w2, s1, s2, s3, s4, z1, hc⟩ := hc
        refine ⟨v2, e2, p2, xs2, i2, w2, s1, s2, s3, s4, z1, fun l hl => ?_⟩
        obtain ⟨d1, d2, g1, g2, g3, g4, b2, g5, g6⟩ := hc l hl
        exact ⟨d1, d2, g1, g2, g3, g4, b2, g5, hQ _ _ g6⟩
      | false =>
        rw [if_neg Bool.false_ne_true] at hc
        exact iteF (hQ _ _ hc)

theorem scS : FnScope ["_law_script"] ["_law_script"] (defScope sStart) := ⟨rfl, rfl, rfl, by decide +kernel, rfl, by decide +kernel, by decide +kernel⟩
theorem ok_start {f : Addr} {fd : FuncData} (F : Fun K "_law_start" "_law_start" sStart f fd) (T : TxtD K mg) : FnOk P w K mg base CX0 1 f fd ["_law_script"] (spStart K) := by
  refine F.ok (k := 0) scS (fun vs H Q E h => ?_) (fun cdv A outer s H vs Q E hr h => ?_)
  · obtain ⟨a, ns, rfl, _⟩ := h
    rfl
  · obtain ⟨a, ns, rfl, hS, kk⟩ := h
    refine ⟨_, pss_one (ps_ret (pe_lst (pa_cons (pe_callTy call_list_of (by rfl) T.list (by decide +kernel) (pa_cons (pv 0) pa_nil)) (pa_cons pe_int (pa_cons pe_int (pa_cons pe_int pa_nil)))))), ?_⟩
    refine ⟨_, rfl, a, _, rfl, .inl hS, fun q hq => ?_⟩
    refine ⟨by show 4 ≤ sizeLine; decide, fun p hp => ?_⟩
    have hp0 : H p = none := by
      by_cases e : p = q
      · rw [e, upd_same] at hp
        cases hp
      · rw [upd_ne e] at hp
        exact hp
    refine kk p q _ hp0 (fun b o e => ?_) ⟨upd_same, ?_, by decide, by decide, by decide, by decide⟩
    · rw [upd_ne (ne_of_none e hp0), upd_ne (ne_of_none e hq)]
      exact e
    · rw [upd_ne (fun e => by rw [e] at hp; rw [upd_same] at hp; cases hp), upd_same]
theorem scM : FnScope ["_law_stream", "_law_some", "_law_left", "_law_k"] ["_law_stream", "_law_some"] (defScope sMixed) := ⟨rfl, rfl, rfl, by decide +kernel, rfl, by decide +kernel, by decide +kernel⟩
theorem ok_mixed {f fD : Addr} {fd fdD : FuncData} (F : Fun K "_law_mixed" "_law_mixed" sMixed f fd) (T : TxtD K mg) (FD : Fun K "_law_draw" "_law_draw" sDraw fD fdD) (bD : Binds K fdD ["_law_stream", "_law_many"] []) (gD : mg "_law_draw" = some (.ref fD)) :
    FnOk P w K mg base CX0 2 f fd ["_law_stream", "_law_some"] (spMixed K) := by
  have GD : FnOk P w K mg base CX0 1 fD fdD ["_law_stream", "_law_many"] spDraw := ok_draw FD T
  refine F.ok scM (fun vs H Q E h => ?_) (fun cdv A outer s H vs Q E hr h => ?_)
  · obtain ⟨a, q, b, cs, l, n, m, xs, rfl, _⟩ := h
    rfl
  · obtain ⟨a, q, b, cs, l, n, m, xs, rfl, S, hn, hb, nba, nbq, hlen, kk⟩ := h
    refine ⟨_, pss_cons (ps_set (i := 2) scM.nd rfl (Or.inr rfl) (pe_callTy call_list_of (by rfl) T.list (by decide +kernel) (pa_cons (pv 1) pa_nil)))
      (pss_one (ps_ret (pe_lc (own := [("_law_k", 3)]) (g := gName 3) (tt := tYes) (te := tBM K "list" rPopAt (tVar 2) (tCons (tCall spDraw [] E0 (tCons (tVar 0) (tCons (tCB (rLenQ K) (tCons (tVar 2) tNil)) tNil))) tNil)) rfl scM.nd (pi_range1 (by rfl) T.range (pa_cons (pe_callB call_len_seq (by rfl) T.len PySem.boot_len (pa_cons (pv 2) pa_nil)) pa_nil))
        (blkOk_by (own := [("_law_k", 3)]) (N := ["_law_stream", "_law_some", "_law_left", "_law_k"]) (sc := defScope sMixed) (by decide +kernel)) (fun _ _ _ _ _ => pg_name (i := 3) scM.nd rfl (Or.inl rfl)) (fun _ _ _ _ _ => pts_nil)
        (fun _ _ _ _ _ => pe_bm PySem.F.plainAttrs_list PySem.F.slot_list_pop PySem.F.type_list_pop mt_popAt (pv 2) (pa_cons (pe_call GD hr (by rfl) gD FD.kp bD .nil pass0 (pa_cons (pv 0) (pa_cons (pe_callB call_len_seq (by rfl) T.len PySem.boot_len (pa_cons (pv 2) pa_nil)) pa_nil))) pa_nil))))), ?_⟩
    have naq : a ≠ q := S.ne
    refine ⟨_, rfl, b, _, rfl, .inl hb, fun p0 hp0 => ?_⟩
    have e0 : Same H (upd H p0 (.lst xs)) := fun c o e => by
      rw [upd_ne (ne_of_none e hp0)]
      exact e
    refine ⟨_, rfl, p0, xs, rfl, .inl (SqL.of upd_same), (xs.length : Int), rfl, by omega, by omega, fun D hD => ?_⟩
    have hD0 : H D = none := by
      by_cases e : D = p0
      · rw [e]
        exact hp0
      · rw [upd_ne e] at hD
        exact hD
    have nDp : D ≠ p0 := fun e => by
      rw [e, upd_same] at hD
      cases hD
    have nDa : D ≠ a := (ne_of_none S.ha hD0).symm
    have nDq : D ≠ q := (ne_of_none S.hq hD0).symm
    have npa : p0 ≠ a := (ne_of_none S.ha hp0).symm
    have npq : p0 ≠ q := (ne_of_none S.hq hp0).symm
    refine lc_range (lo := 0) (n := (xs.length : Int).toNat) (fun i H' => ∃ (left done : List V) (cs' : List Int) (l' m' : Int), H' p0 = some (.lst left) ∧ H' D = some (.lst done) ∧ left.length + done.length = xs.length ∧ done.length = i ∧ (∀ v ∈ left, v ∈ xs) ∧ (∀ v ∈ done, v ∈ xs) ∧ Strm H' a q cs' l' (n + i) m' ∧
      (∀ c o, H c = some o → c ≠ a → c ≠ q → H' c = some o)) ?_ ?_ ?_
    · refine ⟨xs, [], cs, l, m, by rw [upd_ne nDp.symm, upd_same], upd_same, by simp, rfl, fun v h => h, fun v h => (nomatch h), ⟨?_, ?_, S.l0, by have := S.n0; omega, S.m0, S.m1⟩, fun c o e _ _ => ?_⟩
      · rw [upd_ne nDa.symm, upd_ne npa.symm, S.ha]
        simp
      · rw [upd_ne nDq.symm, upd_ne npq.symm, S.hq]
      · rw [upd_ne (ne_of_none e hD0), upd_ne (ne_of_none e hp0)]
        exact e
    · rintro i H1 hi ⟨left, done, cs1, l1, m1, h1, h2, h3, h4, h5, h6, T1, k1⟩
      have hl0 : 0 < left.length := by omega
      refine ⟨rfl, ?_⟩
      refine ⟨_, rfl, .inl ⟨rfl, _, SqL.of h1⟩, _, rfl, _, rfl, p0, left, rfl, .inl (SqL.of h1), a, q, cs1, l1, n + i, m1, left.length, rfl, by omega, by omega, T1, by omega, ?_⟩
      intro d cs2 l2 m2 H2 d0 d1 T2 k2
      have g1 : H2 p0 = some (.lst left) := k2 _ _ h1 npa npq
      have g2 : H2 D = some (.lst done) := k2 _ _ h2 nDa nDq
      have hd : d.toNat < left.length := by omega
      refine ⟨p0, left, d, d.toNat, left[d.toNat], rfl, rfl, g1, by omega, by omega, ?_, List.getElem?_eq_getElem hd, ?_⟩
      · unfold seqIndex?
        simp
        omega
      · refine ⟨done, by rw [upd_ne nDp]; exact g2, ?_, left.eraseIdx d.toNat, done ++ [left[d.toNat]], cs2, l2, m2, ?_, upd_same, ?_, ?_, ?_, ?_, ?_, ?_⟩
        · exact Nat.lt_of_le_of_lt (by omega : done.length ≤ 1000) (by decide)
        · rw [upd_ne nDp.symm, upd_same]
        · rw [List.length_eraseIdx_of_lt hd, List.length_append]
          simp
          omega
        · rw [List.length_append]
          simp
          omega
        · intro v hv
          exact h5 v (List.mem_of_mem_eraseIdx hv)
        · intro v hv
          rcases List.mem_append.mp hv with z | z
          · exact h6 v z
          · rw [List.mem_singleton.1 z]
            exact h5 _ (List.getElem_mem hd)
        · refine ⟨?_, ?_, T2.l0, by have := T2.n0; omega, T2.m0, T2.m1⟩
          · rw [upd_ne nDa.symm, upd_ne npa.symm, T2.ha]
            simp
            omega
          · rw [upd_ne nDq.symm, upd_ne npq.symm, T2.hq]
        · intro c o e c1 c2
          have z := k2 c o (k1 c o e c1 c2) c1 c2
          rw [upd_ne (ne_of_none e hD0), upd_ne (ne_of_none e hp0)]
          exact z
    · rintro H1 ⟨left, done, cs1, l1, m1, h1, h2, h3, h4, h5, h6, T1, k1⟩
      have e1 : (xs.length : Int).toNat = xs.length := by omega
      rw [e1] at h4 T1
      exact kk D done cs1 l1 m1 H1 hD0 h2 h6 h4 T1 k1
end
end Mine
namespace Mine
open PySem L2 PySem.Spec PyProof.Rows LamX NdefX
/-! ### the lambdas that read an error's fields -/
def pmLam (p : Pos) : Arguments := { posonlyargs := [], args := [{ arg := "_law_e", annotation := none, pos := p }], vararg := none, kwonlyargs := [], kw_defaults := [], kwarg := none, defaults := [] }
def scLam : Scope := { kind := .function, names := [(PySem.Str.ofString "_law_e", .local)], isGenerator := false, isCoroutine := false, more := [] }
/-- told: what the fields hold -/
def spF (K : PySem.W.Frag) (flds : List Str) : List (Option V) → Sp := fun _ vs H Q _ => ∃ (m C : Addr) (fs : List (Str × V)) (due : List V), vs = [.ref m] ∧ ExcV H m C fs ∧ XfC K C ∧ (∀ f ∈ flds, PySem.W.findIn K (.ref C) f = some none) ∧ flds.map (fun f => fs.lookup f) = due.map some ∧
  ∀ p, H p = none → Q (.ref p) (upd H p (.lst due))
section
variable {P : Program} {w : World} {K : PySem.W.Frag} {mg : Str → Option Value} {base : Heap} {f c' : Addr} {qual : Str}
theorem lamSc : NScope ["_law_e"] ["_law_e"] [] scLam := nscope_by (by decide +kernel)
theorem lok_f0 {p0 p3 : Pos} : LOk P w K mg base CX0 1 f ⟨"<lambda>", qual, pmLam p0, [], scLam, [], c'⟩ (.List [] p3) ["_law_e"] [] (spF K []) := by
  refine lok_of (N := ["_law_e"]) lamSc (fun pm ctv us hu => match us, hu with | [_], _ => rfl) (fun ws vs H Q E h => ?_) (fun A outer s H vs ws Q E hr hw h => ?_)
  · obtain ⟨m, C, fs, due, rfl, _⟩ := h
    rfl
  · obtain ⟨m, C, fs, due, rfl, hx, xf, no, hd, k⟩ := h
    cases due with
    | cons d ds => cases hd
    | nil =>
      refine ⟨_, pe_lst pa_nil, ?_⟩
      exact ⟨Nat.zero_le _, fun p hp => k p hp⟩
theorem lok_f1 {fld : Str} {p0 p1 p2 p3 : Pos} :
    LOk P w K mg base CX0 1 f ⟨"<lambda>", qual, pmLam p0, [], scLam, [], c'⟩ (.List [.Attribute (.Name "_law_e" p1) fld p2] p3) ["_law_e"] [] (spF K [fld]) := by
  refine lok_of (N := ["_law_e"]) lamSc (fun pm ctv us hu => match us, hu with | [_], _ => rfl) (fun ws vs H Q E h => ?_) (fun A outer s H vs ws Q E hr hw h => ?_)
  · obtain ⟨m, C, fs, due, rfl, _⟩ := h
    rfl
  · obtain ⟨m, C, fs, due, rfl, hx, xf, no, hd, k⟩ := h
    cases due with
    | nil => cases hd
    | cons d ds =>
      cases ds with
      | cons d2 ds => simp at hd
      | nil =>
        have h1 : fs.lookup fld = some d := (List.cons.inj hd).1
        refine ⟨_, pe_lst (pa_cons (pe_xat (pv 0)) pa_nil), ?_⟩
        exact ⟨_, rfl, m, C, fs, d, rfl, xf, no fld (List.mem_cons_self ..), hx, h1, by show 1 ≤ sizeLine; decide, fun p hp => k p hp⟩
theorem lok_f2 {f1 f2 : Str} {p0 p1 p2 p3 p4 p5 : Pos} :
    LOk P w K mg base CX0 1 f ⟨"<lambda>", qual, pmLam p0, [], scLam, [], c'⟩ (.List [.Attribute (.Name "_law_e" p1) f1 p2, .Attribute (.Name "_law_e" p4) f2 p5] p3) ["_law_e"] [] (spF K [f1, f2]) := by
  refine lok_of (N := ["_law_e"]) lamSc (fun pm ctv us hu => match us, hu with | [_], _ => rfl) (fun ws vs H Q E h => ?_) (fun A outer s H vs ws Q E hr hw h => ?_)
  · obtain ⟨m, C, fs, due, rfl, _⟩ := h
    rfl
  · obtain ⟨m, C, fs, due, rfl, hx, xf, no, hd, k⟩ := h
    obtain ⟨d1, d2, rfl⟩ : ∃ d1 d2, due = [d1, d2] := by
      have e : _ := congrArg List.length hd
      simp at e
      match due, e with
      | [d1, d2], _ => exact ⟨d1, d2, rfl⟩
    · have h1 : fs.lookup f1 = some d1 := (List.cons.inj hd).1
      have h2 : fs.lookup f2 = some d2 := (List.cons.inj (List.cons.inj hd).2).1
      refine ⟨_, pe_lst (pa_cons (pe_xat (pv 0)) (pa_cons (pe_xat (pv 0)) pa_nil)), ?_⟩
      exact ⟨_, rfl, m, C, fs, d1, rfl, xf, no f1 (List.mem_cons_self ..), hx, h1, _, rfl, m, C, fs, d2, rfl, xf, no f2 (List.mem_cons_of_mem _ (List.mem_cons_self ..)), hx, h2, by show 2 ≤ sizeLine; decide, fun p hp => k p hp⟩
end
/-! ### the entries of the law's lists -/
structure EI where
  C : Addr
  fs : List (Str × V)
  flds : List Str
  due : List V
/-- all but the list at l and the tables stay -/
def XB (l : Addr) (H H' : Hp) : Prop := ∀ b o, H b = some o → b ≠ l → (∀ ps, o ≠ .tbl ps) → H' b = some o
theorem XB.refl (l : Addr) (H : Hp) : XB l H H := fun _ _ e _ _ => e
theorem XB.trans {l : Addr} {H H1 H2 : Hp} (a : XB l H H1) (b : XB l H1 H2) : XB l H H2 := fun c o e h1 h2 => b c o (a c o e h1 h2) h1 h2
theorem XB.ofN {l : Addr} {H H' : Hp} (a : ExtN H H') : XB l H H' := fun c o e _ h2 => a c o e h2
theorem XB.ofS {l : Addr} {H H' : Hp} (a : Same H H') : XB l H H' := fun c o e _ _ => a c o e
section
variable (P : Program) (w : World) (K : PySem.W.Frag) (mg : Str → Option Value) (base : Heap)
def LamG (H : Hp) (f : Addr) (flds : List Str) : Prop := ∃ (F : NF) (bE : Expr), H f = some (LamO f F bE) ∧ H F.c = some (CodeO F.c F.qual) ∧ F.cl = [] ∧ LOk P w K mg base CX0 1 f F bE ["_law_e"] [] (spF K flds)
def Entry (L0 : Addr → Prop) (l : Addr) (H : Hp) (v : V) (i : EI) : Prop := ∃ t m m' f u : Addr, v = .ref t ∧ H t = some (.tup [.ref m, .ref m', .ref f, .ref u]) ∧ ExcV H m i.C i.fs ∧ ExcV H m' i.C i.fs ∧ LamG P w K mg base H f i.flds ∧ H u = some (.lst i.due) ∧ u ≠ l ∧ ¬ L0 u
end
section
variable {P : Program} {w : World} {K : PySem.W.Frag} {mg : Str → Option Value} {base : Heap} {l : Addr} {H H' : Hp} {es : List V}
theorem at_l {a : Addr} {o : HO} (hl : H l = some (.lst es)) (ha : H a = some o) (d : ∀ xs, o ≠ .lst xs) : a ≠ l := fun e => by
  rw [e, hl] at ha
  exact d es (Option.some.inj ha).symm
theorem ExcV.xb {a C : Addr} {fs : List (Str × V)} (x : ExcV H a C fs) (hl : H l = some (.lst es)) (k : XB l H H') : ExcV H' a C fs := by
  have one : ∀ d, H a = some (exo a C d) → H' a = some (exo a C d) := fun d h1 => k _ _ h1 (at_l hl h1 fun xs z => by unfold exo at z; cases z) fun ps z => exo_tbl z
  rcases x with ⟨dx, h1, h2⟩ | ⟨e, h1⟩
  · exact .inl ⟨dx, one _ h1, k _ _ h2 (at_l hl h2 fun xs z => by unfold exd at z; cases z) fun ps z => by unfold exd at z; cases z⟩
  · exact .inr ⟨e, one _ h1⟩
theorem LamG.xb {f : Addr} {flds : List Str} (x : LamG P w K mg base H f flds) (hl : H l = some (.lst es)) (k : XB l H H') : LamG P w K mg base H' f flds := by
  obtain ⟨F, bE, h1, h2, h3, h4⟩ := x
  refine ⟨F, bE, k _ _ h1 (at_l hl h1 fun xs z => ?_) lamO_ne, k _ _ h2 (at_l hl h2 fun xs z => ?_) codeO_ne, h3, h4⟩
  · unfold LamO at z
    cases z
  · unfold CodeO at z
    cases z
theorem Entry.xb {L0 : Addr → Prop} {v : V} {i : EI} (x : Entry P w K mg base L0 l H v i) (hl : H l = some (.lst es)) (k : XB l H H') : Entry P w K mg base L0 l H' v i := by
  obtain ⟨t, m, m', f, u, e, h1, h2, h3, h4, h5, h6⟩ := x
  exact ⟨t, m, m', f, u, e, k _ _ h1 (at_l hl h1 fun xs z => nomatch z) (fun ps z => nomatch z), h2.xb hl k, h3.xb hl k, h4.xb hl k, k _ _ h5 h6.1 (fun ps z => nomatch z), h6⟩
theorem ExcV.n {a C : Addr} {fs : List (Str × V)} (x : ExcV H a C fs) (k : ExtN H H') : ExcV H' a C fs := by
  rcases x with ⟨dx, h1, h2⟩ | ⟨e, h1⟩
  · exact .inl ⟨dx, k _ _ h1 (fun ps z => exo_tbl z), k _ _ h2 fun ps z => by unfold exd at z; cases z⟩
  · exact .inr ⟨e, k _ _ h1 (fun ps z => exo_tbl z)⟩
theorem same_upd {p : Addr} {o : HO} (h : H p = none) : Same H (upd H p o) := fun b u e => by
  rw [upd_ne (ne_of_none e h)]
  exact e
theorem tabs_same {T : List (Addr × Str)} (t : Tabs T H) (s : Same H H') : Tabs T H' := t.ext s
/-- found.append((mine, twin, lambda, due)): what the four give -/
theorem ap_read {L0 : Addr → Prop} {T : List (Addr × Str)} {σ : L2.St} {te1 te2 te4 : TE} {mk : Addr → NF} {bE : Expr} {i : EI} {Q : VK} {j : Nat} (hL : ∀ b, L0 b → ∃ o, H b = some o ∧ ∀ ps, o ≠ .tbl ps) (hT : Tabs T H) (hl : H l = some (.lst es)) (hes : es.length ≤ 100) (hj : σ[j]? = some (some (.ref l)))
    (h1 : ∀ H1, Same H H1 → ∀ Q : VK, (∀ a H2, Same H1 H2 → ExcV H2 a i.C i.fs → Q (.ref a) H2) → te1 σ H1 Q)
    (h2 : ∀ H1, Same H H1 → ∀ Q : VK, (∀ a H2, Same H1 H2 → ExcV H2 a i.C i.fs → Q (.ref a) H2) → te2 σ H1 Q)
    (h4 : ∀ H1, ExtN H H1 → ∀ Q : VK, (∀ u, H1 u = none → Q (.ref u) (upd H1 u (.lst i.due))) → te4 σ H1 Q)
    (hk : ∀ f c', LOk P w K mg base CX0 1 f (mk c') bE ["_law_e"] [] (spF K i.flds)) (hcl : ∀ c', (mk c').cl = []) (hc : ∀ c', (mk c').c = c')
    (k : ∀ t H', Tabs T H' → XB l H H' → H' l = some (.lst (es ++ [.ref t])) → Entry P w K mg base L0 l H' (.ref t) i → Q .non H') :
    tBM K "list" rAppend (tVar j) (tCons (tTup (tCons te1 (tCons te2 (tCons (tLamV T mk bE) (tCons te4 tNil))))) tNil) σ H Q := by
  refine ⟨_, hj, .inl ⟨rfl, _, SqL.of hl⟩, ?_⟩
  refine h1 H (fun _ _ e => e) _ fun m H1 s1 x1 => ?_
  refine h2 H1 s1 _ fun m' H2 s2 x2 => ?_
  have s12 : Same H H2 := fun b o e => s2 b o (s1 b o e)
  refine ⟨tabs_same hT s12, fun f c' H3 e3 t3 nf hf hc' => ?_⟩
  have e13 : ExtN H H3 := fun b o e n => e3 b o (s12 b o e) n
  refine h4 H3 e13 _ fun u hu => ?_
  refine ⟨by show 4 ≤ sizeLine; decide, fun t ht => ?_⟩
  have s4 : Same H3 (upd H3 u (.lst i.due)) := same_upd hu
  have s5 : Same (upd H3 u (.lst i.due)) (upd (upd H3 u (.lst i.due)) t (.tup [.ref m, .ref m', .ref f, .ref u])) := same_upd ht
  have s35 : Same H3 (upd (upd H3 u (.lst i.due)) t (.tup [.ref m, .ref m', .ref f, .ref u])) := fun b o e => s5 b o (s4 b o e)
  have hl3 : H3 l = some (.lst es) := e13 _ _ hl fun ps z => nomatch z
  have hl5 : (upd (upd H3 u (.lst i.due)) t (.tup [.ref m, .ref m', .ref f, .ref u])) l = some (.lst es) := s35 _ _ hl3
  have hu5 : (upd (upd H3 u (.lst i.due)) t (.tup [.ref m, .ref m', .ref f, .ref u])) u = some (.lst i.due) := s5 _ _ upd_same
  have ht5 : (upd (upd H3 u (.lst i.due)) t (.tup [.ref m, .ref m', .ref f, .ref u])) t = some (.tup [.ref m, .ref m', .ref f, .ref u]) := upd_same
  have hul : u ≠ l := (ne_of_none hl3 hu).symm
  have huL : ¬ L0 u := fun z => by
    obtain ⟨o, z1, z2⟩ := hL u z
    have z3 := e13 _ _ z1 z2
    rw [hu] at z3
    cases z3
  generalize upd (upd H3 u (.lst i.due)) t (.tup [.ref m, .ref m', .ref f, .ref u]) = H5 at s35 hl5 hu5 ht5 ⊢
  refine ⟨l, es, _, rfl, rfl, hl5, Nat.lt_of_le_of_lt hes (by decide), ?_⟩
  have xu : XB l H5 (upd H5 l (.lst (es ++ [.ref t]))) := fun b o e h1 _ => by
    rw [upd_ne h1]
    exact e
  have x05 : XB l H5 H5 := XB.refl _ _
  have n25 : ExtN H2 H5 := fun b o e n => s35 b o (e3 b o e n)
  refine k t _ (fun p hp => ?_) (fun b o e h1 h2 => xu b o (s35 b o (e13 b o e h2)) h1 h2) upd_same ?_
  · obtain ⟨ps, a1, a2, a3⟩ := (t3.ext s35) p hp
    have np : p.1 ≠ l := at_l hl5 a1 fun xs z => nomatch z
    refine ⟨ps, by rw [upd_ne np]; exact a1, a2, fun p' cv hcv => ?_⟩
    obtain ⟨c0, y1, y2⟩ := a3 p' cv hcv
    exact ⟨c0, y1, xu _ _ y2 (at_l hl5 y2 fun xs z => by unfold CodeO at z; cases z) codeO_ne⟩
  · have E5 : Entry P w K mg base L0 l H5 (.ref t) i := by
      refine ⟨t, m, m', f, u, rfl, ht5, (x1.same s2).n n25, x2.n n25, ⟨mk c', bE, s35 _ _ hf, ?_, hcl c', hk f c'⟩, hu5, hul, huL⟩
      rw [hc c']
      exact s35 _ _ hc'
    exact E5.xb hl5 xu
end
end Mine
namespace Mine
open PySem L2 PySem.Spec PyProof.Rows LamX NdefX
abbrev sMadeA : Stmt := top 49
abbrev sMadeB : Stmt := top 50
abbrev sMadeC : Stmt := top 51
/-- a def of the text whose code object is known -/
structure FunC (K : PySem.W.Frag) (x qual : Str) (st : Stmt) (f : Addr) (fd : FuncData) (c : Addr) : Prop where
  ex : ∃ (oc : Value) (od : Option Addr) (kV doc pm : Value) (an : Option Addr) (ct : Value) (osl : Array (Option Value)),
    fd = PySem.W.fnOf x qual (defArgs st) (defBody st) (defScope st) .none kV doc pm an (.ref c) ct ∧ K.lookup f = some ⟨oc, od, .func fd, osl⟩ ∧ PySem.W.codeIn K (.ref c) qual = true
  kp : (PySem.W.keepIn K (.ref f)) = true
section
variable {w : World} {P : Program} {base : Heap} {K : PySem.W.Frag} {mg : Str → Option Value}
theorem FunC.ok {x qual : Str} {st : Stmt} {f c : Addr} {fd : FuncData} {N ps : List Str} {k : Nat} {sp : Sp} (F : FunC K x qual st f fd c) (S : FnScope N ps (defScope st)) (len : ∀ vs H Q E, sp vs H Q E → vs.length = ps.length)
    (hbody : ∀ (A : Around) (outer : List Env) (s : Shared) (H : Hp) (vs : List V) (Q : VK) (E : XK), Room k (A.deeper (envOfC qual (defScope st) s.heap.objs.size f (.ref c))) → sp vs H Q E →
      ∃ t, PSs (cxOf CX0 P w K mg base N qual (defScope st) f (.ref c) A outer s H E).nox (defBody st) t ∧ t { nx := fun _ H' => Q .non H', rt := Q } (start N vs) H) : FnOk P w K mg base CX0 (k + 1) f fd ps sp := by
  obtain ⟨oc, od, kV, doc, pm, an, ct, osl, rfl, lk, hcd⟩ := F.ex
  refine fn_of lk hcd S len fun A outer s0 H vs Q E hr hsp => ?_
  obtain ⟨t, h, q⟩ := hbody A outer s0 H vs Q E hr hsp
  exact ⟨t, h.nox, q⟩
theorem FunC.fun {x qual : Str} {st : Stmt} {f c : Addr} {fd : FuncData} (F : FunC K x qual st f fd c) : Fun K x qual st f fd := by
  obtain ⟨oc, od, kV, doc, pm, an, ct, osl, h1, h2, h3⟩ := F.ex
  exact ⟨⟨oc, od, kV, doc, pm, an, _, ct, osl, h1, h2, h3⟩, F.kp⟩
end
/-! ### the state of a list that is being filled -/
inductive EntriesOk (R : V → EI → Prop) : List V → List EI → Prop
  | nil : EntriesOk R [] []
  | cons {v : V} {vs : List V} {i : EI} {is : List EI} : R v i → EntriesOk R vs is → EntriesOk R (v :: vs) (i :: is)
theorem EntriesOk.len {R : V → EI → Prop} : ∀ {vs : List V} {is : List EI}, EntriesOk R vs is → vs.length = is.length
  | _, _, .nil => rfl
  | _, _, .cons _ t => congrArg Nat.succ t.len
theorem EntriesOk.imp {R R' : V → EI → Prop} (h : ∀ v i, R v i → R' v i) : ∀ {vs : List V} {is : List EI}, EntriesOk R vs is → EntriesOk R' vs is
  | _, _, .nil => .nil
  | _, _, .cons r t => .cons (h _ _ r) (t.imp h)
theorem EntriesOk.app {R : V → EI → Prop} : ∀ {vs us : List V} {is js : List EI}, EntriesOk R vs is → EntriesOk R us js → EntriesOk R (vs ++ us) (is ++ js)
  | _, _, _, _, .nil, s => s
  | _, _, _, _, .cons r t, s => .cons r (t.app s)
theorem EntriesOk.get {R : V → EI → Prop} : ∀ {vs : List V} {is : List EI} {k : Nat} {v : V}, EntriesOk R vs is → vs[k]? = some v → ∃ i, is[k]? = some i ∧ R v i
  | _, _, _, _, .nil, e => by
    rw [List.getElem?_nil] at e
    cases e
  | _, _, 0, v, .cons r _, e => by simp at e; subst e; exact ⟨_, rfl, r⟩
  | _, _, k + 1, v, .cons _ t, e => by
    obtain ⟨i, h1, h2⟩ := EntriesOk.get (k := k) (v := v) t (by simpa using e)
    exact ⟨i, by simpa using h1, h2⟩
section
variable {w : World} {P : Program} {base : Heap} {K : PySem.W.Frag} {mg : Str → Option Value}
structure MS (P : Program) (w : World) (K : PySem.W.Frag) (mg : Str → Option Value) (base : Heap) (T : List (Addr × Str)) (H0 H' : Hp) (l : Addr) (es : List V) (is : List EI) : Prop where
  tabs : Tabs T H'
  at_ : H' l = some (.lst es)
  ent : EntriesOk (Entry P w K mg base (fun b => ∃ xs, H0 b = some (.lst xs)) l H') es is
  ext : ExtN H0 H'
  fresh : H0 l = none
theorem ms_start {T : List (Addr × Str)} {H0 : Hp} {l : Addr} (t : Tabs T H0) (h : H0 l = none) : MS P w K mg base T H0 (upd H0 l (.lst [])) l [] [] :=
  ⟨t.ext (same_upd h), upd_same, .nil, ExtN.of (same_upd h), h⟩
theorem ms_step {T : List (Addr × Str)} {H0 H : Hp} {l : Addr} {es : List V} {is : List EI} {σ : L2.St} {te1 te2 te4 : TE} {mk : Addr → NF} {bE : Expr} {Q : VK} {j : Nat} (i : EI) (M : MS P w K mg base T H0 H l es is) (hes : is.length ≤ 100) (hj : σ[j]? = some (some (.ref l)))
    (h1 : ∀ (H1 : Hp) (Q : VK), (∀ a H2, Same H1 H2 → ExcV H2 a i.C i.fs → Q (.ref a) H2) → te1 σ H1 Q)
    (h2 : ∀ (H1 : Hp) (Q : VK), (∀ a H2, Same H1 H2 → ExcV H2 a i.C i.fs → Q (.ref a) H2) → te2 σ H1 Q)
    (h4 : ∀ (H1 : Hp) (Q : VK), (∀ u, H1 u = none → Q (.ref u) (upd H1 u (.lst i.due))) → te4 σ H1 Q)
    (hk : ∀ f c', LOk P w K mg base CX0 1 f (mk c') bE ["_law_e"] [] (spF K i.flds)) (hcl : ∀ c', (mk c').cl = []) (hc : ∀ c', (mk c').c = c')
    (k : ∀ (es' : List V) (H' : Hp), MS P w K mg base T H0 H' l es' (is ++ [i]) → Q .non H') :
    tBM K "list" rAppend (tVar j) (tCons (tTup (tCons te1 (tCons te2 (tCons (tLamV T mk bE) (tCons te4 tNil))))) tNil) σ H Q := by
  refine ap_read (P := P) (w := w) (mg := mg) (base := base) (L0 := fun b => ∃ xs, H0 b = some (.lst xs)) (fun b ⟨xs, e⟩ => ⟨_, M.ext b _ e (fun ps z => nomatch z), fun ps z => nomatch z⟩) M.tabs M.at_ (by rw [M.ent.len]; exact hes) hj (fun H1 _ Q q => h1 H1 Q q) (fun H1 _ Q q => h2 H1 Q q) (fun H1 _ Q q => h4 H1 Q q) hk hcl hc fun t H' t1 x1 l1 e1 => ?_
  refine k _ H' ⟨t1, l1, (M.ent.imp fun v i r => r.xb M.at_ x1).app (.cons e1 .nil), fun b o e n => ?_, M.fresh⟩
  exact x1 b o (M.ext b o e n) (ne_of_none e M.fresh) n
theorem h_x1 {σ : L2.St} {C : Addr} {fld : Str} {x : V} {i : Nat} (h0 : σ[i]? = some (some x)) (H1 : Hp) (Q : VK) (q : ∀ a H2, Same H1 H2 → ExcV H2 a C [(fld, x)] → Q (.ref a) H2) : tExcV C (mk1 fld) (tCons (tVar i) tNil) σ H1 Q :=
  ⟨x, h0, _, rfl, fun a H2 _ s e => q a H2 s e⟩
theorem h_x2 {σ : L2.St} {C : Addr} {f1 f2 : Str} {x y : V} {i j : Nat} (h0 : σ[i]? = some (some x)) (h1 : σ[j]? = some (some y)) (H1 : Hp) (Q : VK) (q : ∀ a H2, Same H1 H2 → ExcV H2 a C [(f2, y), (f1, x)] → Q (.ref a) H2) : tExcV C (mk2 f1 f2) (tCons (tVar i) (tCons (tVar j) tNil)) σ H1 Q :=
  ⟨x, h0, y, h1, _, rfl, fun a H2 _ s e => q a H2 s e⟩
theorem h_x2r {σ : L2.St} {C : Addr} {f1 f2 : Str} {x y : V} {i j : Nat} (h0 : σ[i]? = some (some x)) (h1 : σ[j]? = some (some y)) (H1 : Hp) (Q : VK) (q : ∀ a H2, Same H1 H2 → ExcV H2 a C [(f2, y), (f1, x)] → Q (.ref a) H2) : tExcV C (mk2r f1 f2) (tCons (tVar j) (tCons (tVar i) tNil)) σ H1 Q :=
  ⟨y, h1, x, h0, _, rfl, fun a H2 _ s e => q a H2 s e⟩
theorem h_x0 {σ : L2.St} {C : Addr} (H1 : Hp) (Q : VK) (q : ∀ a H2, Same H1 H2 → ExcV H2 a C [] → Q (.ref a) H2) : (fun (_ : L2.St) (H : Hp) (Q : VK) => ∀ a H2, H a = none → Same H H2 → ExcV H2 a C [] → Q (.ref a) H2) σ H1 Q :=
  fun a H2 _ s e => q a H2 s e
theorem h_l1 {σ : L2.St} {x : V} {i : Nat} (h0 : σ[i]? = some (some x)) (H1 : Hp) (Q : VK) (q : ∀ u, H1 u = none → Q (.ref u) (upd H1 u (.lst [x]))) : tLst (tCons (tVar i) tNil) σ H1 Q := ⟨x, h0, by show 1 ≤ sizeLine; decide, q⟩
theorem h_l2 {σ : L2.St} {x y : V} {i j : Nat} (h0 : σ[i]? = some (some x)) (h1 : σ[j]? = some (some y)) (H1 : Hp) (Q : VK) (q : ∀ u, H1 u = none → Q (.ref u) (upd H1 u (.lst [x, y]))) : tLst (tCons (tVar i) (tCons (tVar j) tNil)) σ H1 Q := ⟨x, h0, y, h1, by show 2 ≤ sizeLine; decide, q⟩
theorem h_l0 {σ : L2.St} (H1 : Hp) (Q : VK) (q : ∀ u, H1 u = none → Q (.ref u) (upd H1 u (.lst []))) : tLst tNil σ H1 Q := ⟨Nat.zero_le _, q⟩
theorem m_v {i : Nat} (σ : L2.St) (H : Hp) (Q Q' : List V → Hp → Prop) (h : ∀ vs H1, Q vs H1 → Q' vs H1) (q : tCons (tVar i) tNil σ H Q) : tCons (tVar i) tNil σ H Q' := by
  obtain ⟨v, e, q⟩ := q
  exact ⟨v, e, h _ _ q⟩
theorem m_vv {i j : Nat} (σ : L2.St) (H : Hp) (Q Q' : List V → Hp → Prop) (h : ∀ vs H1, Q vs H1 → Q' vs H1) (q : tCons (tVar i) (tCons (tVar j) tNil) σ H Q) : tCons (tVar i) (tCons (tVar j) tNil) σ H Q' := by
  obtain ⟨v, e, v2, e2, q⟩ := q
  exact ⟨v, e, v2, e2, h _ _ q⟩
/-- what each class is -/
structure TX (P : Program) (w : World) (K : PySem.W.Frag) (mg : Str → Option Value) (base : Heap) : Prop where
  x_BadDeed : XC1 P w K mg base "BadDeed" (He.ga K "BadDeed") "thing" "thing"
  x_BadForest : XC1 P w K mg base "BadForest" (He.ga K "BadForest") "thing" "thing"
  x_BadForm : XC1 P w K mg base "BadForm" (He.ga K "BadForm") "thing" "thing"
  x_BadHeight : XC1 P w K mg base "BadHeight" (He.ga K "BadHeight") "thing" "thing"
  x_BadHollow : XC1 P w K mg base "BadHollow" (He.ga K "BadHollow") "thing" "thing"
  x_BadKind : XC1 P w K mg base "BadKind" (He.ga K "BadKind") "thing" "thing"
  x_BadLosses : XC1 P w K mg base "BadLosses" (He.ga K "BadLosses") "fault" "fault"
  x_BadLot : XC1 P w K mg base "BadLot" (He.ga K "BadLot") "index" "index"
  x_BadLots : XC1 P w K mg base "BadLots" (He.ga K "BadLots") "index" "index"
  x_BadName : XC1 P w K mg base "BadName" (He.ga K "BadName") "thing" "thing"
  x_BadNest : XC1 P w K mg base "BadNest" (He.ga K "BadNest") "thing" "thing"
  x_BadNumber : XC1 P w K mg base "BadNumber" (He.ga K "BadNumber") "thing" "thing"
  x_BadOrder : XC1 P w K mg base "BadOrder" (He.ga K "BadOrder") "index" "index"
  x_BadParting : XC1 P w K mg base "BadParting" (He.ga K "BadParting") "thing" "thing"
  x_BadPicture : XC1 P w K mg base "BadPicture" (He.ga K "BadPicture") "thing" "thing"
  x_BadPlaces : XC1 P w K mg base "BadPlaces" (He.ga K "BadPlaces") "index" "index"
  x_BadPrice : XC1 P w K mg base "BadPrice" (He.ga K "BadPrice") "thing" "thing"
  x_BadPriced : XC1 P w K mg base "BadPriced" (He.ga K "BadPriced") "thing" "thing"
  x_BadQuestion : XC1 P w K mg base "BadQuestion" (He.ga K "BadQuestion") "thing" "thing"
  x_BadRoots : XC1 P w K mg base "BadRoots" (He.ga K "BadRoots") "index" "index"
  x_BadRows : XC1 P w K mg base "BadRows" (He.ga K "BadRows") "index" "index"
  x_BadSession : XC1 P w K mg base "BadSession" (He.ga K "BadSession") "thing" "thing"
  x_BadSharing : XC1 P w K mg base "BadSharing" (He.ga K "BadSharing") "thing" "thing"
  x_BadTable : XC1 P w K mg base "BadTable" (He.ga K "BadTable") "thing" "thing"
  x_BadText : XC2 P w K mg base "BadText" (He.ga K "BadText") "line" "sign" "line" "sign"
  x_BadTies : XC1 P w K mg base "BadTies" (He.ga K "BadTies") "index" "index"
  x_BadTold : XC1 P w K mg base "BadTold" (He.ga K "BadTold") "index" "index"
  x_BadWeb : XC1 P w K mg base "BadWeb" (He.ga K "BadWeb") "thing" "thing"
  x_InUse : XC1 P w K mg base "InUse" (He.ga K "InUse") "question" "question"
  x_IsThere : XC1 P w K mg base "IsThere" (He.ga K "IsThere") "lot" "lot"
  x_IsWatched : XC1 P w K mg base "IsWatched" (He.ga K "IsWatched") "question" "question"
  x_NoCount : XC1 P w K mg base "NoCount" (He.ga K "NoCount") "thing" "thing"
  x_NoLot : XC1 P w K mg base "NoLot" (He.ga K "NoLot") "thing" "thing"
  x_NoParts : XC1 P w K mg base "NoParts" (He.ga K "NoParts") "lot" "lot"
  x_NoPlace : XC1 P w K mg base "NoPlace" (He.ga K "NoPlace") "thing" "thing"
  x_NoRoot : XC1 P w K mg base "NoRoot" (He.ga K "NoRoot") "place" "place"
  x_NoTie : XC2 P w K mg base "NoTie" (He.ga K "NoTie") "one" "other" "one" "other"
  x_NotThere : XC1 P w K mg base "NotThere" (He.ga K "NotThere") "lot" "lot"
  x_NotWatched : XC1 P w K mg base "NotWatched" (He.ga K "NotWatched") "question" "question"
  e_OtherPlaces : PySem.W.excIn K (He.ga K "OtherPlaces") [.type "ValueError", .type "Exception", .type "BaseException", .type "object"] "ValueError.__new__" = true
  g_OtherPlaces : mg "OtherPlaces" = some (.ref (He.ga K "OtherPlaces"))
  k_OtherPlaces : PySem.W.keepIn K (.ref (He.ga K "OtherPlaces")) = true
  x_SamePlace : XC1 P w K mg base "SamePlace" (He.ga K "SamePlace") "thing" "thing"
  x_SavesNothing : XC1 P w K mg base "SavesNothing" (He.ga K "SavesNothing") "lot" "lot"
  x_WouldChange : XC2 P w K mg base "WouldChange" (He.ga K "WouldChange") "question" "why" "question" "why"
def infoA (K : PySem.W.Frag) (x y : V) : List EI := [⟨He.ga K "BadDeed", [("thing", x)], ["thing"], [x]⟩,
  ⟨He.ga K "BadForest", [("thing", x)], ["thing"], [x]⟩,
  ⟨He.ga K "BadForm", [("thing", x)], ["thing"], [x]⟩,
  ⟨He.ga K "BadHeight", [("thing", x)], ["thing"], [x]⟩,
  ⟨He.ga K "BadHollow", [("thing", x)], ["thing"], [x]⟩,
  ⟨He.ga K "BadKind", [("thing", x)], ["thing"], [x]⟩,
  ⟨He.ga K "BadLosses", [("fault", x)], ["fault"], [x]⟩,
  ⟨He.ga K "BadLot", [("index", x)], ["index"], [x]⟩,
  ⟨He.ga K "BadLots", [("index", x)], ["index"], [x]⟩,
  ⟨He.ga K "BadName", [("thing", x)], ["thing"], [x]⟩,
  ⟨He.ga K "BadNest", [("thing", x)], ["thing"], [x]⟩,
  ⟨He.ga K "BadNumber", [("thing", x)], ["thing"], [x]⟩,
  ⟨He.ga K "BadOrder", [("index", x)], ["index"], [x]⟩,
  ⟨He.ga K "BadParting", [("thing", x)], ["thing"], [x]⟩,
  ⟨He.ga K "BadPicture", [("thing", x)], ["thing"], [x]⟩,
  ⟨He.ga K "BadPlaces", [("index", x)], ["index"], [x]⟩,
  ⟨He.ga K "BadPrice", [("thing", x)], ["thing"], [x]⟩,
  ⟨He.ga K "BadPriced", [("thing", x)], ["thing"], [x]⟩]
def infoB (K : PySem.W.Frag) (x y : V) : List EI := [⟨He.ga K "BadQuestion", [("thing", x)], ["thing"], [x]⟩,
  ⟨He.ga K "BadRoots", [("index", x)], ["index"], [x]⟩,
  ⟨He.ga K "BadRows", [("index", x)], ["index"], [x]⟩,
  ⟨He.ga K "BadSession", [("thing", x)], ["thing"], [x]⟩,
  ⟨He.ga K "BadSharing", [("thing", x)], ["thing"], [x]⟩,
  ⟨He.ga K "BadTable", [("thing", x)], ["thing"], [x]⟩,
  ⟨He.ga K "BadText", [("sign", y), ("line", x)], ["line", "sign"], [x, y]⟩,
  ⟨He.ga K "BadTies", [("index", x)], ["index"], [x]⟩,
  ⟨He.ga K "BadTold", [("index", x)], ["index"], [x]⟩,
  ⟨He.ga K "BadWeb", [("thing", x)], ["thing"], [x]⟩,
  ⟨He.ga K "InUse", [("question", x)], ["question"], [x]⟩,
  ⟨He.ga K "IsThere", [("lot", x)], ["lot"], [x]⟩,
  ⟨He.ga K "IsWatched", [("question", x)], ["question"], [x]⟩,
  ⟨He.ga K "NoCount", [("thing", x)], ["thing"], [x]⟩,
  ⟨He.ga K "NoLot", [("thing", x)], ["thing"], [x]⟩,
  ⟨He.ga K "NoParts", [("lot", x)], ["lot"], [x]⟩,
  ⟨He.ga K "NoPlace", [("thing", x)], ["thing"], [x]⟩,
  ⟨He.ga K "NoRoot", [("place", x)], ["place"], [x]⟩]
def infoC (K : PySem.W.Frag) (x y : V) : List EI := [⟨He.ga K "NoTie", [("other", y), ("one", x)], ["one", "other"], [x, y]⟩,
  ⟨He.ga K "NotThere", [("lot", x)], ["lot"], [x]⟩,
  ⟨He.ga K "NotWatched", [("question", x)], ["question"], [x]⟩,
  ⟨He.ga K "OtherPlaces", [], [], []⟩,
  ⟨He.ga K "SamePlace", [("thing", x)], ["thing"], [x]⟩,
  ⟨He.ga K "SavesNothing", [("lot", x)], ["lot"], [x]⟩,
  ⟨He.ga K "WouldChange", [("why", y), ("question", x)], ["question", "why"], [x, y]⟩]
def spMade (P : Program) (w : World) (K : PySem.W.Frag) (mg : Str → Option Value) (base : Heap) (T : List (Addr × Str)) (is : V → V → List EI) : Sp := fun vs H Q _ => ∃ x y z, vs = [x, y, z] ∧ Tabs T H ∧
  ∀ l es H', MS P w K mg base T H H' l es (is x y) → Q (.ref l) H'
/-- a statement that appends the entry i -/
def StOk (P : Program) (w : World) (K : PySem.W.Frag) (mg : Str → Option Value) (base : Heap) (X : Cx) (T : List (Addr × Str)) (H0 : Hp) (σ : Addr → L2.St) (st : Stmt) (i : EI) : Prop :=
  ∃ t : TS, PS X st t ∧ ∀ (l : Addr) (D : Ends) (H : Hp) (es : List V) (is : List EI), MS P w K mg base T H0 H l es is → is.length ≤ 100 → (∀ es' H', MS P w K mg base T H0 H' l es' (is ++ [i]) → D.nx (σ l) H') → t D (σ l) H
inductive Ch (R : Stmt → EI → Prop) : List Stmt → List EI → List Stmt → Prop
  | nil {tl : List Stmt} : Ch R tl [] tl
  | cons {st : Stmt} {rest tl : List Stmt} {i : EI} {is : List EI} : R st i → Ch R rest is tl → Ch R (st :: rest) (i :: is) tl
theorem Ch.run {X : Cx} {T : List (Addr × Str)} {H0 : Hp} {σ : Addr → L2.St} {tl : List Stmt} {tt : TS} (ht : PSs X tl tt) : ∀ {sts : List Stmt} {is : List EI}, Ch (StOk P w K mg base X T H0 σ) sts is tl → ∃ t, PSs X sts t ∧
    ∀ (l : Addr) (D : Ends) (H : Hp) (es : List V) (is0 : List EI), MS P w K mg base T H0 H l es is0 → is0.length + is.length ≤ 100 → (∀ es' H', MS P w K mg base T H0 H' l es' (is0 ++ is) → tt D (σ l) H') → t D (σ l) H
  | _, _, .nil => ⟨tt, ht, fun l D H es is0 M _ k => k es H (by rw [List.append_nil]; exact M)⟩
  | _, _, .cons (i := i) (is := is) ⟨t, h1, h2⟩ r => by
    obtain ⟨t2, h3, h4⟩ := Ch.run ht r
    refine ⟨_, pss_cons h1 h3, fun l D H es is0 M hl k => ?_⟩
    rw [List.length_cons] at hl
    refine h2 l _ H es is0 M (by omega) fun es' H' M' => ?_
    refine h4 l D H' es' _ M' (by rw [List.length_append, List.length_singleton]; omega) fun es2 H2 M2 => ?_
    rw [List.append_assoc] at M2
    exact k es2 H2 M2
theorem scMadeA : FnScope ["_law_x", "_law_y", "_law_z", "_law_found"] ["_law_x", "_law_y", "_law_z"] (defScope sMadeA) := ⟨rfl, rfl, rfl, by decide +kernel, rfl, by decide +kernel, by decide +kernel⟩
theorem ch_madeA {f c Pt : Addr} {T : List (Addr × Str)} {A : Around} {outer : List Env} {s : Shared} {H H0 : Hp} {E : XK} {x y z : V} (X : TX P w K mg base) (TB : TabB base mg c Pt) (hm : (Pt, ("_law_made_a" ++ ".<locals>." : Str) ++ "<lambda>") ∈ T) (hu : ∀ p ∈ T, p.1 = Pt → p.2 = ("_law_made_a" ++ ".<locals>." : Str) ++ "<lambda>")
    (hr : Room 2 (A.deeper (envOfC "_law_made_a" (defScope sMadeA) s.heap.objs.size f (.ref c)))) :
    Ch (StOk P w K mg base (cxOf CX0 P w K mg base ["_law_x", "_law_y", "_law_z", "_law_found"] "_law_made_a" (defScope sMadeA) f (.ref c) A outer s H E).nox T H0 (fun l => [some x, some y, some z, some (.ref l)])) ((defBody sMadeA).drop 1) (infoA K x y) ((defBody sMadeA).drop 19) := by
  refine .cons ⟨_, ps_expr (pe_bm PySem.F.plainAttrs_list PySem.F.slot_list_append PySem.F.type_list_append mt_append (pv 3) (pa_cons (pe_tup (pa_cons (pe_x1 X.x_BadDeed hr pass0 (by rfl) (pa_cons (pv 0) pa_nil) m_v) (pa_cons (pe_x1K X.x_BadDeed hr pass0 (by rfl) (pk_cons (pv 0) pk_nil) m_v) (pa_cons (pe_lamv TB rfl hm hu rfl (fun y hy e => by simp at hy; subst hy; cases e)) (pa_cons (pe_lst (pa_cons (pv 0) pa_nil)) pa_nil))))) pa_nil)),
    fun l D H1 es is M hl k => ms_step ⟨He.ga K "BadDeed", [("thing", x)], ["thing"], [x]⟩ M hl rfl (h_x1 rfl) (h_x1 rfl) (h_l1 rfl) (fun f c' => lok_f1) (fun _ => rfl) (fun _ => rfl) fun es2 H2 M2 => k es2 H2 M2⟩ ?_
  refine .cons ⟨_, ps_expr (pe_bm PySem.F.plainAttrs_list PySem.F.slot_list_append PySem.F.type_list_append mt_append (pv 3) (pa_cons (pe_tup (pa_cons (pe_x1 X.x_BadForest hr pass0 (by rfl) (pa_cons (pv 0) pa_nil) m_v) (pa_cons (pe_x1K X.x_BadForest hr pass0 (by rfl) (pk_cons (pv 0) pk_nil) m_v) (pa_cons (pe_lamv TB rfl hm hu rfl (fun y hy e => by simp at hy; subst hy; cases e)) (pa_cons (pe_lst (pa_cons (pv 0) pa_nil)) pa_nil))))) pa_nil)),
    fun l D H1 es is M hl k => ms_step ⟨He.ga K "BadForest", [("thing", x)], ["thing"], [x]⟩ M hl rfl (h_x1 rfl) (h_x1 rfl) (h_l1 rfl) (fun f c' => lok_f1) (fun _ => rfl) (fun _ => rfl) fun es2 H2 M2 => k es2 H2 M2⟩ ?_
  refine .cons ⟨_, ps_expr (pe_bm PySem.F.plainAttrs_list PySem.F.slot_list_append PySem.F.type_list_append mt_append (pv 3) (pa_cons (pe_tup (pa_cons (pe_x1 X.x_BadForm hr pass0 (by rfl) (pa_cons (pv 0) pa_nil) m_v) (pa_cons (pe_x1K X.x_BadForm hr pass0 (by rfl) (pk_cons (pv 0) pk_nil) m_v) (pa_cons (pe_lamv TB rfl hm hu rfl (fun y hy e => by simp at hy; subst hy; cases e)) (pa_cons (pe_lst (pa_cons (pv 0) pa_nil)) pa_nil))))) pa_nil)),
    fun l D H1 es is M hl k => ms_step ⟨He.ga K "BadForm", [("thing", x)], ["thing"], [x]⟩ M hl rfl (h_x1 rfl) (h_x1 rfl) (h_l1 rfl) (fun f c' => lok_f1) (fun _ => rfl) (fun _ => rfl) fun es2 H2 M2 => k es2 H2 M2⟩ ?_
  refine .cons ⟨_, ps_expr (pe_bm PySem.F.plainAttrs_list PySem.F.slot_list_append PySem.F.type_list_append mt_append (pv 3) (pa_cons (pe_tup (pa_cons (pe_x1 X.x_BadHeight hr pass0 (by rfl) (pa_cons (pv 0) pa_nil) m_v) (pa_cons (pe_x1K X.x_BadHeight hr pass0 (by rfl) (pk_cons (pv 0) pk_nil) m_v) (pa_cons (pe_lamv TB rfl hm hu rfl (fun y hy e => by simp at hy; subst hy; cases e)) (pa_cons (pe_lst (pa_cons (pv 0) pa_nil)) pa_nil))))) pa_nil)),
    fun l D H1 es is M hl k => ms_step ⟨He.ga K "BadHeight", [("thing", x)], ["thing"], [x]⟩ M hl rfl (h_x1 rfl) (h_x1 rfl) (h_l1 rfl) (fun f c' => lok_f1) (fun _ => rfl) (fun _ => rfl) fun es2 H2 M2 => k es2 H2 M2⟩ ?_
  refine .cons ⟨_, ps_expr (pe_bm PySem.F.plainAttrs_list PySem.F.slot_list_append PySem.F.type_list_append mt_append (pv 3) (pa_cons (pe_tup (pa_cons (pe_x1 X.x_BadHollow hr pass0 (by rfl) (pa_cons (pv 0) pa_nil) m_v) (pa_cons (pe_x1K X.x_BadHollow hr pass0 (by rfl) (pk_cons (pv 0) pk_nil) m_v) (pa_cons (pe_lamv TB rfl hm hu rfl (fun y hy e => by simp at hy; subst hy; cases e)) (pa_cons (pe_lst (pa_cons (pv 0) pa_nil)) pa_nil))))) pa_nil)),
    fun l D H1 es is M hl k => ms_step ⟨He.ga K "BadHollow", [("thing", x)], ["thing"], [x]⟩ M hl rfl (h_x1 rfl) (h_x1 rfl) (h_l1 rfl) (fun f c' => lok_f1) (fun _ => rfl) (fun _ => rfl) fun es2 H2 M2 => k es2 H2 M2⟩ ?_
  refine .cons ⟨_, ps_expr (pe_bm PySem.F.plainAttrs_list PySem.F.slot_list_append PySem.F.type_list_append mt_append (pv 3) (pa_cons (pe_tup (pa_cons (pe_x1 X.x_BadKind hr pass0 (by rfl) (pa_cons (pv 0) pa_nil) m_v) (pa_cons (pe_x1K X.x_BadKind hr pass0 (by rfl) (pk_cons (pv 0) pk_nil) m_v) (pa_cons (pe_lamv TB rfl hm hu rfl (fun y hy e => by simp at hy; subst hy; cases e)) (pa_cons (pe_lst (pa_cons (pv 0) pa_nil)) pa_nil))))) pa_nil)),
    fun l D H1 es is M hl k => ms_step ⟨He.ga K "BadKind", [("thing", x)], ["thing"], [x]⟩ M hl rfl (h_x1 rfl) (h_x1 rfl) (h_l1 rfl) (fun f c' => lok_f1) (fun _ => rfl) (fun _ => rfl) fun es2 H2 M2 => k es2 H2 M2⟩ ?_
  refine .cons ⟨_, ps_expr (pe_bm PySem.F.plainAttrs_list PySem.F.slot_list_append PySem.F.type_list_append mt_append (pv 3) (pa_cons (pe_tup (pa_cons (pe_x1 X.x_BadLosses hr pass0 (by rfl) (pa_cons (pv 0) pa_nil) m_v) (pa_cons (pe_x1K X.x_BadLosses hr pass0 (by rfl) (pk_cons (pv 0) pk_nil) m_v) (pa_cons (pe_lamv TB rfl hm hu rfl (fun y hy e => by simp at hy; subst hy; cases e)) (pa_cons (pe_lst (pa_cons (pv 0) pa_nil)) pa_nil))))) pa_nil)),
    fun l D H1 es is M hl k => ms_step ⟨He.ga K "BadLosses", [("fault", x)], ["fault"], [x]⟩ M hl rfl (h_x1 rfl) (h_x1 rfl) (h_l1 rfl) (fun f c' => lok_f1) (fun _ => rfl) (fun _ => rfl) fun es2 H2 M2 => k es2 H2 M2⟩ ?_
  refine .cons ⟨_, ps_expr (pe_bm PySem.F.plainAttrs_list PySem.F.slot_list_append PySem.F.type_list_append mt_append (pv 3) (pa_cons (pe_tup (pa_cons (pe_x1 X.x_BadLot hr pass0 (by rfl) (pa_cons (pv 0) pa_nil) m_v) (pa_cons (pe_x1K X.x_BadLot hr pass0 (by rfl) (pk_cons (pv 0) pk_nil) m_v) (pa_cons (pe_lamv TB rfl hm hu rfl (fun y hy e => by simp at hy; subst hy; cases e)) (pa_cons (pe_lst (pa_cons (pv 0) pa_nil)) pa_nil))))) pa_nil)),
    fun l D H1 es is M hl k => ms_step ⟨He.ga K "BadLot", [("index", x)], ["index"], [x]⟩ M hl rfl (h_x1 rfl) (h_x1 rfl) (h_l1 rfl) (fun f c' => lok_f1) (fun _ => rfl) (fun _ => rfl) fun es2 H2 M2 => k es2 H2 M2⟩ ?_
  refine .cons ⟨_, ps_expr (pe_bm PySem.F.plainAttrs_list PySem.F.slot_list_append PySem.F.type_list_append mt_append (pv 3) (pa_cons (pe_tup (pa_cons (pe_x1 X.x_BadLots hr pass0 (by rfl) (pa_cons (pv 0) pa_nil) m_v) (pa_cons (pe_x1K X.x_BadLots hr pass0 (by rfl) (pk_cons (pv 0) pk_nil) m_v) (pa_cons (pe_lamv TB rfl hm hu rfl (fun y hy e => by simp at hy; subst hy; cases e)) (pa_cons (pe_lst (pa_cons (pv 0) pa_nil)) pa_nil))))) pa_nil)),
    fun l D H1 es is M hl k => ms_step ⟨He.ga K "BadLots", [("index", x)], ["index"], [x]⟩ M hl rfl (h_x1 rfl) (h_x1 rfl) (h_l1 rfl) (fun f c' => lok_f1) (fun _ => rfl) (fun _ => rfl) fun es2 H2 M2 => k es2 H2 M2⟩ ?_
  refine .cons ⟨_, ps_expr (pe_bm PySem.F.plainAttrs_list PySem.F.slot_list_append PySem.F.type_list_append mt_append (pv 3) (pa_cons (pe_tup (pa_cons (pe_x1 X.x_BadName hr pass0 (by rfl) (pa_cons (pv 0) pa_nil) m_v) (pa_cons (pe_x1K X.x_BadName hr pass0 (by rfl) (pk_cons (pv 0) pk_nil) m_v) (pa_cons (pe_lamv TB rfl hm hu rfl (fun y hy e => by simp at hy; subst hy; cases e)) (pa_cons (pe_lst (pa_cons (pv 0) pa_nil)) pa_nil))))) pa_nil)),
    fun l D H1 es is M hl k => ms_step ⟨He.ga K "BadName", [("thing", x)], ["thing"], [x]⟩ M hl rfl (h_x1 rfl) (h_x1 rfl) (h_l1 rfl) (fun f c' => lok_f1) (fun _ => rfl) (fun _ => rfl) fun es2 H2 M2 => k es2 H2 M2⟩ ?_
  refine .cons ⟨_, ps_expr (pe_bm PySem.F.plainAttrs_list PySem.F.slot_list_append PySem.F.type_list_append mt_append (pv 3) (pa_cons (pe_tup (pa_cons (pe_x1 X.x_BadNest hr pass0 (by rfl) (pa_cons (pv 0) pa_nil) m_v) (pa_cons (pe_x1K X.x_BadNest hr pass0 (by rfl) (pk_cons (pv 0) pk_nil) m_v) (pa_cons (pe_lamv TB rfl hm hu rfl (fun y hy e => by simp at hy; subst hy; cases e)) (pa_cons (pe_lst (pa_cons (pv 0) pa_nil)) pa_nil))))) pa_nil)),
    fun l D H1 es is M hl k => ms_step ⟨He.ga K "BadNest", [("thing", x)], ["thing"], [x]⟩ M hl rfl (h_x1 rfl) (h_x1 rfl) (h_l1 rfl) (fun f c' => lok_f1) (fun _ => rfl) (fun _ => rfl) fun es2 H2 M2 => k es2 H2 M2⟩ ?_
  refine .cons ⟨_, ps_expr (pe_bm PySem.F.plainAttrs_list PySem.F.slot_list_append PySem.F.type_list_append mt_append (pv 3) (pa_cons (pe_tup (pa_cons (pe_x1 X.x_BadNumber hr pass0 (by rfl) (pa_cons (pv 0) pa_nil) m_v) (pa_cons (pe_x1K X.x_BadNumber hr pass0 (by rfl) (pk_cons (pv 0) pk_nil) m_v) (pa_cons (pe_lamv TB rfl hm hu rfl (fun y hy e => by simp at hy; subst hy; cases e)) (pa_cons (pe_lst (pa_cons (pv 0) pa_nil)) pa_nil))))) pa_nil)),
    fun l D H1 es is M hl k => ms_step ⟨He.ga K "BadNumber", [("thing", x)], ["thing"], [x]⟩ M hl rfl (h_x1 rfl) (h_x1 rfl) (h_l1 rfl) (fun f c' => lok_f1) (fun _ => rfl) (fun _ => rfl) fun es2 H2 M2 => k es2 H2 M2⟩ ?_
  refine .cons ⟨_, ps_expr (pe_bm PySem.F.plainAttrs_list PySem.F.slot_list_append PySem.F.type_list_append mt_append (pv 3) (pa_cons (pe_tup (pa_cons (pe_x1 X.x_BadOrder hr pass0 (by rfl) (pa_cons (pv 0) pa_nil) m_v) (pa_cons (pe_x1K X.x_BadOrder hr pass0 (by rfl) (pk_cons (pv 0) pk_nil) m_v) (pa_cons (pe_lamv TB rfl hm hu rfl (fun y hy e => by simp at hy; subst hy; cases e)) (pa_cons (pe_lst (pa_cons (pv 0) pa_nil)) pa_nil))))) pa_nil)),
    fun l D H1 es is M hl k => ms_step ⟨He.ga K "BadOrder", [("index", x)], ["index"], [x]⟩ M hl rfl (h_x1 rfl) (h_x1 rfl) (h_l1 rfl) (fun f c' => lok_f1) (fun _ => rfl) (fun _ => rfl) fun es2 H2 M2 => k es2 H2 M2⟩ ?_
  refine .cons ⟨_, ps_expr (pe_bm PySem.F.plainAttrs_list PySem.F.slot_list_append PySem.F.type_list_append mt_append (pv 3) (pa_cons (pe_tup (pa_cons (pe_x1 X.x_BadParting hr pass0 (by rfl) (pa_cons (pv 0) pa_nil) m_v) (pa_cons (pe_x1K X.x_BadParting hr pass0 (by rfl) (pk_cons (pv 0) pk_nil) m_v) (pa_cons (pe_lamv TB rfl hm hu rfl (fun y hy e => by simp at hy; subst hy; cases e)) (pa_cons (pe_lst (pa_cons (pv 0) pa_nil)) pa_nil))))) pa_nil)),
    fun l D H1 es is M hl k => ms_step ⟨He.ga K "BadParting", [("thing", x)], ["thing"], [x]⟩ M hl rfl (h_x1 rfl) (h_x1 rfl) (h_l1 rfl) (fun f c' => lok_f1) (fun _ => rfl) (fun _ => rfl) fun es2 H2 M2 => k es2 H2 M2⟩ ?_
  refine .cons ⟨_, ps_expr (pe_bm PySem.F.plainAttrs_list PySem.F.slot_list_append PySem.F.type_list_append mt_append (pv 3) (pa_cons (pe_tup (pa_cons (pe_x1 X.x_BadPicture hr pass0 (by rfl) (pa_cons (pv 0) pa_nil) m_v) (pa_cons (pe_x1K X.x_BadPicture hr pass0 (by rfl) (pk_cons (pv 0) pk_nil) m_v) (pa_cons (pe_lamv TB rfl hm hu rfl (fun y hy e => by simp at hy; subst hy; cases e)) (pa_cons (pe_lst (pa_cons (pv 0) pa_nil)) pa_nil))))) pa_nil)),
    fun l D H1 es is M hl k => ms_step ⟨He.ga K "BadPicture", [("thing", x)], ["thing"], [x]⟩ M hl rfl (h_x1 rfl) (h_x1 rfl) (h_l1 rfl) (fun f c' => lok_f1) (fun _ => rfl) (fun _ => rfl) fun es2 H2 M2 => k es2 H2 M2⟩ ?_
  refine .cons ⟨_, ps_expr (pe_bm PySem.F.plainAttrs_list PySem.F.slot_list_append PySem.F.type_list_append mt_append (pv 3) (pa_cons (pe_tup (pa_cons (pe_x1 X.x_BadPlaces hr pass0 (by rfl) (pa_cons (pv 0) pa_nil) m_v) (pa_cons (pe_x1K X.x_BadPlaces hr pass0 (by rfl) (pk_cons (pv 0) pk_nil) m_v) (pa_cons (pe_lamv TB rfl hm hu rfl (fun y hy e => by simp at hy; subst hy; cases e)) (pa_cons (pe_lst (pa_cons (pv 0) pa_nil)) pa_nil))))) pa_nil)),
    fun l D H1 es is M hl k => ms_step ⟨He.ga K "BadPlaces", [("index", x)], ["index"], [x]⟩ M hl rfl (h_x1 rfl) (h_x1 rfl) (h_l1 rfl) (fun f c' => lok_f1) (fun _ => rfl) (fun _ => rfl) fun es2 H2 M2 => k es2 H2 M2⟩ ?_
  refine .cons ⟨_, ps_expr (pe_bm PySem.F.plainAttrs_list PySem.F.slot_list_append PySem.F.type_list_append mt_append (pv 3) (pa_cons (pe_tup (pa_cons (pe_x1 X.x_BadPrice hr pass0 (by rfl) (pa_cons (pv 0) pa_nil) m_v) (pa_cons (pe_x1K X.x_BadPrice hr pass0 (by rfl) (pk_cons (pv 0) pk_nil) m_v) (pa_cons (pe_lamv TB rfl hm hu rfl (fun y hy e => by simp at hy; subst hy; cases e)) (pa_cons (pe_lst (pa_cons (pv 0) pa_nil)) pa_nil))))) pa_nil)),
    fun l D H1 es is M hl k => ms_step ⟨He.ga K "BadPrice", [("thing", x)], ["thing"], [x]⟩ M hl rfl (h_x1 rfl) (h_x1 rfl) (h_l1 rfl) (fun f c' => lok_f1) (fun _ => rfl) (fun _ => rfl) fun es2 H2 M2 => k es2 H2 M2⟩ ?_
  refine .cons ⟨_, ps_expr (pe_bm PySem.F.plainAttrs_list PySem.F.slot_list_append PySem.F.type_list_append mt_append (pv 3) (pa_cons (pe_tup (pa_cons (pe_x1 X.x_BadPriced hr pass0 (by rfl) (pa_cons (pv 0) pa_nil) m_v) (pa_cons (pe_x1K X.x_BadPriced hr pass0 (by rfl) (pk_cons (pv 0) pk_nil) m_v) (pa_cons (pe_lamv TB rfl hm hu rfl (fun y hy e => by simp at hy; subst hy; cases e)) (pa_cons (pe_lst (pa_cons (pv 0) pa_nil)) pa_nil))))) pa_nil)),
    fun l D H1 es is M hl k => ms_step ⟨He.ga K "BadPriced", [("thing", x)], ["thing"], [x]⟩ M hl rfl (h_x1 rfl) (h_x1 rfl) (h_l1 rfl) (fun f c' => lok_f1) (fun _ => rfl) (fun _ => rfl) fun es2 H2 M2 => k es2 H2 M2⟩ ?_
  exact .nil
theorem ok_madeA {f c Pt : Addr} {fd : FuncData} {T : List (Addr × Str)} (F : FunC K "_law_made_a" "_law_made_a" sMadeA f fd c) (X : TX P w K mg base) (TB : TabB base mg c Pt) (hm : (Pt, ("_law_made_a" ++ ".<locals>." : Str) ++ "<lambda>") ∈ T) (hu : ∀ p ∈ T, p.1 = Pt → p.2 = ("_law_made_a" ++ ".<locals>." : Str) ++ "<lambda>") :
    FnOk P w K mg base CX0 3 f fd ["_law_x", "_law_y", "_law_z"] (spMade P w K mg base T (infoA K)) := by
  refine F.ok scMadeA (fun vs H Q E h => ?_) (fun A outer s H vs Q E hr h => ?_)
  · obtain ⟨x, y, z, rfl, _⟩ := h
    rfl
  · obtain ⟨x, y, z, rfl, hT, kk⟩ := h
    have ht : PSs (cxOf CX0 P w K mg base ["_law_x", "_law_y", "_law_z", "_law_found"] "_law_made_a" (defScope sMadeA) f (.ref c) A outer s H E).nox ((defBody sMadeA).drop 19) (tRet (tVar 3)) := pss_one (ps_ret (pv 3))
    obtain ⟨t, h1, h2⟩ := Ch.run (H0 := H) (T := T) ht (ch_madeA (x := x) (y := y) (z := z) X TB hm hu hr)
    refine ⟨_, pss_cons (ps_set (i := 3) scMadeA.nd rfl (Or.inl rfl) (pe_lst pa_nil)) h1, ?_⟩
    refine ⟨Nat.zero_le sizeLine, fun l hl => ?_⟩
    exact h2 l _ _ [] [] (ms_start hT hl) (by show 0 + _ ≤ 100; exact Nat.le_of_ble_eq_true rfl) fun es H' M => ⟨_, rfl, kk l _ _ M⟩
theorem scMadeB : FnScope ["_law_x", "_law_y", "_law_z", "_law_found"] ["_law_x", "_law_y", "_law_z"] (defScope sMadeB) := ⟨rfl, rfl, rfl, by decide +kernel, rfl, by decide +kernel, by decide +kernel⟩
theorem ch_madeB {f c Pt : Addr} {T : List (Addr × Str)} {A : Around} {outer : List Env} {s : Shared} {H H0 : Hp} {E : XK} {x y z : V} (X : TX P w K mg base) (TB : TabB base mg c Pt) (hm : (Pt, ("_law_made_b" ++ ".<locals>." : Str) ++ "<lambda>") ∈ T) (hu : ∀ p ∈ T, p.1 = Pt → p.2 = ("_law_made_b" ++ ".<locals>." : Str) ++ "<lambda>")
    (hr : Room 2 (A.deeper (envOfC "_law_made_b" (defScope sMadeB) s.heap.objs.size f (.ref c)))) :
    Ch (StOk P w K mg base (cxOf CX0 P w K mg base ["_law_x", "_law_y", "_law_z", "_law_found"] "_law_made_b" (defScope sMadeB) f (.ref c) A outer s H E).nox T H0 (fun l => [some x, some y, some z, some (.ref l)])) ((defBody sMadeB).drop 1) (infoB K x y) ((defBody sMadeB).drop 19) := by
  refine .cons ⟨_, ps_expr (pe_bm PySem.F.plainAttrs_list PySem.F.slot_list_append PySem.F.type_list_append mt_append (pv 3) (pa_cons (pe_tup (pa_cons (pe_x1 X.x_BadQuestion hr pass0 (by rfl) (pa_cons (pv 0) pa_nil) m_v) (pa_cons (pe_x1K X.x_BadQuestion hr pass0 (by rfl) (pk_cons (pv 0) pk_nil) m_v) (pa_cons (pe_lamv TB rfl hm hu rfl (fun y hy e => by simp at hy; subst hy; cases e)) (pa_cons (pe_lst (pa_cons (pv 0) pa_nil)) pa_nil))))) pa_nil)),
    fun l D H1 es is M hl k => ms_step ⟨He.ga K "BadQuestion", [("thing", x)], ["thing"], [x]⟩ M hl rfl (h_x1 rfl) (h_x1 rfl) (h_l1 rfl) (fun f c' => lok_f1) (fun _ => rfl) (fun _ => rfl) fun es2 H2 M2 => k es2 H2 M2⟩ ?_
  refine .cons ⟨_, ps_expr (pe_bm PySem.F.plainAttrs_list PySem.F.slot_list_append PySem.F.type_list_append mt_append (pv 3) (pa_cons (pe_tup (pa_cons (pe_x1 X.x_BadRoots hr pass0 (by rfl) (pa_cons (pv 0) pa_nil) m_v) (pa_cons (pe_x1K X.x_BadRoots hr pass0 (by rfl) (pk_cons (pv 0) pk_nil) m_v) (pa_cons (pe_lamv TB rfl hm hu rfl (fun y hy e => by simp at hy; subst hy; cases e)) (pa_cons (pe_lst (pa_cons (pv 0) pa_nil)) pa_nil))))) pa_nil)),
    fun l D H1 es is M hl k => ms_step ⟨He.ga K "BadRoots", [("index", x)], ["index"], [x]⟩ M hl rfl (h_x1 rfl) (h_x1 rfl) (h_l1 rfl) (fun f c' => lok_f1) (fun _ => rfl) (fun _ => rfl) fun es2 H2 M2 => k es2 H2 M2⟩ ?_
  refine .cons ⟨_, ps_expr (pe_bm PySem.F.plainAttrs_list PySem.F.slot_list_append PySem.F.type_list_append mt_append (pv 3) (pa_cons (pe_tup (pa_cons (pe_x1 X.x_BadRows hr pass0 (by rfl) (pa_cons (pv 0) pa_nil) m_v) (pa_cons (pe_x1K X.x_BadRows hr pass0 (by rfl) (pk_cons (pv 0) pk_nil) m_v) (pa_cons (pe_lamv TB rfl hm hu rfl (fun y hy e => by simp at hy; subst hy; cases e)) (pa_cons (pe_lst (pa_cons (pv 0) pa_nil)) pa_nil))))) pa_nil)),
    fun l D H1 es is M hl k => ms_step ⟨He.ga K "BadRows", [("index", x)], ["index"], [x]⟩ M hl rfl (h_x1 rfl) (h_x1 rfl) (h_l1 rfl) (fun f c' => lok_f1) (fun _ => rfl) (fun _ => rfl) fun es2 H2 M2 => k es2 H2 M2⟩ ?_
  refine .cons ⟨_, ps_expr (pe_bm PySem.F.plainAttrs_list PySem.F.slot_list_append PySem.F.type_list_append mt_append (pv 3) (pa_cons (pe_tup (pa_cons (pe_x1 X.x_BadSession hr pass0 (by rfl) (pa_cons (pv 0) pa_nil) m_v) (pa_cons (pe_x1K X.x_BadSession hr pass0 (by rfl) (pk_cons (pv 0) pk_nil) m_v) (pa_cons (pe_lamv TB rfl hm hu rfl (fun y hy e => by simp at hy; subst hy; cases e)) (pa_cons (pe_lst (pa_cons (pv 0) pa_nil)) pa_nil))))) pa_nil)),
    fun l D H1 es is M hl k => ms_step ⟨He.ga K "BadSession", [("thing", x)], ["thing"], [x]⟩ M hl rfl (h_x1 rfl) (h_x1 rfl) (h_l1 rfl) (fun f c' => lok_f1) (fun _ => rfl) (fun _ => rfl) fun es2 H2 M2 => k es2 H2 M2⟩ ?_
  refine .cons ⟨_, ps_expr (pe_bm PySem.F.plainAttrs_list PySem.F.slot_list_append PySem.F.type_list_append mt_append (pv 3) (pa_cons (pe_tup (pa_cons (pe_x1 X.x_BadSharing hr pass0 (by rfl) (pa_cons (pv 0) pa_nil) m_v) (pa_cons (pe_x1K X.x_BadSharing hr pass0 (by rfl) (pk_cons (pv 0) pk_nil) m_v) (pa_cons (pe_lamv TB rfl hm hu rfl (fun y hy e => by simp at hy; subst hy; cases e)) (pa_cons (pe_lst (pa_cons (pv 0) pa_nil)) pa_nil))))) pa_nil)),
    fun l D H1 es is M hl k => ms_step ⟨He.ga K "BadSharing", [("thing", x)], ["thing"], [x]⟩ M hl rfl (h_x1 rfl) (h_x1 rfl) (h_l1 rfl) (fun f c' => lok_f1) (fun _ => rfl) (fun _ => rfl) fun es2 H2 M2 => k es2 H2 M2⟩ ?_
  refine .cons ⟨_, ps_expr (pe_bm PySem.F.plainAttrs_list PySem.F.slot_list_append PySem.F.type_list_append mt_append (pv 3) (pa_cons (pe_tup (pa_cons (pe_x1 X.x_BadTable hr pass0 (by rfl) (pa_cons (pv 0) pa_nil) m_v) (pa_cons (pe_x1K X.x_BadTable hr pass0 (by rfl) (pk_cons (pv 0) pk_nil) m_v) (pa_cons (pe_lamv TB rfl hm hu rfl (fun y hy e => by simp at hy; subst hy; cases e)) (pa_cons (pe_lst (pa_cons (pv 0) pa_nil)) pa_nil))))) pa_nil)),
    fun l D H1 es is M hl k => ms_step ⟨He.ga K "BadTable", [("thing", x)], ["thing"], [x]⟩ M hl rfl (h_x1 rfl) (h_x1 rfl) (h_l1 rfl) (fun f c' => lok_f1) (fun _ => rfl) (fun _ => rfl) fun es2 H2 M2 => k es2 H2 M2⟩ ?_
  refine .cons ⟨_, ps_expr (pe_bm PySem.F.plainAttrs_list PySem.F.slot_list_append PySem.F.type_list_append mt_append (pv 3) (pa_cons (pe_tup (pa_cons (pe_x2 X.x_BadText hr pass0 (by rfl) (pa_cons (pv 0) (pa_cons (pv 1) pa_nil)) m_vv) (pa_cons (pe_x2K X.x_BadText hr pass0 (by rfl) (pk_cons (pv 1) (pk_cons (pv 0) pk_nil)) m_vv) (pa_cons (pe_lamv TB rfl hm hu rfl (fun y hy e => by simp at hy; subst hy; cases e)) (pa_cons (pe_lst (pa_cons (pv 0) (pa_cons (pv 1) pa_nil))) pa_nil))))) pa_nil)),
    fun l D H1 es is M hl k => ms_step ⟨He.ga K "BadText", [("sign", y), ("line", x)], ["line", "sign"], [x, y]⟩ M hl rfl (h_x2 rfl rfl) (h_x2r rfl rfl) (h_l2 rfl rfl) (fun f c' => lok_f2) (fun _ => rfl) (fun _ => rfl) fun es2 H2 M2 => k es2 H2 M2⟩ ?_
  refine .cons ⟨_, ps_expr (pe_bm PySem.F.plainAttrs_list PySem.F.slot_list_append PySem.F.type_list_append mt_append (pv 3) (pa_cons (pe_tup (pa_cons (pe_x1 X.x_BadTies hr pass0 (by rfl) (pa_cons (pv 0) pa_nil) m_v) (pa_cons (pe_x1K X.x_BadTies hr pass0 (by rfl) (pk_cons (pv 0) pk_nil) m_v) (pa_cons (pe_lamv TB rfl hm hu rfl (fun y hy e => by simp at hy; subst hy; cases e)) (pa_cons (pe_lst (pa_cons (pv 0) pa_nil)) pa_nil))))) pa_nil)),
    fun l D H1 es is M hl k => ms_step ⟨He.ga K "BadTies", [("index", x)], ["index"], [x]⟩ M hl rfl (h_x1 rfl) (h_x1 rfl) (h_l1 rfl) (fun f c' => lok_f1) (fun _ => rfl) (fun _ => rfl) fun es2 H2 M2 => k es2 H2 M2⟩ ?_
  refine .cons ⟨_, ps_expr (pe_bm PySem.F.plainAttrs_list PySem.F.slot_list_append PySem.F.type_list_append mt_append (pv 3) (pa_cons (pe_tup (pa_cons (pe_x1 X.x_BadTold hr pass0 (by rfl) (pa_cons (pv 0) pa_nil) m_v) (pa_cons (pe_x1K X.x_BadTold hr pass0 (by rfl) (pk_cons (pv 0) pk_nil) m_v) (pa_cons (pe_lamv TB rfl hm hu rfl (fun y hy e => by simp at hy; subst hy; cases e)) (pa_cons (pe_lst (pa_cons (pv 0) pa_nil)) pa_nil))))) pa_nil)),
    fun l D H1 es is M hl k => ms_step ⟨He.ga K "BadTold", [("index", x)], ["index"], [x]⟩ M hl rfl (h_x1 rfl) (h_x1 rfl) (h_l1 rfl) (fun f c' => lok_f1) (fun _ => rfl) (fun _ => rfl) fun es2 H2 M2 => k es2 H2 M2⟩ ?_
  refine .cons ⟨_, ps_expr (pe_bm PySem.F.plainAttrs_list PySem.F.slot_list_append PySem.F.type_list_append mt_append (pv 3) (pa_cons (pe_tup (pa_cons (pe_x1 X.x_BadWeb hr pass0 (by rfl) (pa_cons (pv 0) pa_nil) m_v) (pa_cons (pe_x1K X.x_BadWeb hr pass0 (by rfl) (pk_cons (pv 0) pk_nil) m_v) (pa_cons (pe_lamv TB rfl hm hu rfl (fun y hy e => by simp at hy; subst hy; cases e)) (pa_cons (pe_lst (pa_cons (pv 0) pa_nil)) pa_nil))))) pa_nil)),
    fun l D H1 es is M hl k => ms_step ⟨He.ga K "BadWeb", [("thing", x)], ["thing"], [x]⟩ M hl rfl (h_x1 rfl) (h_x1 rfl) (h_l1 rfl) (fun f c' => lok_f1) (fun _ => rfl) (fun _ => rfl) fun es2 H2 M2 => k es2 H2 M2⟩ ?_
  refine .cons ⟨_, ps_expr (pe_bm PySem.F.plainAttrs_list PySem.F.slot_list_append PySem.F.type_list_append mt_append (pv 3) (pa_cons (pe_tup (pa_cons (pe_x1 X.x_InUse hr pass0 (by rfl) (pa_cons (pv 0) pa_nil) m_v) (pa_cons (pe_x1K X.x_InUse hr pass0 (by rfl) (pk_cons (pv 0) pk_nil) m_v) (pa_cons (pe_lamv TB rfl hm hu rfl (fun y hy e => by simp at hy; subst hy; cases e)) (pa_cons (pe_lst (pa_cons (pv 0) pa_nil)) pa_nil))))) pa_nil)),
    fun l D H1 es is M hl k => ms_step ⟨He.ga K "InUse", [("question", x)], ["question"], [x]⟩ M hl rfl (h_x1 rfl) (h_x1 rfl) (h_l1 rfl) (fun f c' => lok_f1) (fun _ => rfl) (fun _ => rfl) fun es2 H2 M2 => k es2 H2 M2⟩ ?_
  refine .cons ⟨_, ps_expr (pe_bm PySem.F.plainAttrs_list PySem.F.slot_list_append PySem.F.type_list_append mt_append (pv 3) (pa_cons (pe_tup (pa_cons (pe_x1 X.x_IsThere hr pass0 (by rfl) (pa_cons (pv 0) pa_nil) m_v) (pa_cons (pe_x1K X.x_IsThere hr pass0 (by rfl) (pk_cons (pv 0) pk_nil) m_v) (pa_cons (pe_lamv TB rfl hm hu rfl (fun y hy e => by simp at hy; subst hy; cases e)) (pa_cons (pe_lst (pa_cons (pv 0) pa_nil)) pa_nil))))) pa_nil)),
    fun l D H1 es is M hl k => ms_step ⟨He.ga K "IsThere", [("lot", x)], ["lot"], [x]⟩ M hl rfl (h_x1 rfl) (h_x1 rfl) (h_l1 rfl) (fun f c' => lok_f1) (fun _ => rfl) (fun _ => rfl) fun es2 H2 M2 => k es2 H2 M2⟩ ?_
  refine .cons ⟨_, ps_expr (pe_bm PySem.F.plainAttrs_list PySem.F.slot_list_append PySem.F.type_list_append mt_append (pv 3) (pa_cons (pe_tup (pa_cons (pe_x1 X.x_IsWatched hr pass0 (by rfl) (pa_cons (pv 0) pa_nil) m_v) (pa_cons (pe_x1K X.x_IsWatched hr pass0 (by rfl) (pk_cons (pv 0) pk_nil) m_v) (pa_cons (pe_lamv TB rfl hm hu rfl (fun y hy e => by simp at hy; subst hy; cases e)) (pa_cons (pe_lst (pa_cons (pv 0) pa_nil)) pa_nil))))) pa_nil)),
    fun l D H1 es is M hl k => ms_step ⟨He.ga K "IsWatched", [("question", x)], ["question"], [x]⟩ M hl rfl (h_x1 rfl) (h_x1 rfl) (h_l1 rfl) (fun f c' => lok_f1) (fun _ => rfl) (fun _ => rfl) fun es2 H2 M2 => k es2 H2 M2⟩ ?_
  refine .cons ⟨_, ps_expr (pe_bm PySem.F.plainAttrs_list PySem.F.slot_list_append PySem.F.type_list_append mt_append (pv 3) (pa_cons (pe_tup (pa_cons (pe_x1 X.x_NoCount hr pass0 (by rfl) (pa_cons (pv 0) pa_nil) m_v) (pa_cons (pe_x1K X.x_NoCount hr pass0 (by rfl) (pk_cons (pv 0) pk_nil) m_v) (pa_cons (pe_lamv TB rfl hm hu rfl (fun y hy e => by simp at hy; subst hy; cases e)) (pa_cons (pe_lst (pa_cons (pv 0) pa_nil)) pa_nil))))) pa_nil)),
    fun l D H1 es is M hl k => ms_step ⟨He.ga K "NoCount", [("thing", x)], ["thing"], [x]⟩ M hl rfl (h_x1 rfl) (h_x1 rfl) (h_l1 rfl) (fun f c' => lok_f1) (fun _ => rfl) (fun _ => rfl) fun es2 H2 M2 => k es2 H2 M2⟩ ?_
  refine .cons ⟨_, ps_expr (pe_bm PySem.F.plainAttrs_list PySem.F.slot_list_append PySem.F.type_list_append mt_append (pv 3) (pa_cons (pe_tup (pa_cons (pe_x1 X.x_NoLot hr pass0 (by rfl) (pa_cons (pv 0) pa_nil) m_v) (pa_cons (pe_x1K X.x_NoLot hr pass0 (by rfl) (pk_cons (pv 0) pk_nil) m_v) (pa_cons (pe_lamv TB rfl hm hu rfl (fun y hy e => by simp at hy; subst hy; cases e)) (pa_cons (pe_lst (pa_cons (pv 0) pa_nil)) pa_nil))))) pa_nil)),
    fun l D H1 es is M hl k => ms_step ⟨He.ga K "NoLot", [("thing", x)], ["thing"], [x]⟩ M hl rfl (h_x1 rfl) (h_x1 rfl) (h_l1 rfl) (fun f c' => lok_f1) (fun _ => rfl) (fun _ => rfl) fun es2 H2 M2 => k es2 H2 M2⟩ ?_
  refine .cons ⟨_, ps_expr (pe_bm PySem.F.plainAttrs_list PySem.F.slot_list_append PySem.F.type_list_append mt_append (pv 3) (pa_cons (pe_tup (pa_cons (pe_x1 X.x_NoParts hr pass0 (by rfl) (pa_cons (pv 0) pa_nil) m_v) (pa_cons (pe_x1K X.x_NoParts hr pass0 (by rfl) (pk_cons (pv 0) pk_nil) m_v) (pa_cons (pe_lamv TB rfl hm hu rfl (fun y hy e => by simp at hy; subst hy; cases e)) (pa_cons (pe_lst (pa_cons (pv 0) pa_nil)) pa_nil))))) pa_nil)),
    fun l D H1 es is M hl k => ms_step ⟨He.ga K "NoParts", [("lot", x)], ["lot"], [x]⟩ M hl rfl (h_x1 rfl) (h_x1 rfl) (h_l1 rfl) (fun f c' => lok_f1) (fun _ => rfl) (fun _ => rfl) fun es2 H2 M2 => k es2 H2 M2⟩ ?_
  refine .cons ⟨_, ps_expr (pe_bm PySem.F.plainAttrs_list PySem.F.slot_list_append PySem.F.type_list_append mt_append (pv 3) (pa_cons (pe_tup (pa_cons (pe_x1 X.x_NoPlace hr pass0 (by rfl) (pa_cons (pv 0) pa_nil) m_v) (pa_cons (pe_x1K X.x_NoPlace hr pass0 (by rfl) (pk_cons (pv 0) pk_nil) m_v) (pa_cons (pe_lamv TB rfl hm hu rfl (fun y hy e => by simp at hy; subst hy; cases e)) (pa_cons (pe_lst (pa_cons (pv 0) pa_nil)) pa_nil))))) pa_nil)),
    fun l D H1 es is M hl k => ms_step ⟨He.ga K "NoPlace", [("thing", x)], ["thing"], [x]⟩ M hl rfl (h_x1 rfl) (h_x1 rfl) (h_l1 rfl) (fun f c' => lok_f1) (fun _ => rfl) (fun _ => rfl) fun es2 H2 M2 => k es2 H2 M2⟩ ?_
  refine .cons ⟨_, ps_expr (pe_bm PySem.F.plainAttrs_list PySem.F.slot_list_append PySem.F.type_list_append mt_append (pv 3) (pa_cons (pe_tup (pa_cons (pe_x1 X.x_NoRoot hr pass0 (by rfl) (pa_cons (pv 0) pa_nil) m_v) (pa_cons (pe_x1K X.x_NoRoot hr pass0 (by rfl) (pk_cons (pv 0) pk_nil) m_v) (pa_cons (pe_lamv TB rfl hm hu rfl (fun y hy e => by simp at hy; subst hy; cases e)) (pa_cons (pe_lst (pa_cons (pv 0) pa_nil)) pa_nil))))) pa_nil)),
    fun l D H1 es is M hl k => ms_step ⟨He.ga K "NoRoot", [("place", x)], ["place"], [x]⟩ M hl rfl (h_x1 rfl) (h_x1 rfl) (h_l1 rfl) (fun f c' => lok_f1) (fun _ => rfl) (fun _ => rfl) fun es2 H2 M2 => k es2 H2 M2⟩ ?_
  exact .nil
theorem ok_madeB {f c Pt : Addr} {fd : FuncData} {T : List (Addr × Str)} (F : FunC K "_law_made_b" "_law_made_b" sMadeB f fd c) (X : TX P w K mg base) (TB : TabB base mg c Pt) (hm : (Pt, ("_law_made_b" ++ ".<locals>." : Str) ++ "<lambda>") ∈ T) (hu : ∀ p ∈ T, p.1 = Pt → p.2 = ("_law_made_b" ++ ".<locals>." : Str) ++ "<lambda>") :
    FnOk P w K mg base CX0 3 f fd ["_law_x", "_law_y", "_law_z"] (spMade P w K mg base T (infoB K)) := by
  refine F.ok scMadeB (fun vs H Q E h => ?_) (fun A outer s H vs Q E hr h => ?_)
  · obtain ⟨x, y, z, rfl, _⟩ := h
    rfl
  · obtain ⟨x, y, z, rfl, hT, kk⟩ := h
    have ht : PSs (cxOf CX0 P w K mg base ["_law_x", "_law_y", "_law_z", "_law_found"] "_law_made_b" (defScope sMadeB) f (.ref c) A outer s H E).nox ((defBody sMadeB).drop 19) (tRet (tVar 3)) := pss_one (ps_ret (pv 3))
    obtain ⟨t, h1, h2⟩ := Ch.run (H0 := H) (T := T) ht (ch_madeB (x := x) (y := y) (z := z) X TB hm hu hr)
    refine ⟨_, pss_cons (ps_set (i := 3) scMadeB.nd rfl (Or.inl rfl) (pe_lst pa_nil)) h1, ?_⟩
    refine ⟨Nat.zero_le sizeLine, fun l hl => ?_⟩
    exact h2 l _ _ [] [] (ms_start hT hl) (by show 0 + _ ≤ 100; exact Nat.le_of_ble_eq_true rfl) fun es H' M => ⟨_, rfl, kk l _ _ M⟩
theorem scMadeC : FnScope ["_law_x", "_law_y", "_law_z", "_law_found"] ["_law_x", "_law_y", "_law_z"] (defScope sMadeC) := ⟨rfl, rfl, rfl, by decide +kernel, rfl, by decide +kernel, by decide +kernel⟩
theorem ch_madeC {f c Pt : Addr} {T : List (Addr × Str)} {A : Around} {outer : List Env} {s : Shared} {H H0 : Hp} {E : XK} {x y z : V} (X : TX P w K mg base) (TB : TabB base mg c Pt) (hm : (Pt, ("_law_made_c" ++ ".<locals>." : Str) ++ "<lambda>") ∈ T) (hu : ∀ p ∈ T, p.1 = Pt → p.2 = ("_law_made_c" ++ ".<locals>." : Str) ++ "<lambda>")
    (hr : Room 2 (A.deeper (envOfC "_law_made_c" (defScope sMadeC) s.heap.objs.size f (.ref c)))) :
    Ch (StOk P w K mg base (cxOf CX0 P w K mg base ["_law_x", "_law_y", "_law_z", "_law_found"] "_law_made_c" (defScope sMadeC) f (.ref c) A outer s H E).nox T H0 (fun l => [some x, some y, some z, some (.ref l)])) ((defBody sMadeC).drop 1) (infoC K x y) ((defBody sMadeC).drop 8) := by
  refine .cons ⟨_, ps_expr (pe_bm PySem.F.plainAttrs_list PySem.F.slot_list_append PySem.F.type_list_append mt_append (pv 3) (pa_cons (pe_tup (pa_cons (pe_x2 X.x_NoTie hr pass0 (by rfl) (pa_cons (pv 0) (pa_cons (pv 1) pa_nil)) m_vv) (pa_cons (pe_x2K X.x_NoTie hr pass0 (by rfl) (pk_cons (pv 1) (pk_cons (pv 0) pk_nil)) m_vv) (pa_cons (pe_lamv TB rfl hm hu rfl (fun y hy e => by simp at hy; subst hy; cases e)) (pa_cons (pe_lst (pa_cons (pv 0) (pa_cons (pv 1) pa_nil))) pa_nil))))) pa_nil)),
    fun l D H1 es is M hl k => ms_step ⟨He.ga K "NoTie", [("other", y), ("one", x)], ["one", "other"], [x, y]⟩ M hl rfl (h_x2 rfl rfl) (h_x2r rfl rfl) (h_l2 rfl rfl) (fun f c' => lok_f2) (fun _ => rfl) (fun _ => rfl) fun es2 H2 M2 => k es2 H2 M2⟩ ?_
  refine .cons ⟨_, ps_expr (pe_bm PySem.F.plainAttrs_list PySem.F.slot_list_append PySem.F.type_list_append mt_append (pv 3) (pa_cons (pe_tup (pa_cons (pe_x1 X.x_NotThere hr pass0 (by rfl) (pa_cons (pv 0) pa_nil) m_v) (pa_cons (pe_x1K X.x_NotThere hr pass0 (by rfl) (pk_cons (pv 0) pk_nil) m_v) (pa_cons (pe_lamv TB rfl hm hu rfl (fun y hy e => by simp at hy; subst hy; cases e)) (pa_cons (pe_lst (pa_cons (pv 0) pa_nil)) pa_nil))))) pa_nil)),
    fun l D H1 es is M hl k => ms_step ⟨He.ga K "NotThere", [("lot", x)], ["lot"], [x]⟩ M hl rfl (h_x1 rfl) (h_x1 rfl) (h_l1 rfl) (fun f c' => lok_f1) (fun _ => rfl) (fun _ => rfl) fun es2 H2 M2 => k es2 H2 M2⟩ ?_
  refine .cons ⟨_, ps_expr (pe_bm PySem.F.plainAttrs_list PySem.F.slot_list_append PySem.F.type_list_append mt_append (pv 3) (pa_cons (pe_tup (pa_cons (pe_x1 X.x_NotWatched hr pass0 (by rfl) (pa_cons (pv 0) pa_nil) m_v) (pa_cons (pe_x1K X.x_NotWatched hr pass0 (by rfl) (pk_cons (pv 0) pk_nil) m_v) (pa_cons (pe_lamv TB rfl hm hu rfl (fun y hy e => by simp at hy; subst hy; cases e)) (pa_cons (pe_lst (pa_cons (pv 0) pa_nil)) pa_nil))))) pa_nil)),
    fun l D H1 es is M hl k => ms_step ⟨He.ga K "NotWatched", [("question", x)], ["question"], [x]⟩ M hl rfl (h_x1 rfl) (h_x1 rfl) (h_l1 rfl) (fun f c' => lok_f1) (fun _ => rfl) (fun _ => rfl) fun es2 H2 M2 => k es2 H2 M2⟩ ?_
  refine .cons ⟨_, ps_expr (pe_bm PySem.F.plainAttrs_list PySem.F.slot_list_append PySem.F.type_list_append mt_append (pv 3) (pa_cons (pe_tup (pa_cons (pe_x0 PySem.F.excBase_ValueError X.e_OtherPlaces X.g_OtherPlaces X.k_OtherPlaces (by rfl)) (pa_cons (pe_x0 PySem.F.excBase_ValueError X.e_OtherPlaces X.g_OtherPlaces X.k_OtherPlaces (by rfl)) (pa_cons (pe_lamv TB rfl hm hu rfl (fun y hy e => by simp at hy; subst hy; cases e)) (pa_cons (pe_lst pa_nil) pa_nil))))) pa_nil)),
    fun l D H1 es is M hl k => ms_step ⟨He.ga K "OtherPlaces", [], [], []⟩ M hl rfl (h_x0 (σ := [])) (h_x0 (σ := [])) h_l0 (fun f c' => lok_f0) (fun _ => rfl) (fun _ => rfl) fun es2 H2 M2 => k es2 H2 M2⟩ ?_
  refine .cons ⟨_, ps_expr (pe_bm PySem.F.plainAttrs_list PySem.F.slot_list_append PySem.F.type_list_append mt_append (pv 3) (pa_cons (pe_tup (pa_cons (pe_x1 X.x_SamePlace hr pass0 (by rfl) (pa_cons (pv 0) pa_nil) m_v) (pa_cons (pe_x1K X.x_SamePlace hr pass0 (by rfl) (pk_cons (pv 0) pk_nil) m_v) (pa_cons (pe_lamv TB rfl hm hu rfl (fun y hy e => by simp at hy; subst hy; cases e)) (pa_cons (pe_lst (pa_cons (pv 0) pa_nil)) pa_nil))))) pa_nil)),
    fun l D H1 es is M hl k => ms_step ⟨He.ga K "SamePlace", [("thing", x)], ["thing"], [x]⟩ M hl rfl (h_x1 rfl) (h_x1 rfl) (h_l1 rfl) (fun f c' => lok_f1) (fun _ => rfl) (fun _ => rfl) fun es2 H2 M2 => k es2 H2 M2⟩ ?_
  refine .cons ⟨_, ps_expr (pe_bm PySem.F.plainAttrs_list PySem.F.slot_list_append PySem.F.type_list_append mt_append (pv 3) (pa_cons (pe_tup (pa_cons (pe_x1 X.x_SavesNothing hr pass0 (by rfl) (pa_cons (pv 0) pa_nil) m_v) (pa_cons (pe_x1K X.x_SavesNothing hr pass0 (by rfl) (pk_cons (pv 0) pk_nil) m_v) (pa_cons (pe_lamv TB rfl hm hu rfl (fun y hy e => by simp at hy; subst hy; cases e)) (pa_cons (pe_lst (pa_cons (pv 0) pa_nil)) pa_nil))))) pa_nil)),
    fun l D H1 es is M hl k => ms_step ⟨He.ga K "SavesNothing", [("lot", x)], ["lot"], [x]⟩ M hl rfl (h_x1 rfl) (h_x1 rfl) (h_l1 rfl) (fun f c' => lok_f1) (fun _ => rfl) (fun _ => rfl) fun es2 H2 M2 => k es2 H2 M2⟩ ?_
  refine .cons ⟨_, ps_expr (pe_bm PySem.F.plainAttrs_list PySem.F.slot_list_append PySem.F.type_list_append mt_append (pv 3) (pa_cons (pe_tup (pa_cons (pe_x2 X.x_WouldChange hr pass0 (by rfl) (pa_cons (pv 0) (pa_cons (pv 1) pa_nil)) m_vv) (pa_cons (pe_x2K X.x_WouldChange hr pass0 (by rfl) (pk_cons (pv 1) (pk_cons (pv 0) pk_nil)) m_vv) (pa_cons (pe_lamv TB rfl hm hu rfl (fun y hy e => by simp at hy; subst hy; cases e)) (pa_cons (pe_lst (pa_cons (pv 0) (pa_cons (pv 1) pa_nil))) pa_nil))))) pa_nil)),
    fun l D H1 es is M hl k => ms_step ⟨He.ga K "WouldChange", [("why", y), ("question", x)], ["question", "why"], [x, y]⟩ M hl rfl (h_x2 rfl rfl) (h_x2r rfl rfl) (h_l2 rfl rfl) (fun f c' => lok_f2) (fun _ => rfl) (fun _ => rfl) fun es2 H2 M2 => k es2 H2 M2⟩ ?_
  exact .nil
theorem ok_madeC {f c Pt : Addr} {fd : FuncData} {T : List (Addr × Str)} (F : FunC K "_law_made_c" "_law_made_c" sMadeC f fd c) (X : TX P w K mg base) (TB : TabB base mg c Pt) (hm : (Pt, ("_law_made_c" ++ ".<locals>." : Str) ++ "<lambda>") ∈ T) (hu : ∀ p ∈ T, p.1 = Pt → p.2 = ("_law_made_c" ++ ".<locals>." : Str) ++ "<lambda>") :
    FnOk P w K mg base CX0 3 f fd ["_law_x", "_law_y", "_law_z"] (spMade P w K mg base T (infoC K)) := by
  refine F.ok scMadeC (fun vs H Q E h => ?_) (fun A outer s H vs Q E hr h => ?_)
  · obtain ⟨x, y, z, rfl, _⟩ := h
    rfl
  · obtain ⟨x, y, z, rfl, hT, kk⟩ := h
    have ht : PSs (cxOf CX0 P w K mg base ["_law_x", "_law_y", "_law_z", "_law_found"] "_law_made_c" (defScope sMadeC) f (.ref c) A outer s H E).nox ((defBody sMadeC).drop 8) (tRet (tVar 3)) := pss_one (ps_ret (pv 3))
    obtain ⟨t, h1, h2⟩ := Ch.run (H0 := H) (T := T) ht (ch_madeC (x := x) (y := y) (z := z) X TB hm hu hr)
    refine ⟨_, pss_cons (ps_set (i := 3) scMadeC.nd rfl (Or.inl rfl) (pe_lst pa_nil)) h1, ?_⟩
    refine ⟨Nat.zero_le sizeLine, fun l hl => ?_⟩
    exact h2 l _ _ [] [] (ms_start hT hl) (by show 0 + _ ≤ 100; exact Nat.le_of_ble_eq_true rfl) fun es H' M => ⟨_, rfl, kk l _ _ M⟩
end
end Mine
namespace Mine
open PySem L2 PySem.Spec PyProof.Rows LamX NdefX
abbrev sKindsA : Stmt := top 52
abbrev sKindsB : Stmt := top 53
abbrev sKindsC : Stmt := top 54
abbrev sKinds : Stmt := top 55
abbrev sIsOwn : Stmt := top 56
abbrev sThese : Stmt := top 57
def nm : Nat → Str
  | 0 => "BadDeed"
  | 1 => "BadForest"
  | 2 => "BadForm"
  | 3 => "BadHeight"
  | 4 => "BadHollow"
  | 5 => "BadKind"
  | 6 => "BadLosses"
  | 7 => "BadLot"
  | 8 => "BadLots"
  | 9 => "BadName"
  | 10 => "BadNest"
  | 11 => "BadNumber"
  | 12 => "BadOrder"
  | 13 => "BadParting"
  | 14 => "BadPicture"
  | 15 => "BadPlaces"
  | 16 => "BadPrice"
  | 17 => "BadPriced"
  | 18 => "BadQuestion"
  | 19 => "BadRoots"
  | 20 => "BadRows"
  | 21 => "BadSession"
  | 22 => "BadSharing"
  | 23 => "BadTable"
  | 24 => "BadText"
  | 25 => "BadTies"
  | 26 => "BadTold"
  | 27 => "BadWeb"
  | 28 => "InUse"
  | 29 => "IsThere"
  | 30 => "IsWatched"
  | 31 => "NoCount"
  | 32 => "NoLot"
  | 33 => "NoParts"
  | 34 => "NoPlace"
  | 35 => "NoRoot"
  | 36 => "NoTie"
  | 37 => "NotThere"
  | 38 => "NotWatched"
  | 39 => "OtherPlaces"
  | 40 => "SamePlace"
  | 41 => "SavesNothing"
  | 42 => "WouldChange"
  | _ => "PartsError"
/-- the i-th class; from the 43rd on the base -/
def cls (K : PySem.W.Frag) (i : Nat) : Addr := He.ga K (nm i)
structure TK (K : PySem.W.Frag) (mg : Str → Option Value) : Prop where
  isi : mg "isinstance" = none
  ve : mg "ValueError" = none
  le : mg "LookupError" = none
  g : ∀ i, i ≤ 43 → mg (nm i) = some (.ref (cls K i))
  kit : ∀ i j, i ≤ 43 → j ≤ 42 → PySem.W.kitOne K (.ref (cls K i)) (.ref (cls K j)) = some (decide (i = j))
  kitP : ∀ i, i ≤ 43 → PySem.W.kitOne K (.ref (cls K i)) (.ref (cls K 43)) = some true
  kitV : ∀ i, i ≤ 43 → PySem.W.kitOne K (.ref (cls K i)) (.type "ValueError") = some true
  kitL : ∀ i, i ≤ 43 → PySem.W.kitOne K (.ref (cls K i)) (.type "LookupError") = some false
  exc : ∀ i, i ≤ 43 → ExcC K (cls K i)
  xf : ∀ i, i ≤ 43 → XfC K (cls K i)
def kindV (i : Nat) (js : List Nat) : List V := js.map fun j => V.bl (decide (i = j))
theorem kindV_app (i : Nat) (a b : List Nat) : kindV i (a ++ b) = kindV i a ++ kindV i b := List.map_append ..
def spKinds (K : PySem.W.Frag) (js : List Nat) : Sp := fun vs H Q _ => ∃ (m i : Nat) (fs : List (Str × V)), vs = [.ref m] ∧ i ≤ 43 ∧ ExcV H m (cls K i) fs ∧ ∀ p H', H p = none → Same H H' → H' p = some (.lst (kindV i js)) → Q (.ref p) H'
inductive Cj (R : Stmt → List Nat → Prop) : List Stmt → List (List Nat) → List Stmt → Prop
  | nil {tl : List Stmt} : Cj R tl [] tl
  | cons {st : Stmt} {rest tl : List Stmt} {i : List Nat} {is : List (List Nat)} : R st i → Cj R rest is tl → Cj R (st :: rest) (i :: is) tl
section
variable {w : World} {P : Program} {base : Heap} {K : PySem.W.Frag} {mg : Str → Option Value}
/-- l holds what was found -/
structure KS (K : PySem.W.Frag) (H0 H : Hp) (l m i : Nat) (fs : List (Str × V)) (js : List Nat) : Prop where
  at_ : H l = some (.lst (kindV i js))
  e : ExcV H m (cls K i) fs
  s : ∀ b o, H0 b = some o → H b = some o
  f : H0 l = none
def StK (K : PySem.W.Frag) (X : Cx) (st : Stmt) (js : List Nat) : Prop := ∃ t : TS, PS X st t ∧ ∀ (l m i : Nat) (fs : List (Str × V)) (D : Ends) (H0 H : Hp) (js0 : List Nat), i ≤ 43 → KS K H0 H l m i fs js0 → js0.length ≤ 100 →
  (∀ H', KS K H0 H' l m i fs (js0 ++ js) → D.nx [some (.ref m), some (.ref l)] H') → t D [some (.ref m), some (.ref l)] H
theorem Cj.run {X : Cx} {tl : List Stmt} {tt : TS} (ht : PSs X tl tt) : ∀ {sts : List Stmt} {is : List (List Nat)}, Cj (StK K X) sts is tl → ∃ t, PSs X sts t ∧
    ∀ (l m i : Nat) (fs : List (Str × V)) (D : Ends) (H0 H : Hp) (js0 : List Nat), i ≤ 43 → KS K H0 H l m i fs js0 → js0.length + is.flatten.length ≤ 100 → (∀ H', KS K H0 H' l m i fs (js0 ++ is.flatten) → tt D [some (.ref m), some (.ref l)] H') → t D [some (.ref m), some (.ref l)] H
  | _, _, .nil => ⟨tt, ht, fun l m i fs D H0 H js0 hi M _ k => k H (by simpa using M)⟩
  | _, _, .cons (i := js) (is := is) ⟨t, h1, h2⟩ r => by
    obtain ⟨t2, h3, h4⟩ := Cj.run ht r
    refine ⟨_, pss_cons h1 h3, fun l m i fs D H0 H js0 hi M hl k => ?_⟩
    rw [List.flatten_cons, List.length_append] at hl
    refine h2 l m i fs _ H0 H js0 hi M (by omega) fun H' M' => ?_
    refine h4 l m i fs D H0 H' _ hi M' (by rw [List.length_append]; omega) fun H2 M2 => ?_
    rw [List.append_assoc] at M2
    exact k H2 (by rw [List.flatten_cons]; exact M2)
theorem ks_start {H0 : Hp} {l m i : Nat} {fs : List (Str × V)} (h : H0 l = none) (e : ExcV H0 m (cls K i) fs) : KS K H0 (upd H0 l (.lst [])) l m i fs [] :=
  ⟨upd_same, e.same (same_upd h), same_upd h, h⟩
/-- found.extend([..]): what the display gives -/
theorem ks_step {H0 H : Hp} {l m i : Nat} {fs : List (Str × V)} {js0 js : List Nat} {te : TE} {Q : VK} (M : KS K H0 H l m i fs js0) (hl : js0.length ≤ 100) (hj : js.length ≤ 2)
    (h1 : ∀ Q : VK, (∀ u, H u = none → Q (.ref u) (upd H u (.lst (kindV i js)))) → te [some (.ref m), some (.ref l)] H Q)
    (k : ∀ H', KS K H0 H' l m i fs (js0 ++ js) → Q .non H') : tBM K "list" rExtend (tVar 1) (tCons te tNil) [some (.ref m), some (.ref l)] H Q := by
  refine ⟨_, rfl, .inl ⟨rfl, _, SqL.of M.at_⟩, ?_⟩
  refine h1 _ fun u hu => ?_
  have s1 : Same H (upd H u (.lst (kindV i js))) := same_upd hu
  have hl1 : (upd H u (.lst (kindV i js))) l = some (.lst (kindV i js0)) := s1 _ _ M.at_
  refine ⟨l, u, _, _, rfl, rfl, hl1, upd_same, ?_, ?_⟩
  · show (kindV i js0).length + (kindV i js).length ≤ sizeLine
    unfold kindV
    rw [List.length_map, List.length_map]
    exact Nat.le_trans (by omega : _ ≤ 1000) (by decide)
  · have xb : XB l (upd H u (.lst (kindV i js))) (upd (upd H u (.lst (kindV i js))) l (.lst (kindV i js0 ++ kindV i js))) := fun b o e h1 _ => by
      rw [upd_ne h1]
      exact e
    refine k _ ⟨by rw [upd_same, kindV_app], (M.e.same s1).xb hl1 xb, fun b o e => ?_, M.f⟩
    rw [upd_ne (ne_of_none e M.f)]
    exact s1 b o (M.s b o e)
theorem is_read {H : Hp} {m i j : Nat} {fs : List (Str × V)} (T : TK K mg) (hi : i ≤ 43) (hj : j ≤ 42) (e : ExcV H m (cls K i) fs) {Q : VK} (q : Q (.bl (decide (i = j))) H) : rIsX K [.ref m, .ref (cls K j)] H Q :=
  ⟨m, cls K i, fs, .ref (cls K j), .ref (cls K j), decide (i = j), rfl, e, T.exc i hi, fun u r => r, T.kit i j hi hj, q⟩
theorem is_read2 {H : Hp} {l m i j1 j2 : Nat} {fs : List (Str × V)} (T : TK K mg) (hi : i ≤ 43) (h1 : j1 ≤ 42) (h2 : j2 ≤ 42) (e : ExcV H m (cls K i) fs) {Q : VK} (q : ∀ u, H u = none → Q (.ref u) (upd H u (.lst (kindV i [j1, j2])))) :
    tLst (tCons (tCB (rIsX K) (tCons (tVar 0) (tCons (tC (.ref (cls K j1))) tNil))) (tCons (tCB (rIsX K) (tCons (tVar 0) (tCons (tC (.ref (cls K j2))) tNil))) tNil)) [some (.ref m), some (.ref l)] H Q := by
  refine ⟨_, rfl, ?_⟩
  dsimp only [tCons, tNil, tC, tCB]
  refine is_read T hi h1 e ⟨_, rfl, ?_⟩
  refine is_read T hi h2 e ⟨?_, fun u hu => ?_⟩
  · show 2 ≤ sizeLine
    decide
  · exact q u hu
theorem is_read1 {H : Hp} {l m i j1 : Nat} {fs : List (Str × V)} (T : TK K mg) (hi : i ≤ 43) (h1 : j1 ≤ 42) (e : ExcV H m (cls K i) fs) {Q : VK} (q : ∀ u, H u = none → Q (.ref u) (upd H u (.lst (kindV i [j1])))) :
    tLst (tCons (tCB (rIsX K) (tCons (tVar 0) (tCons (tC (.ref (cls K j1))) tNil))) tNil) [some (.ref m), some (.ref l)] H Q := by
  refine ⟨_, rfl, ?_⟩
  dsimp only [tCons, tNil, tC, tCB]
  refine is_read T hi h1 e ⟨?_, fun u hu => ?_⟩
  · show 1 ≤ sizeLine
    decide
  · exact q u hu
theorem scKA : FnScope ["_law_e", "_law_found"] ["_law_e"] (defScope sKindsA) := ⟨rfl, rfl, rfl, by decide +kernel, rfl, by decide +kernel, by decide +kernel⟩
theorem ok_kindsA {f : Addr} {fd : FuncData} (F : Fun K "_law_kinds_a" "_law_kinds_a" sKindsA f fd) (T : TK K mg) : FnOk P w K mg base CX0 1 f fd ["_law_e"] (spKinds K [0, 1, 2, 3, 4, 5, 6, 7, 8, 9, 10, 11, 12, 13, 14, 15, 16, 17]) := by
  refine F.ok scKA (fun vs H Q E h => ?_) (fun cdv A outer s H vs Q E hr h => ?_)
  · obtain ⟨m, i, fs, rfl, _⟩ := h
    rfl
  · obtain ⟨m, i, fs, rfl, hi, he, kk⟩ := h
    have ht : PSs (cxOf CX0 P w K mg base ["_law_e", "_law_found"] "_law_kinds_a" (defScope sKindsA) f cdv A outer s H E).nox ((defBody sKindsA).drop 10) (tRet (tVar 1)) := pss_one (ps_ret (pv 1))
    have hc : Cj (StK K (cxOf CX0 P w K mg base ["_law_e", "_law_found"] "_law_kinds_a" (defScope sKindsA) f cdv A outer s H E).nox) ((defBody sKindsA).drop 1) [[0, 1], [2, 3], [4, 5], [6, 7], [8, 9], [10, 11], [12, 13], [14, 15], [16, 17]] ((defBody sKindsA).drop 10) := by
      refine .cons ⟨_, ps_expr (pe_bm PySem.F.plainAttrs_list PySem.F.slot_list_extend PySem.F.type_list_extend mt_extend (pv 1) (pa_cons (pe_lst (pa_cons (pe_callB call_isX (by rfl) T.isi (by decide +kernel) (pa_cons (pv 0) (pa_cons (pe_glob (v := .ref (cls K 0)) (by rfl) (T.g 0 (by decide)) rfl) pa_nil))) (pa_cons (pe_callB call_isX (by rfl) T.isi (by decide +kernel) (pa_cons (pv 0) (pa_cons (pe_glob (v := .ref (cls K 1)) (by rfl) (T.g 1 (by decide)) rfl) pa_nil))) pa_nil))) pa_nil)),
        fun l m i fs D H0 H1 js0 hi M hl k => ks_step M hl (by decide) (fun Q q => is_read2 T hi (by decide) (by decide) M.e q) fun H2 M2 => k H2 M2⟩ ?_
      refine .cons ⟨_, ps_expr (pe_bm PySem.F.plainAttrs_list PySem.F.slot_list_extend PySem.F.type_list_extend mt_extend (pv 1) (pa_cons (pe_lst (pa_cons (pe_callB call_isX (by rfl) T.isi (by decide +kernel) (pa_cons (pv 0) (pa_cons (pe_glob (v := .ref (cls K 2)) (by rfl) (T.g 2 (by decide)) rfl) pa_nil))) (pa_cons (pe_callB call_isX (by rfl) T.isi (by decide +kernel) (pa_cons (pv 0) (pa_cons (pe_glob (v := .ref (cls K 3)) (by rfl) (T.g 3 (by decide)) rfl) pa_nil))) pa_nil))) pa_nil)),
        fun l m i fs D H0 H1 js0 hi M hl k => ks_step M hl (by decide) (fun Q q => is_read2 T hi (by decide) (by decide) M.e q) fun H2 M2 => k H2 M2⟩ ?_
      refine .cons ⟨_, ps_expr (pe_bm PySem.F.plainAttrs_list PySem.F.slot_list_extend PySem.F.type_list_extend mt_extend (pv 1) (pa_cons (pe_lst (pa_cons (pe_callB call_isX (by rfl) T.isi (by decide +kernel) (pa_cons (pv 0) (pa_cons (pe_glob (v := .ref (cls K 4)) (by rfl) (T.g 4 (by decide)) rfl) pa_nil))) (pa_cons (pe_callB call_isX (by rfl) T.isi (by decide +kernel) (pa_cons (pv 0) (pa_cons (pe_glob (v := .ref (cls K 5)) (by rfl) (T.g 5 (by decide)) rfl) pa_nil))) pa_nil))) pa_nil)),
        fun l m i fs D H0 H1 js0 hi M hl k => ks_step M hl (by decide) (fun Q q => is_read2 T hi (by decide) (by decide) M.e q) fun H2 M2 => k H2 M2⟩ ?_
      refine .cons ⟨_, ps_expr (pe_bm PySem.F.plainAttrs_list PySem.F.slot_list_extend PySem.F.type_list_extend mt_extend (pv 1) (pa_cons (pe_lst (pa_cons (pe_callB call_isX (by rfl) T.isi (by decide +kernel) (pa_cons (pv 0) (pa_cons (pe_glob (v := .ref (cls K 6)) (by rfl) (T.g 6 (by decide)) rfl) pa_nil))) (pa_cons (pe_callB call_isX (by rfl) T.isi (by decide +kernel) (pa_cons (pv 0) (pa_cons (pe_glob (v := .ref (cls K 7)) (by rfl) (T.g 7 (by decide)) rfl) pa_nil))) pa_nil))) pa_nil)),
        fun l m i fs D H0 H1 js0 hi M hl k => ks_step M hl (by decide) (fun Q q => is_read2 T hi (by decide) (by decide) M.e q) fun H2 M2 => k H2 M2⟩ ?_
      refine .cons ⟨_, ps_expr (pe_bm PySem.F.plainAttrs_list PySem.F.slot_list_extend PySem.F.type_list_extend mt_extend (pv 1) (pa_cons (pe_lst (pa_cons (pe_callB call_isX (by rfl) T.isi (by decide +kernel) (pa_cons (pv 0) (pa_cons (pe_glob (v := .ref (cls K 8)) (by rfl) (T.g 8 (by decide)) rfl) pa_nil))) (pa_cons (pe_callB call_isX (by rfl) T.isi (by decide +kernel) (pa_cons (pv 0) (pa_cons (pe_glob (v := .ref (cls K 9)) (by rfl) (T.g 9 (by decide)) rfl) pa_nil))) pa_nil))) pa_nil)),
        fun l m i fs D H0 H1 js0 hi M hl k => ks_step M hl (by decide) (fun Q q => is_read2 T hi (by decide) (by decide) M.e q) fun H2 M2 => k H2 M2⟩ ?_
      refine .cons ⟨_, ps_expr (pe_bm PySem.F.plainAttrs_list PySem.F.slot_list_extend PySem.F.type_list_extend mt_extend (pv 1) (pa_cons (pe_lst (pa_cons (pe_callB call_isX (by rfl) T.isi (by decide +kernel) (pa_cons (pv 0) (pa_cons (pe_glob (v := .ref (cls K 10)) (by rfl) (T.g 10 (by decide)) rfl) pa_nil))) (pa_cons (pe_callB call_isX (by rfl) T.isi (by decide +kernel) (pa_cons (pv 0) (pa_cons (pe_glob (v := .ref (cls K 11)) (by rfl) (T.g 11 (by decide)) rfl) pa_nil))) pa_nil))) pa_nil)),
        fun l m i fs D H0 H1 js0 hi M hl k => ks_step M hl (by decide) (fun Q q => is_read2 T hi (by decide) (by decide) M.e q) fun H2 M2 => k H2 M2⟩ ?_
      refine .cons ⟨_, ps_expr (pe_bm PySem.F.plainAttrs_list PySem.F.slot_list_extend PySem.F.type_list_extend mt_extend (pv 1) (pa_cons (pe_lst (pa_cons (pe_callB call_isX (by rfl) T.isi (by decide +kernel) (pa_cons (pv 0) (pa_cons (pe_glob (v := .ref (cls K 12)) (by rfl) (T.g 12 (by decide)) rfl) pa_nil))) (pa_cons (pe_callB call_isX (by rfl) T.isi (by decide +kernel) (pa_cons (pv 0) (pa_cons (pe_glob (v := .ref (cls K 13)) (by rfl) (T.g 13 (by decide)) rfl) pa_nil))) pa_nil))) pa_nil)),
        fun l m i fs D H0 H1 js0 hi M hl k => ks_step M hl (by decide) (fun Q q => is_read2 T hi (by decide) (by decide) M.e q) fun H2 M2 => k H2 M2⟩ ?_
      refine .cons ⟨_, ps_expr (pe_bm PySem.F.plainAttrs_list PySem.F.slot_list_extend PySem.F.type_list_extend mt_extend (pv 1) (pa_cons (pe_lst (pa_cons (pe_callB call_isX (by rfl) T.isi (by decide +kernel) (pa_cons (pv 0) (pa_cons (pe_glob (v := .ref (cls K 14)) (by rfl) (T.g 14 (by decide)) rfl) pa_nil))) (pa_cons (pe_callB call_isX (by rfl) T.isi (by decide +kernel) (pa_cons (pv 0) (pa_cons (pe_glob (v := .ref (cls K 15)) (by rfl) (T.g 15 (by decide)) rfl) pa_nil))) pa_nil))) pa_nil)),
        fun l m i fs D H0 H1 js0 hi M hl k => ks_step M hl (by decide) (fun Q q => is_read2 T hi (by decide) (by decide) M.e q) fun H2 M2 => k H2 M2⟩ ?_
      refine .cons ⟨_, ps_expr (pe_bm PySem.F.plainAttrs_list PySem.F.slot_list_extend PySem.F.type_list_extend mt_extend (pv 1) (pa_cons (pe_lst (pa_cons (pe_callB call_isX (by rfl) T.isi (by decide +kernel) (pa_cons (pv 0) (pa_cons (pe_glob (v := .ref (cls K 16)) (by rfl) (T.g 16 (by decide)) rfl) pa_nil))) (pa_cons (pe_callB call_isX (by rfl) T.isi (by decide +kernel) (pa_cons (pv 0) (pa_cons (pe_glob (v := .ref (cls K 17)) (by rfl) (T.g 17 (by decide)) rfl) pa_nil))) pa_nil))) pa_nil)),
        fun l m i fs D H0 H1 js0 hi M hl k => ks_step M hl (by decide) (fun Q q => is_read2 T hi (by decide) (by decide) M.e q) fun H2 M2 => k H2 M2⟩ ?_
      exact .nil
    obtain ⟨t, h1, h2⟩ := Cj.run ht hc
    refine ⟨_, pss_cons (ps_set (i := 1) scKA.nd rfl (Or.inl rfl) (pe_lst pa_nil)) h1, ?_⟩
    refine ⟨Nat.zero_le sizeLine, fun l hl => ?_⟩
    exact h2 l m i fs _ H _ [] hi (ks_start hl he) (Nat.le_of_ble_eq_true rfl) fun H' M => ⟨_, rfl, kk l H' hl M.s M.at_⟩
theorem scKB : FnScope ["_law_e", "_law_found"] ["_law_e"] (defScope sKindsB) := ⟨rfl, rfl, rfl, by decide +kernel, rfl, by decide +kernel, by decide +kernel⟩
theorem ok_kindsB {f : Addr} {fd : FuncData} (F : Fun K "_law_kinds_b" "_law_kinds_b" sKindsB f fd) (T : TK K mg) : FnOk P w K mg base CX0 1 f fd ["_law_e"] (spKinds K [18, 19, 20, 21, 22, 23, 24, 25, 26, 27, 28, 29, 30, 31, 32, 33, 34, 35]) := by
  refine F.ok scKB (fun vs H Q E h => ?_) (fun cdv A outer s H vs Q E hr h => ?_)
  · obtain ⟨m, i, fs, rfl, _⟩ := h
    rfl
  · obtain ⟨m, i, fs, rfl, hi, he, kk⟩ := h
    have ht : PSs (cxOf CX0 P w K mg base ["_law_e", "_law_found"] "_law_kinds_b" (defScope sKindsB) f cdv A outer s H E).nox ((defBody sKindsB).drop 10) (tRet (tVar 1)) := pss_one (ps_ret (pv 1))
    have hc : Cj (StK K (cxOf CX0 P w K mg base ["_law_e", "_law_found"] "_law_kinds_b" (defScope sKindsB) f cdv A outer s H E).nox) ((defBody sKindsB).drop 1) [[18, 19], [20, 21], [22, 23], [24, 25], [26, 27], [28, 29], [30, 31], [32, 33], [34, 35]] ((defBody sKindsB).drop 10) := by
      refine .cons ⟨_, ps_expr (pe_bm PySem.F.plainAttrs_list PySem.F.slot_list_extend PySem.F.type_list_extend mt_extend (pv 1) (pa_cons (pe_lst (pa_cons (pe_callB call_isX (by rfl) T.isi (by decide +kernel) (pa_cons (pv 0) (pa_cons (pe_glob (v := .ref (cls K 18)) (by rfl) (T.g 18 (by decide)) rfl) pa_nil))) (pa_cons (pe_callB call_isX (by rfl) T.isi (by decide +kernel) (pa_cons (pv 0) (pa_cons (pe_glob (v := .ref (cls K 19)) (by rfl) (T.g 19 (by decide)) rfl) pa_nil))) pa_nil))) pa_nil)),
        fun l m i fs D H0 H1 js0 hi M hl k => ks_step M hl (by decide) (fun Q q => is_read2 T hi (by decide) (by decide) M.e q) fun H2 M2 => k H2 M2⟩ ?_
      refine .cons ⟨_, ps_expr (pe_bm PySem.F.plainAttrs_list PySem.F.slot_list_extend PySem.F.type_list_extend mt_extend (pv 1) (pa_cons (pe_lst (pa_cons (pe_callB call_isX (by rfl) T.isi (by decide +kernel) (pa_cons (pv 0) (pa_cons (pe_glob (v := .ref (cls K 20)) (by rfl) (T.g 20 (by decide)) rfl) pa_nil))) (pa_cons (pe_callB call_isX (by rfl) T.isi (by decide +kernel) (pa_cons (pv 0) (pa_cons (pe_glob (v := .ref (cls K 21)) (by rfl) (T.g 21 (by decide)) rfl) pa_nil))) pa_nil))) pa_nil)),
        fun l m i fs D H0 H1 js0 hi M hl k => ks_step M hl (by decide) (fun Q q => is_read2 T hi (by decide) (by decide) M.e q) fun H2 M2 => k H2 M2⟩ ?_
      refine .cons ⟨_, ps_expr (pe_bm PySem.F.plainAttrs_list PySem.F.slot_list_extend PySem.F.type_list_extend mt_extend (pv 1) (pa_cons (pe_lst (pa_cons (pe_callB call_isX (by rfl) T.isi (by decide +kernel) (pa_cons (pv 0) (pa_cons (pe_glob (v := .ref (cls K 22)) (by rfl) (T.g 22 (by decide)) rfl) pa_nil))) (pa_cons (pe_callB call_isX (by rfl) T.isi (by decide +kernel) (pa_cons (pv 0) (pa_cons (pe_glob (v := .ref (cls K 23)) (by rfl) (T.g 23 (by decide)) rfl) pa_nil))) pa_nil))) pa_nil)),
        fun l m i fs D H0 H1 js0 hi M hl k => ks_step M hl (by decide) (fun Q q => is_read2 T hi (by decide) (by decide) M.e q) fun H2 M2 => k H2 M2⟩ ?_
      refine .cons ⟨_, ps_expr (pe_bm PySem.F.plainAttrs_list PySem.F.slot_list_extend PySem.F.type_list_extend mt_extend (pv 1) (pa_cons (pe_lst (pa_cons (pe_callB call_isX (by rfl) T.isi (by decide +kernel) (pa_cons (pv 0) (pa_cons (pe_glob (v := .ref (cls K 24)) (by rfl) (T.g 24 (by decide)) rfl) pa_nil))) (pa_cons (pe_callB call_isX (by rfl) T.isi (by decide +kernel) (pa_cons (pv 0) (pa_cons (pe_glob (v := .ref (cls K 25)) (by rfl) (T.g 25 (by decide)) rfl) pa_nil))) pa_nil))) pa_nil)),
        fun l m i fs D H0 H1 js0 hi M hl k => ks_step M hl (by decide) (fun Q q => is_read2 T hi (by decide) (by decide) M.e q) fun H2 M2 => k H2 M2⟩ ?_
      refine .cons ⟨_, ps_expr (pe_bm PySem.F.plainAttrs_list PySem.F.slot_list_extend PySem.F.type_list_extend mt_extend (pv 1) (pa_cons (pe_lst (pa_cons (pe_callB call_isX (by rfl) T.isi (by decide +kernel) (pa_cons (pv 0) (pa_cons (pe_glob (v := .ref (cls K 26)) (by rfl) (T.g 26 (by decide)) rfl) pa_nil))) (pa_cons (pe_callB call_isX (by rfl) T.isi (by decide +kernel) (pa_cons (pv 0) (pa_cons (pe_glob (v := .ref (cls K 27)) (by rfl) (T.g 27 (by decide)) rfl) pa_nil))) pa_nil))) pa_nil)),
        fun l m i fs D H0 H1 js0 hi M hl k => ks_step M hl (by decide) (fun Q q => is_read2 T hi (by decide) (by decide) M.e q) fun H2 M2 => k H2 M2⟩ ?_
      refine .cons ⟨_, ps_expr (pe_bm PySem.F.plainAttrs_list PySem.F.slot_list_extend PySem.F.type_list_extend mt_extend (pv 1) (pa_cons (pe_lst (pa_cons (pe_callB call_isX (by rfl) T.isi (by decide +kernel) (pa_cons (pv 0) (pa_cons (pe_glob (v := .ref (cls K 28)) (by rfl) (T.g 28 (by decide)) rfl) pa_nil))) (pa_cons (pe_callB call_isX (by rfl) T.isi (by decide +kernel) (pa_cons (pv 0) (pa_cons (pe_glob (v := .ref (cls K 29)) (by rfl) (T.g 29 (by decide)) rfl) pa_nil))) pa_nil))) pa_nil)),
        fun l m i fs D H0 H1 js0 hi M hl k => ks_step M hl (by decide) (fun Q q => is_read2 T hi (by decide) (by decide) M.e q) fun H2 M2 => k H2 M2⟩ ?_
      refine .cons ⟨_, ps_expr (pe_bm PySem.F.plainAttrs_list PySem.F.slot_list_extend PySem.F.type_list_extend mt_extend (pv 1) (pa_cons (pe_lst (pa_cons (pe_callB call_isX (by rfl) T.isi (by decide +kernel) (pa_cons (pv 0) (pa_cons (pe_glob (v := .ref (cls K 30)) (by rfl) (T.g 30 (by decide)) rfl) pa_nil))) (pa_cons (pe_callB call_isX (by rfl) T.isi (by decide +kernel) (pa_cons (pv 0) (pa_cons (pe_glob (v := .ref (cls K 31)) (by rfl) (T.g 31 (by decide)) rfl) pa_nil))) pa_nil))) pa_nil)),
        fun l m i fs D H0 H1 js0 hi M hl k => ks_step M hl (by decide) (fun Q q => is_read2 T hi (by decide) (by decide) M.e q) fun H2 M2 => k H2 M2⟩ ?_
      refine .cons ⟨_, ps_expr (pe_bm PySem.F.plainAttrs_list PySem.F.slot_list_extend PySem.F.type_list_extend mt_extend (pv 1) (pa_cons (pe_lst (pa_cons (pe_callB call_isX (by rfl) T.isi (by decide +kernel) (pa_cons (pv 0) (pa_cons (pe_glob (v := .ref (cls K 32)) (by rfl) (T.g 32 (by decide)) rfl) pa_nil))) (pa_cons (pe_callB call_isX (by rfl) T.isi (by decide +kernel) (pa_cons (pv 0) (pa_cons (pe_glob (v := .ref (cls K 33)) (by rfl) (T.g 33 (by decide)) rfl) pa_nil))) pa_nil))) pa_nil)),
        fun l m i fs D H0 H1 js0 hi M hl k => ks_step M hl (by decide) (fun Q q => is_read2 T hi (by decide) (by decide) M.e q) fun H2 M2 => k H2 M2⟩ ?_
      refine .cons ⟨_, ps_expr (pe_bm PySem.F.plainAttrs_list PySem.F.slot_list_extend PySem.F.type_list_extend mt_extend (pv 1) (pa_cons (pe_lst (pa_cons (pe_callB call_isX (by rfl) T.isi (by decide +kernel) (pa_cons (pv 0) (pa_cons (pe_glob (v := .ref (cls K 34)) (by rfl) (T.g 34 (by decide)) rfl) pa_nil))) (pa_cons (pe_callB call_isX (by rfl) T.isi (by decide +kernel) (pa_cons (pv 0) (pa_cons (pe_glob (v := .ref (cls K 35)) (by rfl) (T.g 35 (by decide)) rfl) pa_nil))) pa_nil))) pa_nil)),
        fun l m i fs D H0 H1 js0 hi M hl k => ks_step M hl (by decide) (fun Q q => is_read2 T hi (by decide) (by decide) M.e q) fun H2 M2 => k H2 M2⟩ ?_
      exact .nil
    obtain ⟨t, h1, h2⟩ := Cj.run ht hc
    refine ⟨_, pss_cons (ps_set (i := 1) scKB.nd rfl (Or.inl rfl) (pe_lst pa_nil)) h1, ?_⟩
    refine ⟨Nat.zero_le sizeLine, fun l hl => ?_⟩
    exact h2 l m i fs _ H _ [] hi (ks_start hl he) (Nat.le_of_ble_eq_true rfl) fun H' M => ⟨_, rfl, kk l H' hl M.s M.at_⟩
theorem scKC : FnScope ["_law_e", "_law_found"] ["_law_e"] (defScope sKindsC) := ⟨rfl, rfl, rfl, by decide +kernel, rfl, by decide +kernel, by decide +kernel⟩
theorem ok_kindsC {f : Addr} {fd : FuncData} (F : Fun K "_law_kinds_c" "_law_kinds_c" sKindsC f fd) (T : TK K mg) : FnOk P w K mg base CX0 1 f fd ["_law_e"] (spKinds K [36, 37, 38, 39, 40, 41, 42]) := by
  refine F.ok scKC (fun vs H Q E h => ?_) (fun cdv A outer s H vs Q E hr h => ?_)
  · obtain ⟨m, i, fs, rfl, _⟩ := h
    rfl
  · obtain ⟨m, i, fs, rfl, hi, he, kk⟩ := h
    have ht : PSs (cxOf CX0 P w K mg base ["_law_e", "_law_found"] "_law_kinds_c" (defScope sKindsC) f cdv A outer s H E).nox ((defBody sKindsC).drop 5) (tRet (tVar 1)) := pss_one (ps_ret (pv 1))
    have hc : Cj (StK K (cxOf CX0 P w K mg base ["_law_e", "_law_found"] "_law_kinds_c" (defScope sKindsC) f cdv A outer s H E).nox) ((defBody sKindsC).drop 1) [[36, 37], [38, 39], [40, 41], [42]] ((defBody sKindsC).drop 5) := by
      refine .cons ⟨_, ps_expr (pe_bm PySem.F.plainAttrs_list PySem.F.slot_list_extend PySem.F.type_list_extend mt_extend (pv 1) (pa_cons (pe_lst (pa_cons (pe_callB call_isX (by rfl) T.isi (by decide +kernel) (pa_cons (pv 0) (pa_cons (pe_glob (v := .ref (cls K 36)) (by rfl) (T.g 36 (by decide)) rfl) pa_nil))) (pa_cons (pe_callB call_isX (by rfl) T.isi (by decide +kernel) (pa_cons (pv 0) (pa_cons (pe_glob (v := .ref (cls K 37)) (by rfl) (T.g 37 (by decide)) rfl) pa_nil))) pa_nil))) pa_nil)),
        fun l m i fs D H0 H1 js0 hi M hl k => ks_step M hl (by decide) (fun Q q => is_read2 T hi (by decide) (by decide) M.e q) fun H2 M2 => k H2 M2⟩ ?_
      refine .cons ⟨_, ps_expr (pe_bm PySem.F.plainAttrs_list PySem.F.slot_list_extend PySem.F.type_list_extend mt_extend (pv 1) (pa_cons (pe_lst (pa_cons (pe_callB call_isX (by rfl) T.isi (by decide +kernel) (pa_cons (pv 0) (pa_cons (pe_glob (v := .ref (cls K 38)) (by rfl) (T.g 38 (by decide)) rfl) pa_nil))) (pa_cons (pe_callB call_isX (by rfl) T.isi (by decide +kernel) (pa_cons (pv 0) (pa_cons (pe_glob (v := .ref (cls K 39)) (by rfl) (T.g 39 (by decide)) rfl) pa_nil))) pa_nil))) pa_nil)),
        fun l m i fs D H0 H1 js0 hi M hl k => ks_step M hl (by decide) (fun Q q => is_read2 T hi (by decide) (by decide) M.e q) fun H2 M2 => k H2 M2⟩ ?_
      refine .cons ⟨_, ps_expr (pe_bm PySem.F.plainAttrs_list PySem.F.slot_list_extend PySem.F.type_list_extend mt_extend (pv 1) (pa_cons (pe_lst (pa_cons (pe_callB call_isX (by rfl) T.isi (by decide +kernel) (pa_cons (pv 0) (pa_cons (pe_glob (v := .ref (cls K 40)) (by rfl) (T.g 40 (by decide)) rfl) pa_nil))) (pa_cons (pe_callB call_isX (by rfl) T.isi (by decide +kernel) (pa_cons (pv 0) (pa_cons (pe_glob (v := .ref (cls K 41)) (by rfl) (T.g 41 (by decide)) rfl) pa_nil))) pa_nil))) pa_nil)),
        fun l m i fs D H0 H1 js0 hi M hl k => ks_step M hl (by decide) (fun Q q => is_read2 T hi (by decide) (by decide) M.e q) fun H2 M2 => k H2 M2⟩ ?_
      refine .cons ⟨_, ps_expr (pe_bm PySem.F.plainAttrs_list PySem.F.slot_list_extend PySem.F.type_list_extend mt_extend (pv 1) (pa_cons (pe_lst (pa_cons (pe_callB call_isX (by rfl) T.isi (by decide +kernel) (pa_cons (pv 0) (pa_cons (pe_glob (v := .ref (cls K 42)) (by rfl) (T.g 42 (by decide)) rfl) pa_nil))) pa_nil)) pa_nil)),
        fun l m i fs D H0 H1 js0 hi M hl k => ks_step M hl (by decide) (fun Q q => is_read1 T hi (by decide) M.e q) fun H2 M2 => k H2 M2⟩ ?_
      exact .nil
    obtain ⟨t, h1, h2⟩ := Cj.run ht hc
    refine ⟨_, pss_cons (ps_set (i := 1) scKC.nd rfl (Or.inl rfl) (pe_lst pa_nil)) h1, ?_⟩
    refine ⟨Nat.zero_le sizeLine, fun l hl => ?_⟩
    exact h2 l m i fs _ H _ [] hi (ks_start hl he) (Nat.le_of_ble_eq_true rfl) fun H' M => ⟨_, rfl, kk l H' hl M.s M.at_⟩
end
end Mine
namespace Mine
open PySem L2 PySem.Spec PyProof.Rows LamX NdefX
def allJ : List Nat := List.range 43
section
variable {w : World} {P : Program} {base : Heap} {K : PySem.W.Frag} {mg : Str → Option Value}
theorem dp_bools (K : PySem.W.Frag) (H : Hp) : ∀ bs : List Bool, DpAll K H (bs.map V.bl) (bs.map PyData.bool)
  | [] => .nil
  | c :: cs => .cons (.bl c) (dp_bools K H cs)
theorem lay_bools : ∀ cs : List Bool, PyData.canLayAll0 (cs.map PyData.bool) = true
  | [] => rfl
  | c :: cs => by
    show (PyData.canLay0 (.bool c) && PyData.canLayAll0 (cs.map PyData.bool)) = true
    rw [lay_bools cs]
    rfl
theorem depth_bools : ∀ cs : List Bool, PyData.depthAll (cs.map PyData.bool) = 0
  | [] => rfl
  | c :: cs => by
    show max (PyData.depth (.bool c)) (PyData.depthAll (cs.map PyData.bool)) = 0
    rw [depth_bools cs]
    rfl
theorem shaped_bools (cs : List Bool) : SeqAt.shaped (.list (cs.map PyData.bool)) = true := by
  show (PyData.canLayAll0 (cs.map PyData.bool) && decide (PyData.depth (.list (cs.map PyData.bool)) ≤ 64)) = true
  rw [lay_bools cs]
  show decide (PyData.depthAll (cs.map PyData.bool) + 1 ≤ 64) = true
  rw [depth_bools cs]
  rfl
theorem kindV_bl (i : Nat) (js : List Nat) : kindV i js = (js.map fun j => decide (i = j)).map V.bl := by
  unfold kindV
  rw [List.map_map]
  rfl
theorem scKi : FnScope ["_law_e"] ["_law_e"] (defScope sKinds) := ⟨rfl, rfl, rfl, by decide +kernel, rfl, by decide +kernel, by decide +kernel⟩
theorem ok_kinds {f fa fb fc : Addr} {fd fda fdb fdc : FuncData} (F : Fun K "_law_kinds" "_law_kinds" sKinds f fd) (T : TK K mg) (FA : Fun K "_law_kinds_a" "_law_kinds_a" sKindsA fa fda) (FB : Fun K "_law_kinds_b" "_law_kinds_b" sKindsB fb fdb) (FC : Fun K "_law_kinds_c" "_law_kinds_c" sKindsC fc fdc)
    (gA : mg "_law_kinds_a" = some (.ref fa)) (gB : mg "_law_kinds_b" = some (.ref fb)) (gC : mg "_law_kinds_c" = some (.ref fc)) (bA : Binds K fda ["_law_e"] []) (bB : Binds K fdb ["_law_e"] []) (bC : Binds K fdc ["_law_e"] []) :
    FnOk P w K mg base CX0 2 f fd ["_law_e"] (spKinds K allJ) := by
  have GA := ok_kindsA (P := P) (w := w) (base := base) FA T
  have GB := ok_kindsB (P := P) (w := w) (base := base) FB T
  have GC := ok_kindsC (P := P) (w := w) (base := base) FC T
  refine F.ok scKi (fun vs H Q E h => ?_) (fun cdv A outer s H vs Q E hr h => ?_)
  · obtain ⟨m, i, fs, rfl, _⟩ := h
    rfl
  · obtain ⟨m, i, fs, rfl, hi, he, kk⟩ := h
    refine ⟨_, pss_one (ps_ret (pe_op op_cat (pe_op op_cat (pe_call GA hr (by rfl) gA FA.kp bA .nil pass0 (pa_cons (pv 0) pa_nil)) (pe_call GB hr (by rfl) gB FB.kp bB .nil pass0 (pa_cons (pv 0) pa_nil))) (pe_call GC hr (by rfl) gC FC.kp bC .nil pass0 (pa_cons (pv 0) pa_nil)))), ?_⟩
    refine ⟨_, rfl, m, i, fs, rfl, hi, he, fun p1 H1 n1 s1 e1 => ?_⟩
    refine ⟨_, rfl, m, i, fs, rfl, hi, he.same s1, fun p2 H2 n2 s2 e2 => ?_⟩
    refine ⟨p1, p2, _, _, rfl, rfl, s2 _ _ e1, e2, Nat.le_of_ble_eq_true rfl, fun p3 n3 => ?_⟩
    have s3 : Same H2 (upd H2 p3 (.lst (kindV i [0, 1, 2, 3, 4, 5, 6, 7, 8, 9, 10, 11, 12, 13, 14, 15, 16, 17] ++ kindV i [18, 19, 20, 21, 22, 23, 24, 25, 26, 27, 28, 29, 30, 31, 32, 33, 34, 35]))) := same_upd n3
    have e3 : (upd H2 p3 (.lst (kindV i [0, 1, 2, 3, 4, 5, 6, 7, 8, 9, 10, 11, 12, 13, 14, 15, 16, 17] ++ kindV i [18, 19, 20, 21, 22, 23, 24, 25, 26, 27, 28, 29, 30, 31, 32, 33, 34, 35]))) p3 = some _ := upd_same
    generalize upd H2 p3 (.lst (kindV i [0, 1, 2, 3, 4, 5, 6, 7, 8, 9, 10, 11, 12, 13, 14, 15, 16, 17] ++ kindV i [18, 19, 20, 21, 22, 23, 24, 25, 26, 27, 28, 29, 30, 31, 32, 33, 34, 35])) = H3 at s3 e3 ⊢
    have s13 : Same H H3 := fun b o e => s3 b o (s2 b o (s1 b o e))
    refine ⟨_, rfl, m, i, fs, rfl, hi, he.same s13, fun p4 H4 n4 s4 e4 => ?_⟩
    refine ⟨p3, p4, _, _, rfl, rfl, s4 _ _ e3, e4, Nat.le_of_ble_eq_true rfl, fun p5 n5 => ?_⟩
    have n50 : H p5 = none := by
      cases e : H p5 with
      | none => rfl
      | some o => rw [s4 _ _ (s13 _ _ e)] at n5; cases n5
    refine kk p5 _ n50 (fun b o e => ?_) ?_
    · rw [upd_ne (ne_of_none (s4 _ _ (s13 _ _ e)) n5)]
      exact s4 _ _ (s13 _ _ e)
    · rw [upd_same, ← kindV_app, ← kindV_app]
      rfl
theorem scIo : FnScope ["_law_e", "_law_at", "_law_k"] ["_law_e", "_law_at"] (defScope sIsOwn) := ⟨rfl, rfl, rfl, by decide +kernel, rfl, by decide +kernel, by decide +kernel⟩
def spIsOwn (K : PySem.W.Frag) : Sp := fun vs H Q _ => ∃ (m i : Nat) (fs : List (Str × V)), vs = [.ref m, .int (i : Int)] ∧ i ≤ 42 ∧ ExcV H m (cls K i) fs ∧ ∀ H', Same H H' → Q (.bl true) H'
theorem is_readB {H : Hp} {m i : Nat} {fs : List (Str × V)} {c : V} {cv : Value} {b : Bool} (T : TK K mg) (hi : i ≤ 43) (e : ExcV H m (cls K i) fs) (hc : ∀ u, RelV c u → u = cv) (hk : PySem.W.kitOne K (.ref (cls K i)) cv = some b) {Q : VK} (q : Q (.bl b) H) : rIsX K [.ref m, c] H Q :=
  ⟨m, cls K i, fs, c, cv, b, rfl, e, T.exc i hi, hc, hk, q⟩
theorem ok_isOwn {f fk : Addr} {fd fdk : FuncData} (F : Fun K "_law_is_own" "_law_is_own" sIsOwn f fd) (T : TK K mg) (D : TxtD K mg) (FK : Fun K "_law_kinds" "_law_kinds" sKinds fk fdk) (gK : mg "_law_kinds" = some (.ref fk)) (bK : Binds K fdk ["_law_e"] []) (GK : FnOk P w K mg base CX0 2 fk fdk ["_law_e"] (spKinds K allJ)) :
    FnOk P w K mg base CX0 3 f fd ["_law_e", "_law_at"] (spIsOwn K) := by
  refine F.ok scIo (fun vs H Q E h => ?_) (fun cdv A outer s H vs Q E hr h => ?_)
  · obtain ⟨m, i, fs, rfl, _⟩ := h
    rfl
  · obtain ⟨m, i, fs, rfl, hi, he, kk⟩ := h
    refine ⟨_, pss_cons (ps_if (PW.pt (pw_or (pt_not (pt_val (pe_callB call_isX (by rfl) T.isi (by decide +kernel) (pa_cons (pv 0) (pa_cons (pe_glob (v := .ref (cls K 43)) (by rfl) (T.g 43 (by decide)) rfl) pa_nil)))))
        (pw_or (pt_not (pt_val (pe_callB call_isX (by rfl) T.isi (by decide +kernel) (pa_cons (pv 0) (pa_cons (pe_bltn (v := .ty "ValueError") (by rfl) T.ve (by decide +kernel) rfl) pa_nil)))))
        (pw_or1 (pt_val (pe_callB call_isX (by rfl) T.isi (by decide +kernel) (pa_cons (pv 0) (pa_cons (pe_bltn (v := .ty "LookupError") (by rfl) T.le (by decide +kernel) rfl) pa_nil))))))))
        (pss_one (ps_ret pe_bl)) pss_nil)
      (pss_one (ps_ret (pe_cmpR (op_eqD hr.units) (pe_call GK hr (by rfl) gK FK.kp bK .nil pass0 (pa_cons (pv 0) pa_nil))
        (pe_lc (own := [("_law_k", 2)]) (g := gName 2) (tt := tYes) (te := tOp rEq (tVar 2) (tVar 1)) rfl scIo.nd (pi_range1 (by rfl) D.range (pa_cons pe_int pa_nil))
          (blkOk_by (own := [("_law_k", 2)]) (N := ["_law_e", "_law_at", "_law_k"]) (sc := defScope sIsOwn) (by decide +kernel)) (fun _ _ _ _ _ => pg_name (i := 2) scIo.nd rfl (Or.inl rfl)) (fun _ _ _ _ _ => pts_nil) (fun _ _ _ _ _ => pe_cmpR op_eq (pv 2) (pv 1) (nomark _))) (nomark _)))), ?_⟩
    refine ⟨_, rfl, ?_⟩
    dsimp only [tCons, tNil, tC, tCB]
    refine is_readB (c := .ref (cls K 43)) (cv := .ref (cls K 43)) T (by omega) he (fun u r => r) (T.kitP i (by omega)) ⟨true, rfl, ?_⟩
    refine ⟨_, rfl, ?_⟩
    dsimp only [tCons, tNil, tC, tCB]
    refine is_readB (c := .ty "ValueError") (cv := .type "ValueError") T (by omega) he (fun u r => r) (T.kitV i (by omega)) ⟨true, rfl, ?_⟩
    refine ⟨_, rfl, ?_⟩
    dsimp only [tCons, tNil, tC, tCB]
    refine is_readB (c := .ty "LookupError") (cv := .type "LookupError") T (by omega) he (fun u r => r) (T.kitL i (by omega)) ⟨false, rfl, ?_⟩
    refine ⟨_, rfl, m, i, fs, rfl, by omega, he, fun p1 H1 n1 s1 e1 => ?_⟩
    refine ⟨43, rfl, by decide, by decide, fun D1 hD => ?_⟩
    refine lc_range (lo := 0) (n := 43) (fun j H2 => H2 D1 = some (.lst (kindV i (List.range j))) ∧ Same H1 H2) ⟨upd_same, same_upd hD⟩ ?_ ?_
    · rintro j H2 hj ⟨h2, s2⟩
      refine ⟨rfl, ?_⟩
      refine ⟨_, rfl, _, rfl, rfl, ?_⟩
      refine ⟨_, h2, ?_, ?_, fun b o e => ?_⟩
      · unfold kindV
        simp only [List.length_range, List.length_map]
        exact Nat.lt_of_le_of_lt (by omega : j ≤ 1000) (by decide)
      · rw [upd_same, List.range_succ, kindV_app]
        have e : decide (V.int (0 + (j : Int)) = V.int (i : Int)) = decide (i = j) := by
          rw [Bool.eq_iff_iff]
          simp
          omega
        rw [e]
        rfl
      · rw [upd_ne (ne_of_none e hD)]
        exact s2 b o e
    · rintro H2 ⟨h2, s2⟩
      have q1 := SqL.of (K := K) (s2 _ _ e1)
      have q2 := SqL.of (K := K) h2
      rw [kindV_bl] at q1 q2
      refine ⟨_, _, .lst q1 (dp_bools _ _ _), .lst q2 (dp_bools _ _ _), shaped_bools _, shaped_bools _, ?_⟩
      have e : PyData.eqv (.list ((allJ.map fun j => decide (i = j)).map PyData.bool)) (.list (((List.range 43).map fun j => decide (i = j)).map PyData.bool)) = true := SeqAt.eqv_refl _ (lay_bools _)
      rw [e]
      exact kk H2 fun b o e => s2 b o (s1 b o e)
end
end Mine
namespace Mine
open PySem L2 PySem.Spec PyProof.Rows LamX NdefX
/-- a def's promise, kept where no repr is under way -/
structure FnG (P : Program) (w : World) (K : PySem.W.Frag) (mg : Str → Option Value) (base : Heap) (k : Nat) (f : Addr) (fd : FuncData) (ps : List Str) (sp : Sp) : Prop where
  many : ∀ vs H Q E, sp vs H Q E → vs.length = ps.length
  does : ∀ (A : Around) (outer : List Env) (s : Shared) (H : Hp) (args : Args) (us : List Value) (vs : List V) (Q : VK) (E : XK), Room k A → A.guards = some [] → Env0 P w K mg base A outer s H → BindsTo s fd args (ps.zip us) → Vals vs us → sp vs H Q E → codeAny (model P w) A (.call (.ref f) args) (CR CX0 outer P w H s Q E) s
section
variable {w : World} {P : Program} {base : Heap} {K : PySem.W.Frag} {mg : Str → Option Value}
theorem Fun.okG {x qual : Str} {st : Stmt} {f : Addr} {fd : FuncData} {N ps : List Str} {k : Nat} {sp : Sp} (F : Fun K x qual st f fd) (S : FnScope N ps (defScope st)) (len : ∀ vs H Q E, sp vs H Q E → vs.length = ps.length)
    (hbody : ∀ (cdv : Value) (A : Around) (outer : List Env) (s : Shared) (H : Hp) (vs : List V) (Q : VK) (E : XK), Room k (A.deeper (envOfC qual (defScope st) s.heap.objs.size f cdv)) → (A.deeper (envOfC qual (defScope st) s.heap.objs.size f cdv)).guards = some [] → sp vs H Q E →
      ∃ t, PSs (cxOf CX0 P w K mg base N qual (defScope st) f cdv A outer s H E).nox (defBody st) t ∧ t { nx := fun _ H' => Q .non H', rt := Q } (start N vs) H) : FnG P w K mg base (k + 1) f fd ps sp := by
  obtain ⟨_, _, _, _, _, _, cdv, _, _, rfl, lk, hcd⟩ := F.ex
  refine ⟨len, fun A outer s H args us vs Q E hr hg e0 hb r hsp => ?_⟩
  refine run_ofS (CX := CX0) (N := N) (ps := ps) lk hcd S hr e0 hb r (len _ _ _ _ hsp) fun hr2 => ?_
  obtain ⟨t, h, q⟩ := hbody cdv A outer s H vs Q E hr2 hg hsp
  exact ⟨t, h.nox, q⟩
end
section
variable {X : Cx} {k : Nat} {f : Addr} {fd : FuncData} {ps : List Str} {sp : Sp} {x : Str} {p pos : Pos} {e : Expr} {es : List Expr} {t : TA}
theorem pe_callG (G : FnG X.prog X.w X.K X.mg X.base k f fd ps sp) (room : Room k X.A) (calm : X.A.guards = some []) (glob : Gl X x) (mf : X.mg x = some (.ref f)) (kept : PySem.W.keepIn X.K (.ref f) = true) (bnd : Binds X.K fd ps []) (args : PA X (e :: es) t) (nd : (x == ("__debug__" : Str)) = false := by decide)
    (line : starEach (e :: es) X.env = (false, eval e X.env) :: starEach es X.env := by rfl) (none2 : (backTo pos (starEach es X.env)).any (·.1) = false := by rfl) : PE X (.Call (.Name x p) (e :: es) [] pos) (tCall sp [] E0 t) := by
  refine ⟨fun pins s0 σ H Q I0 h => wpAny_Call_Name_kw (ld_glob I0 glob mf ?_ nd)⟩
  refine PySem.W.callWith_K (h₀ := X.base) I0.ok.mod.kin kept (thn (args.run pos pins s0 σ H _ I0 h) fun us s ⟨vs, H1, I, r, q⟩ => ⟨I.kIn, ?_⟩) line none2
  have q : sp (vs ++ []) H1 Q E0 := q
  rw [List.append_nil] at q
  have le : us.length = ps.length := r.length.symm.trans (G.many _ _ _ _ q)
  have bs := bnd s us I.kIn (by rw [List.append_nil]; exact le)
  rw [List.append_nil] at bs
  refine wpAny_call (codeAny_mono (G.does X.A X.stack s H1 ⟨us, []⟩ us vs Q E0 room calm I.env0 bs r q) fun z s2 hz => ?_)
  match z, hz with
  | .ok (.ret u), hz => exact I.after hz
end
/-! ### the data that the law draws -/
def menu : List PyData := [.none, .int 5, .int (-1), .bool true, .str "a", .str "", .list [.int 1, .str "b"], .tuple [.int 2, .none], .dict [(.str "a", .int 1)], .list [.list [.str "x"]], .int (10 ^ 30), .tuple [.str "s", .int 3], .bool false, .int 0, .int 1, .list [.str "v", .str "w"], .list [.str "v"]]
def lists2 : List (List PyData) := [] :: (menu.map fun d => [d]) ++ menu.flatMap fun d => menu.map fun e => [d, e]
theorem shows_all : lists2.all (fun ds => PyData.showableAll ds && decide (PyData.depthAll ds ≤ 60) && decide ((listText (PyData.shownAll ds)).length ≤ 16777216)) = true := by decide +kernel
theorem shows_of {ds : List PyData} (h : ds ∈ lists2) : PyData.showableAll ds = true ∧ PyData.depthAll ds ≤ 60 ∧ (listText (PyData.shownAll ds)).length ≤ sizeLine := by
  have z := List.all_eq_true.mp shows_all ds h
  simp only [Bool.and_eq_true, decide_eq_true_eq] at z
  exact ⟨z.1.1, z.1.2, by rw [sizeLine_eq]; exact z.2⟩
/-- due is one of the law's lists of none, one or two drawn things -/
def DueOk (K : PySem.W.Frag) (H : Hp) (due : List V) : Prop := ∃ ds, ItemsD K H due ds ∧ ds ∈ lists2
section
variable {w : World} {P : Program} {base : Heap} {K : PySem.W.Frag} {mg : Str → Option Value}
structure TR (mg : Str → Option Value) : Prop where
  repr : mg "repr" = none
  len : mg "len" = none
theorem scTh : FnScope ["_law_found", "_law_due"] ["_law_found", "_law_due"] (defScope sThese) := ⟨rfl, rfl, rfl, by decide +kernel, rfl, by decide +kernel, by decide +kernel⟩
def spThese (K : PySem.W.Frag) : Sp := fun vs H Q _ => ∃ (p q : Addr) (due : List V), vs = [.ref p, .ref q] ∧ H p = some (.lst due) ∧ H q = some (.lst due) ∧ DueOk K H due ∧ Q (.bl true) H
theorem ok_these {f : Addr} {fd : FuncData} (F : Fun K "_law_are_these" "_law_are_these" sThese f fd) (T : TR mg) : FnG P w K mg base 1 f fd ["_law_found", "_law_due"] (spThese K) := by
  refine Fun.okG F scTh (fun vs H Q E h => ?_) (fun cdv A outer s H vs Q E hr hg h => ?_)
  · obtain ⟨p, q, due, rfl, _⟩ := h
    rfl
  · obtain ⟨p, q, due, rfl, hp, hq, ⟨ds, hI, hm⟩, kk⟩ := h
    obtain ⟨s1, s2, s3⟩ := shows_of hm
    refine ⟨_, pss_one (ps_ret (pe_and (pe_cmpR op_eq (pe_callB (call_reprL hg hr.units) (by rfl) T.repr (by decide +kernel) (pa_cons (pv 0) pa_nil)) (pe_callB (call_reprL hg hr.units) (by rfl) T.repr (by decide +kernel) (pa_cons (pv 1) pa_nil)) (nomark _))
      (pe_one (pe_cmpR op_eq (pe_callB call_len_seq (by rfl) T.len PySem.boot_len (pa_cons (pv 0) pa_nil)) (pe_callB call_len_seq (by rfl) T.len PySem.boot_len (pa_cons (pv 1) pa_nil)) (nomark _))))), ?_⟩
    refine ⟨_, rfl, p, due, ds, rfl, hp, hI, s1, s2, s3, _, rfl, q, due, ds, rfl, hq, hI, s1, s2, s3, rfl, _, rfl, ?_⟩
    refine ite2 (fun c => ?_) (fun c => absurd (decide_eq_true rfl) c)
    refine ⟨_, rfl, p, due, rfl, .inl (SqL.of hp), _, rfl, q, due, rfl, .inl (SqL.of hq), rfl, ?_⟩
    have e : decide (V.int (due.length : Int) = V.int (due.length : Int)) = true := decide_eq_true rfl
    rw [e]
    exact kk
end
end Mine
namespace Mine
open PySem L2 PySem.Spec PyProof.Rows LamX NdefX
/-! ### what stays readable when the heap grows -/
theorem rd_n {H H' : Hp} {a : Addr} {u : HO} (r : Rd H a u) (hu : ∀ ps, u ≠ .tbl ps) (k : ExtN H H') : Rd H' a u := by
  rcases r with r | ⟨o, r⟩
  · exact .inl (k _ _ r hu)
  · exact .inr ⟨o, k _ _ r fun ps z => nomatch z⟩
theorem sqL_n {K : PySem.W.Frag} {H H' : Hp} {a : Addr} {xs : List V} (h : SqL K H a xs) (k : ExtN H H') : SqL K H' a xs := by
  rcases h with h | h
  · exact .inl (rd_n h (fun ps z => nomatch z) k)
  · exact .inr h
theorem sqT_n {K : PySem.W.Frag} {H H' : Hp} {a : Addr} {xs : List V} (h : SqT K H a xs) (k : ExtN H H') : SqT K H' a xs := by
  rcases h with h | h
  · exact .inl (rd_n h (fun ps z => nomatch z) k)
  · exact .inr h
mutual
theorem Dp.n {K : PySem.W.Frag} {H H' : Hp} (k : ExtN H H') : ∀ {v : V} {d : PyData}, Dp K H v d → Dp K H' v d
  | _, _, .non => .non
  | _, _, .bl b => .bl b
  | _, _, .int i => .int i
  | _, _, .str x => .str x
  | _, _, .lst h t => .lst (sqL_n h k) (DpAll.n k t)
  | _, _, .tup h t => .tup (sqT_n h k) (DpAll.n k t)
theorem DpAll.n {K : PySem.W.Frag} {H H' : Hp} (k : ExtN H H') : ∀ {vs : List V} {ds : List PyData}, DpAll K H vs ds → DpAll K H' vs ds
  | _, _, .nil => .nil
  | _, _, .cons a t => .cons (Dp.n k a) (DpAll.n k t)
end
theorem ItemD.n {K : PySem.W.Frag} {H H' : Hp} (k : ExtN H H') {v : V} {d : PyData} (x : ItemD K H v d) : ItemD K H' v d := by
  rcases x with ⟨x, h⟩ | ⟨a, t, i, e1, e2, e3⟩
  · exact .inl ⟨Dp.n k x, h⟩
  · exact .inr ⟨a, t, i, e1, k _ _ e2 (fun ps z => nomatch z), e3⟩
/-- a drawn thing -/
def Drw (K : PySem.W.Frag) (H : Hp) (v : V) : Prop := ∃ d ∈ menu, ItemD K H v d
theorem Drw.n {K : PySem.W.Frag} {H H' : Hp} (k : ExtN H H') {v : V} (x : Drw K H v) : Drw K H' v := by
  obtain ⟨d, h, i⟩ := x
  exact ⟨d, h, i.n k⟩
theorem due_of {K : PySem.W.Frag} {H : Hp} {x y : V} {due : List V} (hx : Drw K H x) (hy : Drw K H y) (h : due = [] ∨ due = [x] ∨ due = [x, y]) : DueOk K H due := by
  obtain ⟨dx, mx, ix⟩ := hx
  obtain ⟨dy, my, iy⟩ := hy
  rcases h with rfl | rfl | rfl
  · exact ⟨[], .nil, List.mem_append_left _ (List.mem_cons_self ..)⟩
  · exact ⟨[dx], .cons ix .nil, List.mem_append_left _ (List.mem_cons_of_mem _ (List.mem_map.mpr ⟨dx, mx, rfl⟩))⟩
  · exact ⟨[dx, dy], .cons ix (.cons iy .nil), List.mem_append_right _ (List.mem_flatMap.mpr ⟨dx, mx, List.mem_map.mpr ⟨dy, my, rfl⟩⟩)⟩
/-- the j-th entry is of the j-th class -/
structure IOk (K : PySem.W.Frag) (x y : V) (j : Nat) (i : EI) : Prop where
  C : i.C = cls K j
  no : ∀ f ∈ i.flds, PySem.W.findIn K (.ref i.C) f = some none
  mp : i.flds.map (fun f => i.fs.lookup f) = i.due.map some
  due : i.due = [] ∨ i.due = [x] ∨ i.due = [x, y]
inductive IOks (K : PySem.W.Frag) (x y : V) : Nat → List EI → Prop
  | nil {j : Nat} : IOks K x y j []
  | cons {j : Nat} {i : EI} {is : List EI} : IOk K x y j i → IOks K x y (j + 1) is → IOks K x y j (i :: is)
theorem IOks.get {K : PySem.W.Frag} {x y : V} : ∀ {j : Nat} {is : List EI} {k : Nat} {i : EI}, IOks K x y j is → is[k]? = some i → IOk K x y (j + k) i
  | _, _, _, _, .nil, e => by
    rw [List.getElem?_nil] at e
    cases e
  | j, _, 0, i, .cons a t, e => by simp at e; subst e; exact a
  | j, _, k + 1, i, .cons a t, e => by
    have z := IOks.get (k := k) (i := i) t (by simpa using e)
    have e2 : j + 1 + k = j + (k + 1) := by omega
    rw [e2] at z
    exact z
section
variable {w : World} {P : Program} {base : Heap} {K : PySem.W.Frag} {mg : Str → Option Value}
theorem iok1 {x y : V} {j : Nat} {C : Addr} {f : Str} (hC : C = cls K j) (hn : PySem.W.findIn K (.ref C) f = some none) : IOk K x y j ⟨C, [(f, x)], [f], [x]⟩ :=
  ⟨hC, fun g hg => by rw [List.mem_singleton.mp hg]; exact hn, by simp [List.lookup], .inr (.inl rfl)⟩
theorem iok2 {x y : V} {j : Nat} {C : Addr} {f1 f2 : Str} (hC : C = cls K j) (hn1 : PySem.W.findIn K (.ref C) f1 = some none) (hn2 : PySem.W.findIn K (.ref C) f2 = some none) (ne : (f1 == f2) = false) : IOk K x y j ⟨C, [(f2, y), (f1, x)], [f1, f2], [x, y]⟩ :=
  ⟨hC, fun g hg => by
    rcases List.mem_cons.1 hg with rfl | hg
    · exact hn1
    · rw [List.mem_singleton.mp hg]; exact hn2, by simp [List.lookup, ne], .inr (.inr rfl)⟩
theorem iok0 {x y : V} {j : Nat} {C : Addr} (hC : C = cls K j) : IOk K x y j ⟨C, [], [], []⟩ := ⟨hC, fun g hg => by simp at hg, rfl, .inl rfl⟩
theorem ioks_all (X : TX P w K mg base) (x y : V) : IOks K x y 0 (infoA K x y ++ infoB K x y ++ infoC K x y) := by
  show IOks K x y 0 (_ :: _)
  refine .cons (iok1 rfl X.x_BadDeed.no) ?_
  refine .cons (iok1 rfl X.x_BadForest.no) ?_
  refine .cons (iok1 rfl X.x_BadForm.no) ?_
  refine .cons (iok1 rfl X.x_BadHeight.no) ?_
  refine .cons (iok1 rfl X.x_BadHollow.no) ?_
  refine .cons (iok1 rfl X.x_BadKind.no) ?_
  refine .cons (iok1 rfl X.x_BadLosses.no) ?_
  refine .cons (iok1 rfl X.x_BadLot.no) ?_
  refine .cons (iok1 rfl X.x_BadLots.no) ?_
  refine .cons (iok1 rfl X.x_BadName.no) ?_
  refine .cons (iok1 rfl X.x_BadNest.no) ?_
  refine .cons (iok1 rfl X.x_BadNumber.no) ?_
  refine .cons (iok1 rfl X.x_BadOrder.no) ?_
  refine .cons (iok1 rfl X.x_BadParting.no) ?_
  refine .cons (iok1 rfl X.x_BadPicture.no) ?_
  refine .cons (iok1 rfl X.x_BadPlaces.no) ?_
  refine .cons (iok1 rfl X.x_BadPrice.no) ?_
  refine .cons (iok1 rfl X.x_BadPriced.no) ?_
  refine .cons (iok1 rfl X.x_BadQuestion.no) ?_
  refine .cons (iok1 rfl X.x_BadRoots.no) ?_
  refine .cons (iok1 rfl X.x_BadRows.no) ?_
  refine .cons (iok1 rfl X.x_BadSession.no) ?_
  refine .cons (iok1 rfl X.x_BadSharing.no) ?_
  refine .cons (iok1 rfl X.x_BadTable.no) ?_
  refine .cons (iok2 rfl X.x_BadText.no1 X.x_BadText.no2 (by decide +kernel)) ?_
  refine .cons (iok1 rfl X.x_BadTies.no) ?_
  refine .cons (iok1 rfl X.x_BadTold.no) ?_
  refine .cons (iok1 rfl X.x_BadWeb.no) ?_
  refine .cons (iok1 rfl X.x_InUse.no) ?_
  refine .cons (iok1 rfl X.x_IsThere.no) ?_
  refine .cons (iok1 rfl X.x_IsWatched.no) ?_
  refine .cons (iok1 rfl X.x_NoCount.no) ?_
  refine .cons (iok1 rfl X.x_NoLot.no) ?_
  refine .cons (iok1 rfl X.x_NoParts.no) ?_
  refine .cons (iok1 rfl X.x_NoPlace.no) ?_
  refine .cons (iok1 rfl X.x_NoRoot.no) ?_
  refine .cons (iok2 rfl X.x_NoTie.no1 X.x_NoTie.no2 (by decide +kernel)) ?_
  refine .cons (iok1 rfl X.x_NotThere.no) ?_
  refine .cons (iok1 rfl X.x_NotWatched.no) ?_
  refine .cons (iok0 rfl) ?_
  refine .cons (iok1 rfl X.x_SamePlace.no) ?_
  refine .cons (iok1 rfl X.x_SavesNothing.no) ?_
  refine .cons (iok2 rfl X.x_WouldChange.no1 X.x_WouldChange.no2 (by decide +kernel)) ?_
  exact .nil
end
theorem for_enum {K : PySem.W.Frag} {a : Addr} {xs : List V} {g : TG} {tb : TS} {D : Ends} {σ : L2.St} {H : Hp} (J : Nat → L2.St → Hp → Prop) (h0 : J 0 σ H) (there : ∀ i σ H, i ≤ xs.length → J i σ H → SqL K H a xs)
    (step : ∀ i x T σ H, xs[i]? = some x → J i σ H → H T = none → g (.ref T) σ (upd H T (.tup [.int (i : Nat), x])) fun σ2 H2 => tb { D with nx := J (i + 1), ct := J (i + 1), bk := D.nx } σ2 H2) (behind : ∀ σ H, J xs.length σ H → D.nx σ H) :
    ∃ W : Nat → Nat → L2.St → Hp → Prop, (∃ m, W 0 m σ H) ∧
      ∀ i m σ H, W i m σ H → ((Ite K a).stop i H ∧ D.nx σ H) ∨ ((Ite K a).go i H ∧ ∃ N : L2.St → Hp → Prop, (∀ σ' H', N σ' H' → ∃ m', m' < m ∧ W (i + 1) m' σ' H') ∧ ∀ x H', (Ite K a).yld i H x H' → g x σ H' fun σ2 H2 => tb { D with nx := N, ct := N, bk := D.nx } σ2 H2) := by
  refine ⟨fun i m σ H => m + i = xs.length ∧ J i σ H, ⟨xs.length, rfl, h0⟩, fun i m σ H hw => ?_⟩
  obtain ⟨le, j⟩ := hw
  have l := there i σ H (by omega) j
  match m, le with
  | 0, le =>
    have e : i = xs.length := (Nat.zero_add i).symm.trans le
    subst e
    exact .inl ⟨⟨xs, l, Nat.le_refl xs.length⟩, behind σ H j⟩
  | m + 1, le =>
    have lt : i < xs.length := by omega
    refine .inr ⟨⟨xs, xs[i], l, List.getElem?_eq_getElem lt⟩, J (i + 1), fun σ2 H2 j2 => ⟨m, Nat.lt_succ_self m, by omega, j2⟩, ?_⟩
    rintro v H2 ⟨T, x, rfl, new, rfl, told⟩
    exact step i x T σ H (told xs l) j new
end Mine
namespace Mine
open PySem L2 PySem.Spec PyProof.Rows LamX NdefX
abbrev sLaw : Stmt := top 58
abbrev NL : List Str := ["_law_script", "_law_stream", "_law_some", "_law_turn", "_law_x", "_law_y", "_law_z", "_law_made", "_law_at", "_law_mine", "_law_twin", "_law_field", "_law_due", "_law_held", "_law_base"]
theorem scL : FnScope NL ["_law_script"] (defScope sLaw) := ⟨rfl, rfl, rfl, by decide +kernel, rfl, by decide +kernel, by decide +kernel⟩
/-- a callee, by its global name -/
def Cal (P : Program) (w : World) (K : PySem.W.Frag) (mg : Str → Option Value) (base : Heap) (k : Nat) (x : Str) (ps : List Str) (sp : Sp) : Prop := ∃ (f : Addr) (fd : FuncData), mg x = some (.ref f) ∧ PySem.W.keepIn K (.ref f) = true ∧ Binds K fd ps [] ∧ FnOk P w K mg base CX0 k f fd ps sp
def CalG (P : Program) (w : World) (K : PySem.W.Frag) (mg : Str → Option Value) (base : Heap) (k : Nat) (x : Str) (ps : List Str) (sp : Sp) : Prop := ∃ (f : Addr) (fd : FuncData), mg x = some (.ref f) ∧ PySem.W.keepIn K (.ref f) = true ∧ Binds K fd ps [] ∧ FnG P w K mg base k f fd ps sp
section
variable {X : Cx} {j k : Nat} {ps : List Str} {sp : Sp} {x : Str} {p pos : Pos} {e : Expr} {es : List Expr} {t : TA}
theorem pe_cal (C : Cal X.prog X.w X.K X.mg X.base k x ps sp) (hr : Room j X.A) (hk : k ≤ j) (hx : Passes CX0 X E0) (hg : Gl X x) (ha : PA X (e :: es) t) (hdb : (x == ("__debug__" : Str)) = false := by decide) (he : starEach (e :: es) X.env = (false, eval e X.env) :: starEach es X.env := by rfl) (hpl : (backTo pos (starEach es X.env)).any (·.1) = false := by rfl) : PE X (.Call (.Name x p) (e :: es) [] pos) (tCall sp [] E0 t) := by
  obtain ⟨f, fd, h1, h2, h3, h4⟩ := C
  exact pe_call h4 (hr.mono hk) hg h1 h2 h3 .nil hx ha hdb he hpl
theorem pe_calG (C : CalG X.prog X.w X.K X.mg X.base k x ps sp) (hr : Room j X.A) (hk : k ≤ j) (hgd : X.A.guards = some []) (hg : Gl X x) (ha : PA X (e :: es) t) (hdb : (x == ("__debug__" : Str)) = false := by decide) (he : starEach (e :: es) X.env = (false, eval e X.env) :: starEach es X.env := by rfl) (hpl : (backTo pos (starEach es X.env)).any (·.1) = false := by rfl) : PE X (.Call (.Name x p) (e :: es) [] pos) (tCall sp [] E0 t) := by
  obtain ⟨f, fd, h1, h2, h3, h4⟩ := C
  exact pe_callG h4 (hr.mono hk) hgd hg h1 h2 h3 ha hdb he hpl
end
section
variable {w : World} {P : Program} {base : Heap} {K : PySem.W.Frag} {mg : Str → Option Value}
/-- one entry of the law's list, as the loops meet it -/
structure Met (P : Program) (w : World) (K : PySem.W.Frag) (mg : Str → Option Value) (base : Heap) (H : Hp) (m m' fl u : Addr) (i : EI) : Prop where
  a : ExcV H m i.C i.fs
  b : ExcV H m' i.C i.fs
  l : LamG P w K mg base H fl i.flds
  d : H u = some (.lst i.due)
  xf : XfC K i.C
  no : ∀ f ∈ i.flds, PySem.W.findIn K (.ref i.C) f = some none
  mp : i.flds.map (fun f => i.fs.lookup f) = i.due.map some
  due : DueOk K H i.due
theorem ItemsD.n {H H' : Hp} (k : ExtN H H') : ∀ {vs : List V} {ds : List PyData}, ItemsD K H vs ds → ItemsD K H' vs ds
  | _, _, .nil => .nil
  | _, _, .cons a t => .cons (a.n k) (ItemsD.n k t)
theorem LamG.n {H H' : Hp} {f : Addr} {flds : List Str} (x : LamG P w K mg base H f flds) (k : ExtN H H') : LamG P w K mg base H' f flds := by
  obtain ⟨F, bE, h1, h2, h3, h4⟩ := x
  exact ⟨F, bE, k _ _ h1 lamO_ne, k _ _ h2 codeO_ne, h3, h4⟩
theorem Met.n {H H' : Hp} {m m' fl u : Addr} {i : EI} (M : Met P w K mg base H m m' fl u i) (k : ExtN H H') : Met P w K mg base H' m m' fl u i :=
  ⟨M.a.n k, M.b.n k, M.l.n k, k _ _ M.d (fun ps z => nomatch z), M.xf, M.no, M.mp, let ⟨ds, h1, h2⟩ := M.due; ⟨ds, h1.n k, h2⟩⟩
theorem lam_read {H : Hp} {σ : L2.St} {a m fl C : Addr} {fs : List (Str × V)} {flds : List Str} {due : List V} {i jm : Nat} {Q : VK} (h1 : LamG P w K mg base H fl flds) (h2 : ExcV H m C fs) (h3 : XfC K C) (h4 : ∀ f ∈ flds, PySem.W.findIn K (.ref C) f = some none) (h5 : flds.map (fun f => fs.lookup f) = due.map some)
    (hi : σ[i]? = some (some (.ref fl))) (hm : σ[jm]? = some (some (.ref m))) (k : ∀ p, H p = none → Q (.ref p) (upd H p (.lst due))) : tCallLam P w K mg base CX0 1 i E0 (tCons (tVar jm) tNil) σ H Q := by
  obtain ⟨F, bE, y1, y2, y3, y4⟩ := h1
  exact ⟨fl, F, bE, ["_law_e"], spF K flds, hi, y4, y3, y1, _, hm, y1, y2, m, C, fs, due, rfl, h2, h3, h4, h5, k⟩
theorem these_read {H : Hp} {σ : L2.St} {m fl u C : Addr} {fs : List (Str × V)} {flds : List Str} {due : List V} {i jm ju : Nat} {Q : Bool → Hp → Prop} (h1 : LamG P w K mg base H fl flds) (h2 : ExcV H m C fs) (h3 : XfC K C) (h4 : ∀ f ∈ flds, PySem.W.findIn K (.ref C) f = some none) (h5 : flds.map (fun f => fs.lookup f) = due.map some)
    (h6 : H u = some (.lst due)) (h7 : DueOk K H due) (hi : σ[i]? = some (some (.ref fl))) (hm : σ[jm]? = some (some (.ref m))) (hu : σ[ju]? = some (some (.ref u))) (k : ∀ H2, Same H H2 → Q false H2) :
    tNot (tB (tCall (spThese K) [] E0 (tCons (tCallLam P w K mg base CX0 1 i E0 (tCons (tVar jm) tNil)) (tCons (tVar ju) tNil)))) σ H Q := by
  refine lam_read (a := m) h1 h2 h3 h4 h5 hi hm fun p hp => ?_
  have s : Same H (upd H p (.lst due)) := same_upd hp
  refine ⟨_, hu, p, u, due, rfl, upd_same, s _ _ h6, ?_, true, rfl, k _ s⟩
  obtain ⟨ds, z1, z2⟩ := h7
  exact ⟨ds, z1.n (ExtN.of s), z2⟩
theorem Met.s {H H' : Hp} {m m' fl u : Addr} {i : EI} (M : Met P w K mg base H m m' fl u i) (k : Same H H') : Met P w K mg base H' m m' fl u i := M.n (ExtN.of k)
/-- if not these(field(mine), due) or not these(field(twin), due): return False -/
theorem chk_read {H : Hp} {σ : L2.St} {D : Ends} {m m' fl u : Addr} {i : EI} {tr : TS} (M : Met P w K mg base H m m' fl u i) (hm : σ[9]? = some (some (.ref m))) (hm' : σ[10]? = some (some (.ref m'))) (hf : σ[11]? = some (some (.ref fl))) (hu : σ[12]? = some (some (.ref u)))
    (k : ∀ H2, Same H H2 → D.nx σ H2) :
    tIfS (tOr (tNot (tB (tCall (spThese K) [] E0 (tCons (tCallLam P w K mg base CX0 1 11 E0 (tCons (tVar 9) tNil)) (tCons (tVar 12) tNil))))) (tNot (tB (tCall (spThese K) [] E0 (tCons (tCallLam P w K mg base CX0 1 11 E0 (tCons (tVar 10) tNil)) (tCons (tVar 12) tNil)))))) tr tNext D σ H := by
  dsimp only [tIfS, tOr]
  refine these_read M.l M.a M.xf M.no M.mp M.d M.due hf hm hu fun H1 s1 => ?_
  refine iteF ?_
  have M1 := M.s s1
  refine these_read M1.l M1.b M1.xf M1.no M1.mp M1.d M1.due hf hm' hu fun H2 s2 => ?_
  refine iteF ?_
  exact k H2 fun b o e => s2 b o (s1 b o e)
theorem own_read {H : Hp} {σ : L2.St} {m i : Nat} {fs : List (Str × V)} {jm ja : Nat} {Q : Bool → Hp → Prop} (hi : i ≤ 42) (he : ExcV H m (cls K i) fs) (hm : σ[jm]? = some (some (.ref m))) (ha : σ[ja]? = some (some (.int (i : Int)))) (k : ∀ H2, Same H H2 → Q false H2) :
    tNot (tB (tCall (spIsOwn K) [] E0 (tCons (tVar jm) (tCons (tVar ja) tNil)))) σ H Q :=
  ⟨_, hm, _, ha, m, i, fs, rfl, hi, he, fun H2 s => ⟨true, rfl, k H2 s⟩⟩
theorem own2_read {H : Hp} {σ : L2.St} {D : Ends} {m m' i : Nat} {fs : List (Str × V)} {tr : TS} (hi : i ≤ 42) (he : ExcV H m (cls K i) fs) (he' : ExcV H m' (cls K i) fs) (hm : σ[9]? = some (some (.ref m))) (hm' : σ[10]? = some (some (.ref m'))) (ha : σ[8]? = some (some (.int (i : Int)))) (k : ∀ H2, Same H H2 → D.nx σ H2) :
    tIfS (tOr (tNot (tB (tCall (spIsOwn K) [] E0 (tCons (tVar 9) (tCons (tVar 8) tNil))))) (tNot (tB (tCall (spIsOwn K) [] E0 (tCons (tVar 10) (tCons (tVar 8) tNil)))))) tr tNext D σ H := by
  dsimp only [tIfS, tOr]
  refine own_read hi he hm ha fun H1 s1 => ?_
  refine iteF ?_
  refine own_read hi (he'.same s1) hm' ha fun H2 s2 => ?_
  refine iteF ?_
  exact k H2 fun b o e => s2 b o (s1 b o e)
/-- what the law leans on -/
structure Lean0 (P : Program) (w : World) (K : PySem.W.Frag) (mg : Str → Option Value) (base : Heap) (T : List (Addr × Str)) : Prop where
  start : Cal P w K mg base 1 "_law_start" ["_law_script"] (spStart K)
  mixed : Cal P w K mg base 2 "_law_mixed" ["_law_stream", "_law_some"] (spMixed K)
  madeA : Cal P w K mg base 3 "_law_made_a" ["_law_x", "_law_y", "_law_z"] (spMade P w K mg base T (infoA K))
  madeB : Cal P w K mg base 3 "_law_made_b" ["_law_x", "_law_y", "_law_z"] (spMade P w K mg base T (infoB K))
  madeC : Cal P w K mg base 3 "_law_made_c" ["_law_x", "_law_y", "_law_z"] (spMade P w K mg base T (infoC K))
  own : Cal P w K mg base 3 "_law_is_own" ["_law_e", "_law_at"] (spIsOwn K)
  kinds : Cal P w K mg base 2 "_law_kinds" ["_law_e"] (spKinds K allJ)
  these : CalG P w K mg base 1 "_law_are_these" ["_law_found", "_law_due"] (spThese K)
  X : TX P w K mg base
  K0 : TK K mg
  D : TxtD K mg
  enu : mg "enumerate" = none
  pe : PySem.W.excIn K (cls K 43) [.type "ValueError", .type "Exception", .type "BaseException", .type "object"] "ValueError.__new__" = true
  pk : PySem.W.keepIn K (.ref (cls K 43)) = true
abbrev LX (P : Program) (w : World) (K : PySem.W.Frag) (mg : Str → Option Value) (base : Heap) (f : Addr) (cdv : Value) (A : Around) (outer : List Env) (s : Shared) (H : Hp) (E : XK) : Cx := (cxOf CX0 P w K mg base NL "law" (defScope sLaw) f cdv A outer s H E).nox
def lawSt (i : Nat) : Stmt := (defBody sLaw).getD i (.Pass ⟨0, 0, 0, 0⟩)
def forBody (s : Stmt) : List Stmt := match s with
  | .For _ _ b _ _ => b
  | _ => []
section
variable {T : List (Addr × Str)} {f : Addr} {cdv : Value} {A : Around} {outer : List Env} {s : Shared} {H : Hp} {E : XK}
/-- the body of the first loop's inner loop -/
theorem body1 (L : Lean0 P w K mg base T) (hr : Room 3 (LX P w K mg base f cdv A outer s H E).A) (hg : (LX P w K mg base f cdv A outer s H E).A.guards = some []) : ∃ t, PSs (LX P w K mg base f cdv A outer s H E) (forBody ((forBody (lawSt 2)).getD 2 (.Pass ⟨0, 0, 0, 0⟩))) t ∧
    ∀ (D : Ends) (σ : L2.St) (H1 : Hp) (m m' fl u : Addr) (j : Nat) (i : EI), j ≤ 42 → i.C = cls K j → Met P w K mg base H1 m m' fl u i → σ[8]? = some (some (.int (j : Int))) → σ[9]? = some (some (.ref m)) → σ[10]? = some (some (.ref m')) → σ[11]? = some (some (.ref fl)) → σ[12]? = some (some (.ref u)) →
      (∀ H2, Same H1 H2 → D.nx σ H2) → t D σ H1 := by
  refine ⟨_, pss_cons (ps_if (PW.pt (pw_or (pt_not (pt_val (pe_cal L.own hr (by decide) pass0 (by rfl) (pa_cons (pv 9) (pa_cons (pv 8) pa_nil))))) (pw_or1 (pt_not (pt_val (pe_cal L.own hr (by decide) pass0 (by rfl) (pa_cons (pv 10) (pa_cons (pv 8) pa_nil)))))))) (pss_one (ps_ret pe_bl)) pss_nil)
    (pss_one (ps_if (PW.pt (pw_or (pt_not (pt_val (pe_calG L.these hr (by decide) hg (by rfl) (pa_cons (pe_callLam (k := 1) (i := 11) hr (by decide) pass0 rfl (.inl rfl) (pa_cons (pv 9) pa_nil)) (pa_cons (pv 12) pa_nil))))) (pw_or1 (pt_not (pt_val (pe_calG L.these hr (by decide) hg (by rfl) (pa_cons (pe_callLam (k := 1) (i := 11) hr (by decide) pass0 rfl (.inl rfl) (pa_cons (pv 10) pa_nil)) (pa_cons (pv 12) pa_nil)))))))) (pss_one (ps_ret pe_bl)) pss_nil)), ?_⟩
  intro D σ H1 m m' fl u j i hj hC M h8 h9 h10 h11 h12 k
  refine own2_read hj (hC ▸ M.a) (hC ▸ M.b) h9 h10 h8 fun H2 s2 => ?_
  exact chk_read (M.s s2) h9 h10 h11 h12 fun H3 s3 => k H3 fun b o e => s3 b o (s2 b o e)
theorem body2 (L : Lean0 P w K mg base T) (hr : Room 3 (LX P w K mg base f cdv A outer s H E).A) (hg : (LX P w K mg base f cdv A outer s H E).A.guards = some []) : ∃ t, PSs (LX P w K mg base f cdv A outer s H E) (forBody (lawSt 6)) t ∧
    ∀ (D : Ends) (σ : L2.St) (H1 : Hp) (m m' fl u : Addr) (i : EI), Met P w K mg base H1 m m' fl u i → σ[9]? = some (some (.ref m)) → σ[10]? = some (some (.ref m')) → σ[11]? = some (some (.ref fl)) → σ[12]? = some (some (.ref u)) →
      (∀ H2, Same H1 H2 → D.nx σ H2) → t D σ H1 := by
  refine ⟨_, pss_one (ps_if (PW.pt (pw_or (pt_not (pt_val (pe_calG L.these hr (by decide) hg (by rfl) (pa_cons (pe_callLam (k := 1) (i := 11) hr (by decide) pass0 rfl (.inl rfl) (pa_cons (pv 9) pa_nil)) (pa_cons (pv 12) pa_nil))))) (pw_or1 (pt_not (pt_val (pe_calG L.these hr (by decide) hg (by rfl) (pa_cons (pe_callLam (k := 1) (i := 11) hr (by decide) pass0 rfl (.inl rfl) (pa_cons (pv 10) pa_nil)) (pa_cons (pv 12) pa_nil)))))))) (pss_one (ps_ret pe_bl)) pss_nil), ?_⟩
  intro D σ H1 m m' fl u i M h9 h10 h11 h12 k
  exact chk_read M h9 h10 h11 h12 k
end
end
end Mine
namespace Mine
open PySem L2 PySem.Spec PyProof.Rows LamX NdefX
/-- what is new in H' -/
def NewIn (H H' : Hp) : Hp := fun b => if (H b).isSome then none else H' b
theorem newIn_at {H H' : Hp} {b : Addr} {o : HO} (h : H b = none) (h' : H' b = some o) : NewIn H H' b = some o := by
  unfold NewIn
  rw [h]
  exact h'
theorem newIn_mono {H H' H'' : Hp} (s : Same H' H'') : Same (NewIn H H') (NewIn H H'') := fun b o e => by
  unfold NewIn at e ⊢
  cases h : (H b).isSome with
  | true =>
    rw [h] at e
    cases e
  | false =>
    rw [h] at e
    exact s b o e
section
variable {w : World} {P : Program} {base : Heap} {K : PySem.W.Frag} {mg : Str → Option Value}
variable {T : List (Addr × Str)} {f : Addr} {cdv : Value} {A : Around} {outer : List Env} {s : Shared} {H0 : Hp} {E : XK}
theorem some_ok : ∃ t, PS (LX P w K mg base f cdv A outer s H0 E) (lawSt 1) t ∧ ∀ (D : Ends) (σ : L2.St) (H : Hp),
    (∀ (b : Addr) (xs : List V) (H' : Hp), Same H H' → H b = none → H' b = some (.lst xs) → xs.length = 15 → (∀ v ∈ xs, Drw K (NewIn H H') v) → D.nx (σ.set 2 (some (.ref b))) H') → t D σ H := by
  refine ⟨_, ps_set (i := 2) scL.nd rfl (Or.inl rfl) (pe_lst (pa_cons pe_non (pa_cons pe_int (pa_cons (pe_un un_neg pe_int) (pa_cons pe_bl (pa_cons pe_str (pa_cons pe_str (pa_cons (pe_lst (pa_cons pe_int (pa_cons pe_str pa_nil))) (pa_cons (pe_tup (pa_cons pe_int (pa_cons pe_non pa_nil)))
    (pa_cons (pe_disp (pps_cons pe_str pe_int pps_nil) (by rfl) (by rfl) (fun z => by cases z) (by decide)) (pa_cons (pe_lst (pa_cons (pe_lst (pa_cons pe_str pa_nil)) pa_nil)) (pa_cons (pe_op op_pow pe_int pe_int) (pa_cons (pe_tup (pa_cons pe_str (pa_cons pe_int pa_nil))) (pa_cons pe_bl (pa_cons pe_int (pa_cons pe_int pa_nil)))))))))))))))), ?_⟩
  intro D σ H k
  refine ⟨_, rfl, (by show 2 ≤ sizeLine; decide), fun p1 n1 => ?_⟩
  have s1 : Same H (upd H p1 (.lst [.int 1, .str "b"])) := same_upd n1
  have a1 : (upd H p1 (.lst [.int 1, .str "b"])) p1 = some (.lst [.int 1, .str "b"]) := upd_same
  generalize upd H p1 (.lst [.int 1, .str "b"]) = H1 at s1 a1 ⊢
  refine ⟨(by show 2 ≤ sizeLine; decide), fun p2 n2 => ?_⟩
  have s2 : Same H1 (upd H1 p2 (.tup [.int 2, .non])) := same_upd n2
  have a2 : (upd H1 p2 (.tup [.int 2, .non])) p2 = some (.tup [.int 2, .non]) := upd_same
  generalize upd H1 p2 (.tup [.int 2, .non]) = H2 at s2 a2 ⊢
  intro p3 n3
  refine ⟨upd_same, [(Sum.inr "a", .int 1)], rfl, by decide, ?_⟩
  have s3 : Same H2 (upd (upd H2 p3 (.dK [])) p3 (.dK [(Sum.inr "a", .int 1)])) := fun b o e => by
    rw [upd_ne (ne_of_none e n3), upd_ne (ne_of_none e n3)]
    exact e
  have a3 : (upd (upd H2 p3 (.dK [])) p3 (.dK [(Sum.inr "a", .int 1)])) p3 = some (.dK [(Sum.inr "a", .int 1)]) := upd_same
  have em : mergeK [] [((Sum.inr "a" : Key), V.int 1)] = [((Sum.inr "a" : Key), V.int 1)] := by decide +kernel
  rw [em]
  generalize upd (upd H2 p3 (.dK [])) p3 (.dK [(Sum.inr "a", .int 1)]) = H3 at s3 a3 ⊢
  refine ⟨(by show 1 ≤ sizeLine; decide), fun p4 n4 => ?_⟩
  have s4 : Same H3 (upd H3 p4 (.lst [.str "x"])) := same_upd n4
  have a4 : (upd H3 p4 (.lst [.str "x"])) p4 = some (.lst [.str "x"]) := upd_same
  generalize upd H3 p4 (.lst [.str "x"]) = H4 at s4 a4 ⊢
  refine ⟨(by show 1 ≤ sizeLine; decide), fun p5 n5 => ?_⟩
  have s5 : Same H4 (upd H4 p5 (.lst [.ref p4])) := same_upd n5
  have a5 : (upd H4 p5 (.lst [.ref p4])) p5 = some (.lst [.ref p4]) := upd_same
  generalize upd H4 p5 (.lst [.ref p4]) = H5 at s5 a5 ⊢
  refine ⟨_, _, rfl, rfl, ⟨by decide, by decide, by decide⟩, ?_⟩
  refine ⟨(by show 2 ≤ sizeLine; decide), fun p6 n6 => ?_⟩
  have s6 : Same H5 (upd H5 p6 (.tup [.str "s", .int 3])) := same_upd n6
  have a6 : (upd H5 p6 (.tup [.str "s", .int 3])) p6 = some (.tup [.str "s", .int 3]) := upd_same
  generalize upd H5 p6 (.tup [.str "s", .int 3]) = H6 at s6 a6 ⊢
  refine ⟨(by show 15 ≤ sizeLine; decide), fun b nb => ?_⟩
  dsimp only
  have s01 : Same H H1 := s1
  have s02 : Same H H2 := fun b o e => s2 b o (s01 b o e)
  have s03 : Same H H3 := fun b o e => s3 b o (s02 b o e)
  have s04 : Same H H4 := fun b o e => s4 b o (s03 b o e)
  have s05 : Same H H5 := fun b o e => s5 b o (s04 b o e)
  have s06 : Same H H6 := fun b o e => s6 b o (s05 b o e)
  have back : ∀ {G : Hp} {p : Addr}, Same H G → G p = none → H p = none := fun {G p} sg n => by
    cases e : H p with
    | none => rfl
    | some o =>
      rw [sg p o e] at n
      cases n
  have m2 := back s01 n2
  have m3 := back s02 n3
  have m4 := back s03 n4
  have m5 := back s04 n5
  have m6 := back s05 n6
  have mb := back s06 nb
  have s7 : Same H6 (upd H6 b (.lst [.non, .int 5, .int (-1), .bl true, .str "a", .str "", .ref p1, .ref p2, .ref p3, .ref p5, .int (10 ^ (30 : Int).toNat), .ref p6, .bl false, .int 0, .int 1])) := same_upd nb
  refine k b [.non, .int 5, .int (-1), .bl true, .str "a", .str "", .ref p1, .ref p2, .ref p3, .ref p5, .int (10 ^ (30 : Int).toNat), .ref p6, .bl false, .int 0, .int 1] _ (fun b o e => s7 b o (s06 b o e)) mb upd_same rfl ?_
  have f1 : H6 p1 = some (.lst [.int 1, .str "b"]) := s6 _ _ (s5 _ _ (s4 _ _ (s3 _ _ (s2 _ _ a1))))
  have f2 : H6 p2 = some (.tup [.int 2, .non]) := s6 _ _ (s5 _ _ (s4 _ _ (s3 _ _ a2)))
  have f3 : H6 p3 = some (.dK [(Sum.inr "a", .int 1)]) := s6 _ _ (s5 _ _ (s4 _ _ a3))
  have f4 : H6 p4 = some (.lst [.str "x"]) := s6 _ _ (s5 _ _ a4)
  have f5 : H6 p5 = some (.lst [.ref p4]) := s6 _ _ a5
  generalize upd H6 b (.lst [.non, .int 5, .int (-1), .bl true, .str "a", .str "", .ref p1, .ref p2, .ref p3, .ref p5, .int (10 ^ (30 : Int).toNat), .ref p6, .bl false, .int 0, .int 1]) = H7 at s7
  have g1 := newIn_at n1 (s7 _ _ f1)
  have g2 := newIn_at m2 (s7 _ _ f2)
  have g3 := newIn_at m3 (s7 _ _ f3)
  have g4 := newIn_at m4 (s7 _ _ f4)
  have g5 := newIn_at m5 (s7 _ _ f5)
  have g6 := newIn_at m6 (s7 _ _ a6)
  intro v hv
  simp only [List.mem_cons, List.not_mem_nil, or_false] at hv
  rcases hv with rfl | rfl | rfl | rfl | rfl | rfl | rfl | rfl | rfl | rfl | rfl | rfl | rfl | rfl | rfl
  · exact ⟨.none, (List.mem_of_getElem? (i := 0) rfl), .inl ⟨.non, rfl⟩⟩
  · exact ⟨.int 5, (List.mem_of_getElem? (i := 1) rfl), .inl ⟨.int 5, rfl⟩⟩
  · exact ⟨.int (-1), (List.mem_of_getElem? (i := 2) rfl), .inl ⟨.int (-1), rfl⟩⟩
  · exact ⟨.bool true, (List.mem_of_getElem? (i := 3) rfl), .inl ⟨.bl true, rfl⟩⟩
  · exact ⟨.str "a", (List.mem_of_getElem? (i := 4) rfl), .inl ⟨.str "a", rfl⟩⟩
  · exact ⟨.str "", (List.mem_of_getElem? (i := 5) rfl), .inl ⟨.str "", rfl⟩⟩
  · exact ⟨.list [.int 1, .str "b"], (List.mem_of_getElem? (i := 6) rfl), .inl ⟨.lst (SqL.of g1) (.cons (.int 1) (.cons (.str "b") .nil)), rfl⟩⟩
  · exact ⟨.tuple [.int 2, .none], (List.mem_of_getElem? (i := 7) rfl), .inl ⟨.tup (SqT.of g2) (.cons (.int 2) (.cons .non .nil)), rfl⟩⟩
  · exact ⟨.dict [(.str "a", .int 1)], (List.mem_of_getElem? (i := 8) rfl), .inr ⟨p3, "a", 1, rfl, g3, rfl⟩⟩
  · exact ⟨.list [.list [.str "x"]], (List.mem_of_getElem? (i := 9) rfl), .inl ⟨.lst (SqL.of g5) (.cons (.lst (SqL.of g4) (.cons (.str "x") .nil)) .nil), rfl⟩⟩
  · exact ⟨.int (10 ^ (30 : Int).toNat), (List.mem_of_getElem? (i := 10) rfl), .inl ⟨.int _, rfl⟩⟩
  · exact ⟨.tuple [.str "s", .int 3], (List.mem_of_getElem? (i := 11) rfl), .inl ⟨.tup (SqT.of g6) (.cons (.str "s") (.cons (.int 3) .nil)), rfl⟩⟩
  · exact ⟨.bool false, (List.mem_of_getElem? (i := 12) rfl), .inl ⟨.bl false, rfl⟩⟩
  · exact ⟨.int 0, (List.mem_of_getElem? (i := 13) rfl), .inl ⟨.int 0, rfl⟩⟩
  · exact ⟨.int 1, (List.mem_of_getElem? (i := 14) rfl), .inl ⟨.int 1, rfl⟩⟩
end
end Mine
namespace Mine
open PySem L2 PySem.Spec PyProof.Rows LamX NdefX
section
variable {w : World} {P : Program} {base : Heap} {K : PySem.W.Frag} {mg : Str → Option Value}
variable {T : List (Addr × Str)} {f : Addr} {cdv : Value} {A : Around} {outer : List Env} {s0 : Shared} {H0 : Hp} {E : XK}
def EntF (P : Program) (w : World) (K : PySem.W.Frag) (mg : Str → Option Value) (base : Heap) (hh : Addr) (H : Hp) (v : V) (i : EI) : Prop := ∃ t m m' fl u : Addr, v = .ref t ∧ H t = some (.tup [.ref m, .ref m', .ref fl, .ref u]) ∧ ExcV H m i.C i.fs ∧ ExcV H m' i.C i.fs ∧ LamG P w K mg base H fl i.flds ∧ H u = some (.lst i.due) ∧ u ≠ hh
theorem Entry.toF {L0 : Addr → Prop} {l hh : Addr} {H : Hp} {v : V} {i : EI} (x : Entry P w K mg base L0 l H v i) (hL : L0 hh) : EntF P w K mg base hh H v i := by
  obtain ⟨t, m, m', fl, u, h1, h2, h3, h4, h5, h6, _, h8⟩ := x
  exact ⟨t, m, m', fl, u, h1, h2, h3, h4, h5, h6, fun e => h8 (e ▸ hL)⟩
theorem EntF.n {hh : Addr} {H H' : Hp} (k : ExtN H H') {v : V} {i : EI} (x : EntF P w K mg base hh H v i) : EntF P w K mg base hh H' v i := by
  obtain ⟨t, m, m', fl, u, h1, h2, h3, h4, h5, h6, h7⟩ := x
  exact ⟨t, m, m', fl, u, h1, k _ _ h2 (fun ps z => nomatch z), h3.n k, h4.n k, h5.n k, k _ _ h6 (fun ps z => nomatch z), h7⟩
theorem EntF.xb {hh : Addr} {H H' : Hp} {ws : List V} (hl : H hh = some (.lst ws)) (k : XB hh H H') {v : V} {i : EI} (x : EntF P w K mg base hh H v i) : EntF P w K mg base hh H' v i := by
  obtain ⟨t, m, m', fl, u, h1, h2, h3, h4, h5, h6, h7⟩ := x
  exact ⟨t, m, m', fl, u, h1, k _ _ h2 (at_l hl h2 fun xs z => nomatch z) (fun ps z => nomatch z), h3.xb hl k, h4.xb hl k, h5.xb hl k, k _ _ h6 h7 (fun ps z => nomatch z), h7⟩
/-- the list made of the three, its entries -/
structure Made (P : Program) (w : World) (K : PySem.W.Frag) (mg : Str → Option Value) (base : Heap) (hh : Addr) (H : Hp) (md : Addr) (es : List V) (is : List EI) (x y : V) : Prop where
  at_ : H md = some (.lst es)
  ent : EntriesOk (EntF P w K mg base hh H) es is
  iok : IOks K x y 0 is
  len : is.length = 43
  dx : Drw K H x
  dy : Drw K H y
theorem Made.s {hh : Addr} {H H' : Hp} {md : Addr} {es : List V} {is : List EI} {x y : V} (M : Made P w K mg base hh H md es is x y) (k : Same H H') : Made P w K mg base hh H' md es is x y :=
  ⟨k _ _ M.at_, M.ent.imp fun v i r => r.n (ExtN.of k), M.iok, M.len, M.dx.n (ExtN.of k), M.dy.n (ExtN.of k)⟩
theorem Made.met (L : Lean0 P w K mg base T) {hh : Addr} {H : Hp} {md : Addr} {es : List V} {is : List EI} {x y : V} (M : Made P w K mg base hh H md es is x y) {j : Nat} {v : V} (h : es[j]? = some v) :
    ∃ (i : EI) (t m m' fl u : Addr), j ≤ 42 ∧ i.C = cls K j ∧ v = .ref t ∧ H t = some (.tup [.ref m, .ref m', .ref fl, .ref u]) ∧ Met P w K mg base H m m' fl u i := by
  obtain ⟨i, h1, t, m, m', fl, u, h2, h3, h4, h5, h6, h7, _⟩ := M.ent.get h
  have hj : j < 43 := by
    rw [← M.len]
    exact (List.getElem?_eq_some_iff.mp h1).1
  have z := M.iok.get h1
  rw [Nat.zero_add] at z
  refine ⟨i, t, m, m', fl, u, by omega, z.C, h2, h3, ⟨h4, h5, h6, h7, ?_, z.no, z.mp, due_of M.dx M.dy z.due⟩⟩
  rw [z.C]
  exact L.K0.xf j (by omega)
theorem loop1 (L : Lean0 P w K mg base T) (hr : Room 3 (LX P w K mg base f cdv A outer s0 H0 E).A) (hg : (LX P w K mg base f cdv A outer s0 H0 E).A.guards = some []) : ∃ t, PS (LX P w K mg base f cdv A outer s0 H0 E) ((forBody (lawSt 2)).getD 2 (.Pass ⟨0, 0, 0, 0⟩)) t ∧
    ∀ (D : Ends) (v0 v1 v2 v3 v4 v5 v6 o8 o9 o10 o11 o12 o13 o14 : Option V) (hh md : Addr) (H : Hp) (es : List V) (is : List EI) (x y : V), Made P w K mg base hh H md es is x y →
      (∀ o8 o9 o10 o11 o12 H', Same H H' → D.nx [v0, v1, v2, v3, v4, v5, v6, some (.ref md), o8, o9, o10, o11, o12, o13, o14] H') → t D [v0, v1, v2, v3, v4, v5, v6, some (.ref md), o8, o9, o10, o11, o12, o13, o14] H := by
  obtain ⟨tb, hb, rb⟩ := body1 (f := f) (cdv := cdv) (A := A) (outer := outer) (s := s0) (H := H0) (E := E) L hr hg
  refine ⟨_, ps_for PassesOwn.never rfl (pi_enum (by rfl) L.enu (pa_cons (pv 7) pa_nil)) (pg_tup rfl (pgs_cons (pg_name (i := 8) scL.nd rfl (Or.inl rfl)) (pgs_cons (pg_tup rfl (pgs_cons (pg_name (i := 9) scL.nd rfl (Or.inl rfl)) (pgs_cons (pg_name (i := 10) scL.nd rfl (Or.inl rfl)) (pgs_cons (pg_name (i := 11) scL.nd rfl (Or.inl rfl)) (pgs_cons (pg_name (i := 12) scL.nd rfl (Or.inl rfl)) pgs_nil))))) pgs_nil))) hb, ?_⟩
  intro D v0 v1 v2 v3 v4 v5 v6 o8 o9 o10 o11 o12 o13 o14 hh md H es is x y M k
  refine ⟨_, rfl, md, es, rfl, SqL.of M.at_, ?_⟩
  refine for_enum (K := K) (a := md) (xs := es) (fun j σ H1 => ∃ o8 o9 o10 o11 o12, σ = [v0, v1, v2, v3, v4, v5, v6, some (.ref md), o8, o9, o10, o11, o12, o13, o14] ∧ Same H H1) ⟨o8, o9, o10, o11, o12, rfl, fun _ _ e => e⟩ ?_ ?_ ?_
  · rintro j σ H1 hj ⟨_, _, _, _, _, _, s1⟩
    exact SqL.of (s1 _ _ M.at_)
  · rintro j v Tp σ H1 hj ⟨p8, p9, p10, p11, p12, rfl, s1⟩ hn
    have s2 : Same H1 (upd H1 Tp (.tup [.int (j : Int), v])) := same_upd hn
    have M2 := (M.s s1).s s2
    obtain ⟨i, t, m, m', fl, u, hj2, hC, rfl, ht, Mt⟩ := M2.met L hj
    have s12 : Same H (upd H1 Tp (.tup [.int (j : Int), .ref t])) := fun b o e => s2 b o (s1 b o e)
    refine ⟨Tp, _, rfl, SqT.of upd_same, rfl, _, _, rfl, _, _, rfl, t, _, rfl, SqT.of ht, rfl, _, _, rfl, _, _, rfl, _, _, rfl, _, _, rfl, rfl, rfl, ?_⟩
    refine rb _ _ _ m m' fl u j i hj2 hC Mt rfl rfl rfl rfl rfl fun H2 s3 => ?_
    exact ⟨_, _, _, _, _, rfl, fun b o e => s3 b o (s12 b o e)⟩
  · rintro σ H1 ⟨p8, p9, p10, p11, p12, rfl, s1⟩
    exact k _ _ _ _ _ H1 s1
end
end Mine
namespace Mine
open PySem L2 PySem.Spec PyProof.Rows LamX NdefX
section
variable {w : World} {P : Program} {base : Heap} {K : PySem.W.Frag} {mg : Str → Option Value}
variable {T : List (Addr × Str)} {f : Addr} {cdv : Value} {A : Around} {outer : List Env} {s0 : Shared} {H0 : Hp} {E : XK}
theorem loop2 (L : Lean0 P w K mg base T) (hr : Room 3 (LX P w K mg base f cdv A outer s0 H0 E).A) (hg : (LX P w K mg base f cdv A outer s0 H0 E).A.guards = some []) : ∃ t, PS (LX P w K mg base f cdv A outer s0 H0 E) (lawSt 6) t ∧
    ∀ (D : Ends) (v0 v1 v2 v3 v4 v5 v6 o8 o9 o10 o11 o12 o13 o14 : Option V) (hh md : Addr) (H : Hp) (es : List V) (is : List EI) (x y : V), Made P w K mg base hh H md es is x y →
      (∀ o9 o10 o11 o12 H', Same H H' → D.nx [v0, v1, v2, v3, v4, v5, v6, some (.ref md), o8, o9, o10, o11, o12, o13, o14] H') → t D [v0, v1, v2, v3, v4, v5, v6, some (.ref md), o8, o9, o10, o11, o12, o13, o14] H := by
  obtain ⟨tb, hb, rb⟩ := body2 (f := f) (cdv := cdv) (A := A) (outer := outer) (s := s0) (H := H0) (E := E) L hr hg
  refine ⟨_, ps_for PassesOwn.never rfl (pi_list (pv 7)) (pg_tup rfl (pgs_cons (pg_name (i := 9) scL.nd rfl (Or.inl rfl)) (pgs_cons (pg_name (i := 10) scL.nd rfl (Or.inl rfl)) (pgs_cons (pg_name (i := 11) scL.nd rfl (Or.inl rfl)) (pgs_cons (pg_name (i := 12) scL.nd rfl (Or.inl rfl)) pgs_nil))))) hb, ?_⟩
  intro D v0 v1 v2 v3 v4 v5 v6 o8 o9 o10 o11 o12 o13 o14 hh md H es is x y M k
  refine ⟨_, rfl, md, rfl, ⟨es, SqL.of M.at_⟩, ?_⟩
  refine for_list (K := K) (a := md) (xs := es) (fun j σ H1 => ∃ o9 o10 o11 o12, σ = [v0, v1, v2, v3, v4, v5, v6, some (.ref md), o8, o9, o10, o11, o12, o13, o14] ∧ Same H H1) ⟨o9, o10, o11, o12, rfl, fun _ _ e => e⟩ ?_ ?_ ?_
  · rintro j σ H1 hj ⟨_, _, _, _, _, s1⟩
    exact SqL.of (s1 _ _ M.at_)
  · rintro j v σ H1 hj ⟨p9, p10, p11, p12, rfl, s1⟩
    have M2 := M.s s1
    obtain ⟨i, t, m, m', fl, u, hj2, hC, rfl, ht, Mt⟩ := M2.met L hj
    refine ⟨t, _, rfl, SqT.of ht, rfl, _, _, rfl, _, _, rfl, _, _, rfl, _, _, rfl, rfl, ?_⟩
    refine rb _ _ _ m m' fl u i Mt rfl rfl rfl rfl fun H2 s3 => ?_
    exact ⟨_, _, _, _, rfl, fun b o e => s3 b o (s1 b o e)⟩
  · rintro σ H1 ⟨p9, p10, p11, p12, rfl, s1⟩
    exact k _ _ _ _ H1 s1
theorem cut3 {ys : List V} (h : ys.length = 15) : ∃ a b c, cutV ys none (some 3) = [a, b, c] ∧ a ∈ ys ∧ b ∈ ys ∧ c ∈ ys := by
  match ys, h with
  | a :: b :: c :: r, h =>
    refine ⟨a, b, c, ?_, by simp, by simp, by simp⟩
    have e : cutV (a :: b :: c :: r) none (some 3) = ((a :: b :: c :: r).drop (HT.sIx (a :: b :: c :: r).length 0 none)).take (HT.sIx (a :: b :: c :: r).length (a :: b :: c :: r).length (some 3) - HT.sIx (a :: b :: c :: r).length 0 none) := rfl
    rw [e, h]
    rfl
/-- made = a(..) + b(..) + c(..) -/
theorem made_read (L : Lean0 P w K mg base T) {σ : L2.St} {H : Hp} {jx jy jz : Nat} {x y z : V} {Q : VK} (hx : σ[jx]? = some (some x)) (hy : σ[jy]? = some (some y)) (hz : σ[jz]? = some (some z)) (hT : Tabs T H) (dx : Drw K H x) (dy : Drw K H y) {hh : Addr} {ws : List V} (hw : H hh = some (.lst ws))
    (k : ∀ md es H', ExtN H H' → Tabs T H' → Made P w K mg base hh H' md es (infoA K x y ++ infoB K x y ++ infoC K x y) x y → Q (.ref md) H') :
    tOp rCat (tOp rCat (tCall (spMade P w K mg base T (infoA K)) [] E0 (tCons (tVar jx) (tCons (tVar jy) (tCons (tVar jz) tNil)))) (tCall (spMade P w K mg base T (infoB K)) [] E0 (tCons (tVar jx) (tCons (tVar jy) (tCons (tVar jz) tNil)))))
      (tCall (spMade P w K mg base T (infoC K)) [] E0 (tCons (tVar jx) (tCons (tVar jy) (tCons (tVar jz) tNil)))) σ H Q := by
  refine ⟨_, hx, _, hy, _, hz, x, y, z, rfl, hT, fun la ea Ha Ma => ?_⟩
  refine ⟨_, hx, _, hy, _, hz, x, y, z, rfl, Ma.tabs, fun lb eb Hb Mb => ?_⟩
  have a2 : Hb la = some (.lst ea) := Mb.ext _ _ Ma.at_ fun ps z => nomatch z
  have la' : ea.length = 18 := by rw [Ma.ent.len]; rfl
  have lb' : eb.length = 18 := by rw [Mb.ent.len]; rfl
  refine ⟨la, lb, ea, eb, rfl, rfl, a2, Mb.at_, Nat.le_trans (by omega : _ ≤ 1000) (by decide), fun ab nab => ?_⟩
  have s1 : Same Hb (upd Hb ab (.lst (ea ++ eb))) := same_upd nab
  have a3 : (upd Hb ab (.lst (ea ++ eb))) ab = some (.lst (ea ++ eb)) := upd_same
  generalize upd Hb ab (.lst (ea ++ eb)) = H3 at s1 a3 ⊢
  refine ⟨_, hx, _, hy, _, hz, x, y, z, rfl, Mb.tabs.ext s1, fun lc ec Hc Mc => ?_⟩
  have a4 : Hc ab = some (.lst (ea ++ eb)) := Mc.ext _ _ a3 fun ps z => nomatch z
  have lc' : ec.length = 7 := by rw [Mc.ent.len]; rfl
  refine ⟨ab, lc, _, ec, rfl, rfl, a4, Mc.at_, Nat.le_trans (by rw [List.length_append]; omega : _ ≤ 1000) (by decide), fun md nmd => ?_⟩
  have s2 : Same Hc (upd Hc md (.lst (ea ++ eb ++ ec))) := same_upd nmd
  have a5 : (upd Hc md (.lst (ea ++ eb ++ ec))) md = some (.lst (ea ++ eb ++ ec)) := upd_same
  generalize upd Hc md (.lst (ea ++ eb ++ ec)) = H5 at s2 a5 ⊢
  have n1 : ExtN Ha H5 := ((Mb.ext.trans (ExtN.of s1)).trans Mc.ext).trans (ExtN.of s2)
  have n2 : ExtN Hb H5 := ((ExtN.of s1).trans Mc.ext).trans (ExtN.of s2)
  have n0 : ExtN H H5 := Ma.ext.trans n1
  exact k md _ H5 n0 (Mc.tabs.ext s2) ⟨a5, ((Ma.ent.imp fun v i r => (r.toF ⟨ws, hw⟩).n n1).app (Mb.ent.imp fun v i r => (r.toF ⟨ws, Ma.ext _ _ hw fun ps z => nomatch z⟩).n n2)).app (Mc.ent.imp fun v i r => (r.toF ⟨ws, s1 _ _ (Mb.ext _ _ (Ma.ext _ _ hw fun ps z => nomatch z) fun ps z => nomatch z)⟩).n (ExtN.of s2)), ioks_all L.X x y, rfl, dx.n n0, dy.n n0⟩
/-- the heap without the stream -/
def Hid (st q : Addr) (H : Hp) : Hp := fun b => if b = st ∨ b = q then none else H b
theorem hid_n {st q : Addr} {H H' : Hp} (k : ∀ b o, H b = some o → b ≠ st → b ≠ q → H' b = some o) : Same (Hid st q H) (Hid st q H') := fun b o e => by
  unfold Hid at e ⊢
  by_cases h : b = st ∨ b = q
  · rw [if_pos h] at e
    cases e
  · rw [if_neg h] at e ⊢
    exact k b o e (fun z => h (.inl z)) (fun z => h (.inr z))
theorem hid_le {st q : Addr} {H : Hp} : Same (Hid st q H) H := fun b o e => by
  unfold Hid at e
  by_cases h : b = st ∨ b = q
  · rw [if_pos h] at e
    cases e
  · rw [if_neg h] at e
    exact e
theorem hid_ext {st q : Addr} {H H' : Hp} (k : ExtN H H') : ExtN (Hid st q H) (Hid st q H') := fun b o e n => by
  unfold Hid at e ⊢
  by_cases h : b = st ∨ b = q
  · rw [if_pos h] at e
    cases e
  · rw [if_neg h] at e ⊢
    exact k b o e n
/-- what holds between two turns -/
structure LS (K : PySem.W.Frag) (T : List (Addr × Str)) (H : Hp) (st q sm : Addr) (cs : List Int) (l n m : Int) (xs : List V) : Prop where
  S : Strm H st q cs l n m
  at_ : H sm = some (.lst xs)
  ns : sm ≠ st
  nq : sm ≠ q
  len : xs.length = 15
  it : ∀ v ∈ xs, Drw K (Hid st q H) v
  tabs : Tabs T H
theorem tabs_keep {H H' : Hp} {st q : Addr} {cs : List Int} {l n m : Int} (S : Strm H st q cs l n m) (t : Tabs T H) (k : ∀ b o, H b = some o → b ≠ st → b ≠ q → H' b = some o) : Tabs T H' := fun p hp => by
  obtain ⟨ps, a1, a2, a3⟩ := t p hp
  have n1 : p.1 ≠ st := ne_of a1 S.ha fun z => nomatch z
  have n2 : p.1 ≠ q := ne_of a1 S.hq fun z => nomatch z
  refine ⟨ps, k _ _ a1 n1 n2, a2, fun p' cv hcv => ?_⟩
  obtain ⟨c1, e1, e2⟩ := a3 p' cv hcv
  exact ⟨c1, e1, k _ _ e2 (ne_of e2 S.ha fun z => by unfold CodeO at z; cases z) (ne_of e2 S.hq fun z => by unfold CodeO at z; cases z)⟩
theorem Strm.n {H H' : Hp} {st q : Addr} {cs : List Int} {l n m : Int} (S : Strm H st q cs l n m) (k : ExtN H H') : Strm H' st q cs l n m :=
  ⟨k _ _ S.ha (fun ps z => nomatch z), k _ _ S.hq (fun ps z => nomatch z), S.l0, S.n0, S.m0, S.m1⟩
theorem turn (L : Lean0 P w K mg base T) (hr : Room 3 (LX P w K mg base f cdv A outer s0 H0 E).A) (hg : (LX P w K mg base f cdv A outer s0 H0 E).A.guards = some []) : ∃ t, PSs (LX P w K mg base f cdv A outer s0 H0 E) (forBody (lawSt 2)) t ∧
    ∀ (D : Ends) (v0 o3 o4 o5 o6 o7 o8 o9 o10 o11 o12 o13 o14 : Option V) (st q sm : Addr) (cs : List Int) (l n m : Int) (xs : List V) (H : Hp), n < 1000000 → LS K T H st q sm cs l n m xs →
      (∀ o4 o5 o6 o7 o8 o9 o10 o11 o12 cs' l' m' H', LS K T H' st q sm cs' l' (n + 15) m' xs → D.nx [v0, some (.ref st), some (.ref sm), o3, o4, o5, o6, o7, o8, o9, o10, o11, o12, o13, o14] H') →
      t D [v0, some (.ref st), some (.ref sm), o3, o4, o5, o6, o7, o8, o9, o10, o11, o12, o13, o14] H := by
  obtain ⟨tb, hb, rb⟩ := loop1 (f := f) (cdv := cdv) (A := A) (outer := outer) (s0 := s0) (H0 := H0) (E := E) L hr hg
  refine ⟨_, pss_cons (ps_asg (pe_slice sl_list (pe_cal L.mixed hr (by decide) pass0 (by rfl) (pa_cons (pv 1) (pa_cons (pv 2) pa_nil))) po_none (po_some pe_int)) (pg_unl rfl (pgs_cons (pg_name (i := 4) scL.nd rfl (Or.inl rfl)) (pgs_cons (pg_name (i := 5) scL.nd rfl (Or.inl rfl)) (pgs_cons (pg_name (i := 6) scL.nd rfl (Or.inl rfl)) pgs_nil)))))
    (pss_cons (ps_set (i := 7) scL.nd rfl (Or.inl rfl) (pe_op op_cat (pe_op op_cat (pe_cal L.madeA hr (by decide) pass0 (by rfl) (pa_cons (pv 4) (pa_cons (pv 5) (pa_cons (pv 6) pa_nil)))) (pe_cal L.madeB hr (by decide) pass0 (by rfl) (pa_cons (pv 4) (pa_cons (pv 5) (pa_cons (pv 6) pa_nil))))) (pe_cal L.madeC hr (by decide) pass0 (by rfl) (pa_cons (pv 4) (pa_cons (pv 5) (pa_cons (pv 6) pa_nil))))))
    (pss_one hb)), ?_⟩
  intro D v0 o3 o4 o5 o6 o7 o8 o9 o10 o11 o12 o13 o14 st q sm cs l n m xs H hn I k
  refine ⟨_, rfl, _, rfl, st, q, sm, cs, l, n, m, xs, rfl, I.S, by omega, SqL.of I.at_, I.ns, I.nq, by rw [I.len]; decide, fun p ys cs2 l2 m2 H1 np hp hys hlen S1 k1 => ?_⟩
  rw [I.len] at S1 hlen
  refine ⟨3, rfl, p, ys, rfl, SqL.of hp, fun p2 np2 => ?_⟩
  obtain ⟨a, b, c, ec, ma, mb, mc⟩ := cut3 hlen
  rw [ec]
  have s2 : Same H1 (upd H1 p2 (.lst [a, b, c])) := same_upd np2
  have hp2 : (upd H1 p2 (.lst [a, b, c])) p2 = some (.lst [a, b, c]) := upd_same
  generalize upd H1 p2 (.lst [a, b, c]) = H2 at s2 hp2 ⊢
  refine ⟨p2, _, rfl, SqL.of hp2, rfl, _, _, rfl, _, _, rfl, _, _, rfl, rfl, ?_⟩
  have S2 : Strm H2 st q cs2 l2 (n + 15) m2 := S1.n (ExtN.of s2)
  have d1 : ∀ v ∈ xs, Drw K (Hid st q H2) v := fun v hv => ((I.it v hv).n (ExtN.of (hid_n k1))).n (hid_ext (ExtN.of s2))
  have t2 : Tabs T H2 := (tabs_keep I.S I.tabs k1).ext s2
  have sm2 : H2 sm = some (.lst xs) := s2 _ _ (k1 _ _ I.at_ I.ns I.nq)
  refine made_read L (σ := [v0, some (.ref st), some (.ref sm), o3, some a, some b, some c, o7, o8, o9, o10, o11, o12, o13, o14]) rfl rfl rfl t2 ((d1 a (hys a ma)).n (ExtN.of hid_le)) ((d1 b (hys b mb)).n (ExtN.of hid_le)) sm2 fun md es H3 n3 t3 M3 => ?_
  refine rb _ _ _ _ _ _ _ _ _ _ _ _ _ _ _ sm md H3 es _ a b M3 fun p8 p9 p10 p11 p12 H4 s4 => ?_
  have n4 : ExtN H2 H4 := n3.trans (ExtN.of s4)
  exact k _ _ _ _ _ _ _ _ _ cs2 l2 m2 H4 ⟨S2.n n4, n4 _ _ sm2 (fun ps z => nomatch z), I.ns, I.nq, I.len, fun v hv => (d1 v hv).n (hid_ext n4), t3.ext s4⟩
end
end Mine
namespace Mine
open PySem L2 PySem.Spec PyProof.Rows LamX NdefX
section
variable {w : World} {P : Program} {base : Heap} {K : PySem.W.Frag} {mg : Str → Option Value}
variable {T : List (Addr × Str)} {f : Addr} {cdv : Value} {A : Around} {outer : List Env} {s0 : Shared} {H0 : Hp} {E : XK}
theorem kindV_43 : inV (.bl true) (kindV 43 allJ) = false ∧ (kindV 43 allJ).all flatV = true := by decide +kernel
def spLaw (K : PySem.W.Frag) (T : List (Addr × Str)) : Sp := fun vs H Q _ => ∃ (a : Addr) (ns : List Int), vs = [.ref a] ∧ SqL K H a (ns.map V.int) ∧ Tabs T H ∧ ∀ H', Q (.bl true) H'
theorem ok_law {fd : FuncData} (F : Fun K "law" "law" sLaw f fd) (L : Lean0 P w K mg base T) : FnG P w K mg base 4 f fd ["_law_script"] (spLaw K T) := by
  refine Fun.okG F scL (fun vs H Q E h => ?_) (fun cdv A outer s H vs Q E hr hg h => ?_)
  · obtain ⟨a, ns, rfl, _⟩ := h
    rfl
  · obtain ⟨a0, ns, rfl, hS, hT, kk⟩ := h
    obtain ⟨t1, h1, r1⟩ := some_ok (P := P) (w := w) (K := K) (mg := mg) (base := base) (f := f) (cdv := cdv) (A := A) (outer := outer) (s := s) (H0 := H) (E := E)
    obtain ⟨t2, h2, r2⟩ := turn (f := f) (cdv := cdv) (A := A) (outer := outer) (s0 := s) (H0 := H) (E := E) L hr hg
    obtain ⟨t6, h6, r6⟩ := loop2 (f := f) (cdv := cdv) (A := A) (outer := outer) (s0 := s) (H0 := H) (E := E) L hr hg
    refine ⟨_, pss_cons (ps_set (i := 1) scL.nd rfl (Or.inl rfl) (pe_cal L.start hr (by decide) pass0 (by rfl) (pa_cons (pv 0) pa_nil)))
      (pss_cons h1
      (pss_cons (ps_for PassesOwn.never rfl (pi_range1 (by rfl) L.D.range (pa_cons pe_int pa_nil)) (pg_name (i := 3) scL.nd rfl (Or.inl rfl)) h2)
      (pss_cons (ps_set (i := 13) scL.nd rfl (Or.inl rfl) (pe_lst (pa_cons pe_str pa_nil)))
      (pss_cons (ps_set (i := 7) scL.nd rfl (Or.inl rfl) (pe_op op_cat (pe_op op_cat (pe_cal L.madeA hr (by decide) pass0 (by rfl) (pa_cons (pv 13) (pa_cons (pv 13) (pa_cons (pv 13) pa_nil)))) (pe_cal L.madeB hr (by decide) pass0 (by rfl) (pa_cons (pv 13) (pa_cons (pv 13) (pa_cons (pv 13) pa_nil))))) (pe_cal L.madeC hr (by decide) pass0 (by rfl) (pa_cons (pv 13) (pa_cons (pv 13) (pa_cons (pv 13) pa_nil))))))
      (pss_cons (ps_expr (pe_bm PySem.F.plainAttrs_list PySem.F.slot_list_append PySem.F.type_list_append mt_append (pv 13) (pa_cons pe_str pa_nil)))
      (pss_cons h6
      (pss_cons (ps_set (i := 14) scL.nd rfl (Or.inl rfl) (pe_x0 PySem.F.excBase_ValueError L.pe (L.K0.g 43 (by decide)) L.pk (by rfl)))
      (pss_one (ps_ret (pe_and (pe_callB call_isX (by rfl) L.K0.isi (by decide +kernel) (pa_cons (pv 14) (pa_cons (pe_bltn (v := .ty "ValueError") (by rfl) L.K0.ve (by decide +kernel) rfl) pa_nil)))
        (pe_one (pe_cmpR op_notIn_seq pe_bl (pe_cal L.kinds hr (by decide) pass0 (by rfl) (pa_cons (pv 14) pa_nil)) rfl)))))))))))), ?_⟩
    refine ⟨_, rfl, a0, ns, rfl, hS, fun st q H1 nst s1 S1 => ?_⟩
    refine r1 _ _ H1 fun sm xs H2 s2 nsm hsm hlen hit => ?_
    have n12 : ∀ b, b = st ∨ b = q → (H1 b).isSome = true := fun b hb => by
      rcases hb with rfl | rfl
      · rw [S1.ha]; rfl
      · rw [S1.hq]; rfl
    have sub : Same (NewIn H1 H2) (Hid st q H2) := fun b o e => by
      unfold NewIn at e
      unfold Hid
      by_cases hb : b = st ∨ b = q
      · rw [n12 b hb] at e
        cases e
      · rw [if_neg hb]
        cases hx : (H1 b).isSome with
        | true =>
          rw [hx] at e
          cases e
        | false =>
          rw [hx] at e
          exact e
    have I0 : LS K T H2 st q sm ns 0 0 11 xs := ⟨S1.n (ExtN.of s2), hsm, (fun e => by rw [e, S1.ha] at nsm; cases nsm), (fun e => by rw [e, S1.hq] at nsm; cases nsm), hlen, fun v hv => (hit v hv).n (ExtN.of sub), (hT.ext s1).ext s2⟩
    refine ⟨2, rfl, by decide, by decide, ?_⟩
    refine for_range (lo := 0) (n := 2) (fun j σ H' => ∃ o3 o4 o5 o6 o7 o8 o9 o10 o11 o12 o13 o14 cs l n m, σ = [some (.ref a0), some (.ref st), some (.ref sm), o3, o4, o5, o6, o7, o8, o9, o10, o11, o12, o13, o14] ∧ n = 15 * (j : Int) ∧ LS K T H' st q sm cs l n m xs) ?_ ?_ ?_
    · exact ⟨_, _, _, _, _, _, _, _, _, _, _, _, ns, 0, 0, 11, rfl, by omega, I0⟩
    · rintro j σ H' hj ⟨o3, o4, o5, o6, o7, o8, o9, o10, o11, o12, o13, o14, cs, l, n, m, rfl, hn, I⟩
      refine r2 _ _ _ _ _ _ _ _ _ _ _ _ _ _ st q sm cs l n m xs H' (by omega) I fun p4 p5 p6 p7 p8 p9 p10 p11 p12 cs2 l2 m2 H3 I3 => ?_
      exact ⟨_, _, _, _, _, _, _, _, _, _, _, _, cs2, l2, n + 15, m2, rfl, by omega, I3⟩
    · rintro σ H3 ⟨o3, o4, o5, o6, o7, o8, o9, o10, o11, o12, o13, o14, cs, l, n, m, rfl, hn, I⟩
      refine ⟨(by show 1 ≤ sizeLine; decide), fun h nh => ?_⟩
      have s4 : Same H3 (upd H3 h (.lst [.str "v"])) := same_upd nh
      have a4 : (upd H3 h (.lst [.str "v"])) h = some (.lst [.str "v"]) := upd_same
      have t4 : Tabs T (upd H3 h (.lst [.str "v"])) := I.tabs.ext s4
      generalize upd H3 h (.lst [.str "v"]) = H4 at s4 a4 t4 ⊢
      have dh : Drw K H4 (.ref h) := ⟨.list [.str "v"], List.mem_of_getElem? (i := 16) rfl, .inl ⟨.lst (SqL.of a4) (.cons (.str "v") .nil), rfl⟩⟩
      refine made_read L (σ := [some (.ref a0), some (.ref st), some (.ref sm), o3, o4, o5, o6, o7, o8, o9, o10, o11, o12, some (.ref h), o14]) rfl rfl rfl t4 dh dh a4 fun md es H5 n5 t5 M5 => ?_
      have a5 : H5 h = some (.lst [.str "v"]) := n5 _ _ a4 fun ps z => nomatch z
      refine ⟨_, rfl, .inl ⟨rfl, _, SqL.of a5⟩, h, _, _, rfl, rfl, a5, (by show 1 < sizeLine; decide), ?_⟩
      have x6 : XB h H5 (upd H5 h (.lst ([.str "v"] ++ [.str "w"]))) := fun b o e hb _ => by
        rw [upd_ne hb]
        exact e
      have a6 : (upd H5 h (.lst ([.str "v"] ++ [.str "w"]))) h = some (.lst [.str "v", .str "w"]) := upd_same
      have nmd : md ≠ h := fun e => by
        have y1 := M5.at_
        rw [e, a5] at y1
        have y2 := congrArg List.length (HO.lst.inj (Option.some.inj y1))
        have y3 := M5.ent.len
        have y4 := M5.len
        simp at y2
        omega
      have dw : Drw K (upd H5 h (.lst ([.str "v"] ++ [.str "w"]))) (.ref h) := ⟨.list [.str "v", .str "w"], List.mem_of_getElem? (i := 15) rfl, .inl ⟨.lst (SqL.of a6) (.cons (.str "v") (.cons (.str "w") .nil)), rfl⟩⟩
      have M6 : Made P w K mg base h (upd H5 h (.lst ([.str "v"] ++ [.str "w"]))) md es _ (.ref h) (.ref h) := ⟨x6 _ _ M5.at_ nmd (fun ps z => nomatch z), M5.ent.imp fun v i r => r.xb a5 x6, M5.iok, M5.len, dw, dw⟩
      generalize upd H5 h (.lst ([.str "v"] ++ [.str "w"])) = H6 at M6
      refine r6 _ _ _ _ _ _ _ _ _ _ _ _ _ _ _ h md H6 es _ _ _ M6 fun p9 p10 p11 p12 H7 s7 => ?_
      intro e H8 ne s8 he
      refine ⟨_, rfl, ?_⟩
      dsimp only [tCons, tNil, tC, tCB]
      refine is_readB (i := 43) (c := .ty "ValueError") (cv := .type "ValueError") L.K0 (by decide) he (fun u r => r) (L.K0.kitV 43 (by decide)) ⟨true, rfl, ?_⟩
      refine iteT ?_
      refine ⟨_, rfl, e, 43, [], rfl, by decide, he, fun p H9 np s9 hp => ?_⟩
      obtain ⟨z1, z2⟩ := kindV_43
      refine ⟨p, _, rfl, .inl (SqL.of hp), rfl, z2, ?_⟩
      rw [z1]
      exact kk H9
end
end Mine
namespace Mine
open LamX L2 PySem PySem.Spec PyProof.Rows
section
variable {P : Program} {w : World} {K : PySem.W.Frag} {mg mb : Str → Option Value} {k : Nat} {fa a : Addr} {cs : List (Addr × Addr)} {tb : List Addr} {fd : FuncData} {x : Str} {sp : Sp} {s1 : Shared} {vs : List Value} {ns : List Int}
/-- the script's list -/
abbrev lstO (vs : List Value) : Obj := { cls := .type "list", data := .seq vs.toArray }
abbrev emptyO : Obj := { cls := .none, data := .fields #[] }
/-- the heap that the law's call begins with: the script, if K does not hold it, and the empty tables -/
def Beg (K : PySem.W.Frag) (a : Addr) (tb : List Addr) (vs : List Value) (ns : List Int) : Hp := fun b => if b ∈ tb then some (.tbl #[]) else if b = a ∧ (K.lookup a).isNone then some (.frz (lstO vs) (.lst (ns.map V.int))) else none
theorem beg_cases (b : Addr) : (b ∈ tb ∧ Beg K a tb vs ns b = some (.tbl #[])) ∨ (b ∉ tb ∧ b = a ∧ K.lookup a = none ∧ Beg K a tb vs ns b = some (.frz (lstO vs) (.lst (ns.map V.int)))) ∨ (b ∉ tb ∧ Beg K a tb vs ns b = none) := by
  unfold Beg
  by_cases h : b ∈ tb
  · exact .inl ⟨h, if_pos h⟩
  · by_cases e : b = a ∧ (K.lookup a).isNone
    · exact .inr (.inl ⟨h, e.1, Option.isNone_iff_eq_none.mp e.2, by rw [if_neg h, if_pos e]⟩)
    · exact .inr (.inr ⟨h, by rw [if_neg h, if_neg e]⟩)
/-- what is neither a row of things nor an empty table is not tracked -/
theorem beg_off {b : Addr} {o : Obj} (h1 : ∀ b ∈ tb, s1.heap.get? b = some emptyO) (h2 : s1.heap.get? a = some (lstO vs)) (ho : s1.heap.get? b = some o) (n1 : o.data ≠ .fields #[]) (n2 : ∀ us n, o.data ≠ .seq us n) : Beg K a tb vs ns b = none := by
  rcases beg_cases (K := K) (a := a) (tb := tb) (vs := vs) (ns := ns) b with ⟨h, _⟩ | ⟨_, rfl, _⟩ | ⟨_, e⟩
  · have z := ho.symm.trans (h1 b h)
    cases z
    exact absurd rfl n1
  · have z := ho.symm.trans h2
    cases z
    exact absurd rfl (n2 _ _)
  · exact e
theorem beg_ns {b : Addr} {m : Str → Option Value} (h1 : ∀ b ∈ tb, s1.heap.get? b = some emptyO) (h2 : s1.heap.get? a = some (lstO vs)) (h : s1.heap.Ns b m) : (hidT s1.heap (Beg K a tb vs ns)).Ns b m := by
  obtain ⟨o, es, ep, e, d, r⟩ := h
  exact ⟨o, es, ep, hidT_get e (beg_off h1 h2 e (fun z => by rw [d] at z; cases z) fun _ _ z => by rw [d] at z; cases z), d, r⟩
theorem beg_kin (KX : K.In s1.heap) (h2 : s1.heap.get? a = some (lstO vs)) (nT : ∀ b ∈ tb, K.lookup b = none) : K.In (hidT s1.heap (Beg K a tb vs ns)) := fun b o e => by
  refine hidT_get (KX b o e) ?_
  rcases beg_cases (K := K) (a := a) (tb := tb) (vs := vs) (ns := ns) b with ⟨h, _⟩ | ⟨_, rfl, l, _⟩ | ⟨_, q⟩
  · rw [nT b h] at e
    cases e
  · rw [l] at e
    cases e
  · exact q
theorem beg_ok (h1 : ∀ b ∈ tb, s1.heap.get? b = some emptyO) (h2 : s1.heap.get? a = some (lstO vs)) (rv : Vals (ns.map V.int) vs) (hl : ns.length ≤ sizeLine) : HOk P w (Beg K a tb vs ns) s1.heap := fun b u z => by
  rcases beg_cases (K := K) (a := a) (tb := tb) (vs := vs) (ns := ns) b with ⟨h, q⟩ | ⟨_, rfl, _, q⟩ | ⟨_, q⟩
  · cases q.symm.trans z
    exact h1 b h
  · cases q.symm.trans z
    exact ⟨h2, by rw [List.length_map]; exact hl, vs, _, rv, h2⟩
  · cases q.symm.trans z
theorem beg_script (KX : K.In s1.heap) (h1 : ∀ b ∈ tb, s1.heap.get? b = some emptyO) (h2 : s1.heap.get? a = some (lstO vs)) (rv : Vals (ns.map V.int) vs) (hl : ns.length ≤ sizeLine) (hv : vs.length = ns.length) : SqL K (Beg K a tb vs ns) a (ns.map V.int) := by
  have na : a ∉ tb := fun z => by
    have q := (h1 a z).symm.trans h2
    cases q
  cases l : K.lookup a with
  | none => exact .inl (.inr ⟨lstO vs, by unfold Beg; rw [if_neg na, if_pos ⟨rfl, by rw [l]; rfl⟩]⟩)
  | some o =>
    have q := (KX a o l).symm.trans h2
    cases q
    exact .inr ⟨_, vs.toArray, _, l, rfl, rfl, rfl, by rw [List.size_toArray, hv]; exact hl, by simpa using rv⟩
theorem beg_tab {c t : Addr} (h1 : ∀ b ∈ tb, s1.heap.get? b = some emptyO) (h2 : s1.heap.get? a = some (lstO vs)) (hns : s1.heap.Ns mainGlobals mg) (ht : t ∈ tb) (C : PySem.W.CodeHd s1.heap c t) (hbm : ∃ (bm : Addr) (ob : Obj), mg "__builtins__" = some (.ref bm) ∧ bm ≠ builtinsNs ∧ s1.heap.get? bm = some ob ∧ ob.cls = .type "module" ∧ ob.dict = some builtinsNs ∧ ob.data = .plain) :
    TabB (hidT s1.heap (Beg K a tb vs ns)) mg c t := by
  obtain ⟨g, es, ep, g1, g2, _⟩ := hns
  refine ⟨?_, ?_, fun z => ?_⟩
  · obtain ⟨o, us, file, tf, flags, tg, inF, text, tt, e1, r1, r2, r3, rest⟩ := C
    refine ⟨o, us, file, tf, flags, tg, inF, text, tt, hidT_get e1 (beg_off h1 h2 e1 (fun z => ?_) fun _ _ z => ?_), r1, r2, r3, rest⟩ <;> rw [r2] at z <;> cases z
    simp at r3
  · obtain ⟨bi, ob, b1, b2, b3, b4, b5, b6⟩ := hbm
    refine ⟨bi, ob, b1, b2, fun q => ?_, fun q => ?_, hidT_get b3 (beg_off h1 h2 b3 (fun z => ?_) fun _ _ z => ?_), b4, b5, b6⟩
    · rw [q, g1] at b3
      cases b3
      rw [g2] at b6
      cases b6
    · rw [q, h1 t ht] at b3
      cases b3
      cases b6
    · rw [b6] at z
      cases z
    · rw [b6] at z
      cases z
  · have q := (h1 t ht).symm.trans (z ▸ g1)
    cases q
    cases g2
/-- the law's call, where its promise is kept with no repr under way -/
theorem call_law (KX : K.In s1.heap) (hns : s1.heap.Ns mainGlobals mg) (hb : s1.heap.Ns builtinsNs mb) (hbb : ∀ y : Str, y ≠ "__name__" → mb y = bootBuiltins y) (hlim : s1.heap.NoLimit) (hg : s1.gens = #[])
    (h1 : ∀ b ∈ cs.map (·.2), s1.heap.get? b = some emptyO) (nT : ∀ b ∈ cs.map (·.2), K.lookup b = none) (C : ∀ p ∈ cs, PySem.W.CodeHd s1.heap p.1 p.2)
    (hbm : ∃ (bm : Addr) (ob : Obj), mg "__builtins__" = some (.ref bm) ∧ bm ≠ builtinsNs ∧ s1.heap.get? bm = some ob ∧ ob.cls = .type "module" ∧ ob.dict = some builtinsNs ∧ ob.data = .plain)
    (h2 : s1.heap.get? a = some (lstO vs)) (hi : IntsAre vs ns) (hl : ns.length ≤ sizeLine) (hr : Room k callerA)
    (F : ∀ base : Heap, K.In base → base.Ns mainGlobals mg → (∀ p ∈ cs, TabB base mg p.1 p.2) → FnG P w K mg base k fa fd [x] sp) (hbind : ∀ (s : Shared) (u : Value), BindsTo s fd ⟨[u], []⟩ [(x, u)])
    (hsp : ∀ H : Hp, (∀ p ∈ cs, H p.2 = some (.tbl #[])) → SqL K H a (ns.map V.int) → sp [.ref a] H (fun v _ => v = .bl true) fun _ _ _ => False) :
    codeAny (model P w) callerA (.call (.ref fa) ⟨[.ref a], []⟩) (fun r s' => r = .ok (.ret (.bool true)) ∧ OldK s1.heap s'.heap ∧ s'.os = s1.os ∧ AllBare s'.gens) s1 := by
  have rv := vals_ints hi
  have hin : ∀ p ∈ cs, p.2 ∈ cs.map (·.2) := fun p hp => List.mem_map.mpr ⟨p, hp, rfl⟩
  have kin := beg_kin (a := a) (vs := vs) (ns := ns) KX h2 nT
  have nsB := beg_ns (K := K) (vs := vs) (ns := ns) h1 h2 hns
  have hok := beg_ok (P := P) (w := w) (K := K) h1 h2 rv hl
  have hM : L2.Mod K mg (hidT s1.heap (Beg K a (cs.map (·.2)) vs ns)) := ⟨kin, nsB, ⟨mb, beg_ns h1 h2 hb, hbb⟩, let ⟨mc, l1, l2⟩ := hlim; ⟨mc, beg_ns h1 h2 l1, l2⟩⟩
  have e0 : Env0 P w K mg (hidT s1.heap (Beg K a (cs.map (·.2)) vs ns)) callerA [] s1 (Beg K a (cs.map (·.2)) vs ns) := ⟨rfl, hM, fun b o e => of_hidT e, Nat.le_of_eq (hidT_size _ _), trivial, fun b hb => absurd (show b ∈ ([] : List Addr) from hb) (by simp), hok, .of_eq hg⟩
  have G := F _ kin nsB fun p hp => beg_tab h1 h2 hns (hin p hp) (C p hp) hbm
  have tbl : ∀ b ∈ cs.map (·.2), Beg K a (cs.map (·.2)) vs ns b = some (.tbl #[]) := fun b hb => if_pos hb
  have start := hsp _ (fun p hp => tbl _ (hin p hp)) (beg_script KX h1 h2 rv hl hi.length)
  generalize hH : Beg K a (cs.map (·.2)) vs ns = H at *
  refine codeAny_mono (G.does callerA [] s1 H ⟨[.ref a], []⟩ [.ref a] [.ref a] _ _ hr rfl e0 (hbind s1 (.ref a)) (.cons rfl .nil) start) fun r s2 h => ?_
  match r, h with
  | .ok (.ret u), ⟨v, H2, os, bare, un, hok2, ru, q⟩ =>
    have qv : v = .bl true := q
    subst qv
    obtain rfl : u = Value.bool true := ru
    have same : ∀ b o, b ∉ cs.map (·.2) → s1.heap.get? b = some o → s2.heap.get? b = some o := fun b o nb e => by
      have bc := beg_cases (K := K) (a := a) (tb := cs.map (·.2)) (vs := vs) (ns := ns) b
      rw [hH] at bc
      rcases bc with ⟨z, _⟩ | ⟨_, _, _, z⟩ | ⟨_, z⟩
      · exact absurd z nb
      · have z2 := un.frzs b _ _ z
        have y1 := (hok b _ z).1
        have y2 := (hok2 b _ z2).1
        rw [e] at y1
        rw [y2, y1]
      · exact un.keep b o e z (by simp [frs]) (by simp)
    have more : ∀ p ∈ cs, ∃ ps : Array Value, s2.heap.get? p.2 = some { cls := .none, data := .fields ps } := fun p hp => by
      obtain ⟨ps, z⟩ := un.tbls p.2 #[] (tbl _ (hin p hp))
      exact ⟨_, hok2 p.2 _ z⟩
    refine ⟨rfl, ⟨fun b o e => ?_, fun b o e => ?_⟩, os, bare⟩ <;> by_cases nb : b ∈ cs.map (·.2)
    · obtain ⟨p, hp, rfl⟩ := List.mem_map.mp nb
      obtain ⟨ps, hm⟩ := more p hp
      have z := e.symm.trans (h1 _ nb)
      cases z
      exact .inr (.inl ⟨((C p hp).tab (h1 _ nb)).isCodeTable, rfl, #[], ps, rfl, by rw [Array.empty_append]; exact hm⟩)
    · exact .inl (same b o nb e)
    · obtain ⟨p, hp, rfl⟩ := List.mem_map.mp nb
      obtain ⟨ps, hm⟩ := more p hp
      exact ⟨_, hm⟩
    · exact ⟨o, same b o nb e⟩
end
end Mine
namespace Mine
open PySem L2 PySem.Spec PyProof.Rows LamX NdefX
/-! ### what the written part is asked -/
/-- the __init__ of the i-th class -/
def inSt (i : Nat) : Stmt := match top (i + 2) with
  | .ClassDef _ _ _ b .. => b.getD 0 (.Pass ⟨0, 0, 0, 0⟩)
  | _ => .Pass ⟨0, 0, 0, 0⟩
def dS (i : Nat) (x : Str) : He.DefD := ⟨(x, none), x, x, defArgs (top i), defBody (top i), defScope (top i), [], []⟩
def dI (i : Nat) (x q : Str) : He.DefD := ⟨(x, some "__init__"), "__init__", q, defArgs (inSt i), defBody (inSt i), defScope (inSt i), [], []⟩
def fnL : List He.DefD := [dS 46 "_law_start", dS 47 "_law_draw", dS 48 "_law_mixed", dS 49 "_law_made_a", dS 50 "_law_made_b", dS 51 "_law_made_c", dS 52 "_law_kinds_a", dS 53 "_law_kinds_b", dS 54 "_law_kinds_c", dS 55 "_law_kinds", dS 56 "_law_is_own", dS 57 "_law_are_these", dS 58 "law", dI 0 "BadDeed" "BadDeed.__init__", dI 1 "BadForest" "BadForest.__init__", dI 2 "BadForm" "BadForm.__init__", dI 3 "BadHeight" "BadHeight.__init__", dI 4 "BadHollow" "BadHollow.__init__", dI 5 "BadKind" "BadKind.__init__", dI 6 "BadLosses" "BadLosses.__init__", dI 7 "BadLot" "BadLot.__init__", dI 8 "BadLots" "BadLots.__init__", dI 9 "BadName" "BadName.__init__", dI 10 "BadNest" "BadNest.__init__", dI 11 "BadNumber" "BadNumber.__init__", dI 12 "BadOrder" "BadOrder.__init__", dI 13 "BadParting" "BadParting.__init__", dI 14 "BadPicture" "BadPicture.__init__", dI 15 "BadPlaces" "BadPlaces.__init__", dI 16 "BadPrice" "BadPrice.__init__", dI 17 "BadPriced" "BadPriced.__init__", dI 18 "BadQuestion" "BadQuestion.__init__", dI 19 "BadRoots" "BadRoots.__init__", dI 20 "BadRows" "BadRows.__init__", dI 21 "BadSession" "BadSession.__init__", dI 22 "BadSharing" "BadSharing.__init__", dI 23 "BadTable" "BadTable.__init__", dI 24 "BadText" "BadText.__init__", dI 25 "BadTies" "BadTies.__init__", dI 26 "BadTold" "BadTold.__init__", dI 27 "BadWeb" "BadWeb.__init__", dI 28 "InUse" "InUse.__init__", dI 29 "IsThere" "IsThere.__init__", dI 30 "IsWatched" "IsWatched.__init__", dI 31 "NoCount" "NoCount.__init__", dI 32 "NoLot" "NoLot.__init__", dI 33 "NoParts" "NoParts.__init__", dI 34 "NoPlace" "NoPlace.__init__", dI 35 "NoRoot" "NoRoot.__init__", dI 36 "NoTie" "NoTie.__init__", dI 37 "NotThere" "NotThere.__init__", dI 38 "NotWatched" "NotWatched.__init__", dI 40 "SamePlace" "SamePlace.__init__", dI 41 "SavesNothing" "SavesNothing.__init__", dI 42 "WouldChange" "WouldChange.__init__"]
def faL : List He.Fa := [.glo "_law_start", .glo "_law_draw", .glo "_law_mixed", .glo "_law_made_a", .glo "_law_made_b", .glo "_law_made_c", .glo "_law_kinds_a", .glo "_law_kinds_b", .glo "_law_kinds_c", .glo "_law_kinds", .glo "_law_is_own", .glo "_law_are_these", .glo "law", .free "int", .free "list", .free "range", .free "len", .free "isinstance", .free "ValueError", .free "LookupError", .free "enumerate", .free "repr", .glo "BadDeed", .glo "BadForest", .glo "BadForm", .glo "BadHeight", .glo "BadHollow", .glo "BadKind", .glo "BadLosses", .glo "BadLot", .glo "BadLots", .glo "BadName", .glo "BadNest", .glo "BadNumber", .glo "BadOrder", .glo "BadParting", .glo "BadPicture", .glo "BadPlaces", .glo "BadPrice", .glo "BadPriced", .glo "BadQuestion", .glo "BadRoots", .glo "BadRows", .glo "BadSession", .glo "BadSharing", .glo "BadTable", .glo "BadText", .glo "BadTies", .glo "BadTold", .glo "BadWeb", .glo "InUse", .glo "IsThere", .glo "IsWatched", .glo "NoCount", .glo "NoLot", .glo "NoParts", .glo "NoPlace", .glo "NoRoot", .glo "NoTie", .glo "NotThere", .glo "NotWatched", .glo "OtherPlaces", .glo "SamePlace", .glo "SavesNothing", .glo "WouldChange", .glo "PartsError", .exc "PartsError", .exc "OtherPlaces"]
def excB (K : PySem.W.Frag) (D : Addr) : Bool := decide (PySem.W.findIn K (.ref D) "__getattribute__" = some (some (.builtin "BaseException.__getattribute__"))) && (decide (PySem.W.findIn K (.ref D) "__getattr__" = some none) && (decide (PySem.W.subIn K (.ref D) (.type "BaseException") = some true) && (PySem.W.hasDictIn K D &&
  (decide (PySem.W.findIn K (.ref D) "__class__" = some (some (.builtin "object.__class__"))) && decide (PySem.W.mroIn K D (.type "object") = some true)))))
def slotB (K : PySem.W.Frag) : Bool := decide (PySem.W.specialIn K (.builtin "object.__class__") "__get__" = some (some (.builtin "getset_descriptor.__get__"))) && decide (PySem.W.takesIn K (.builtin "object.__class__") = some true)
def shapeB (K : PySem.W.Frag) (C : Addr) : Bool := match K.lookup C with
  | some ⟨.type "type", _, .cls cl, sl⟩ => (match cl.mro, sl.toList with
    | .ref D :: bm, [_, _, _, _, some (.builtin m), _] => decide (D = C) && (decide (m = "ValueError.__new__") && (!cl.hasDel && (cl.hasDict && PySem.HandSPX.refsVE bm)))
    | _, _ => false)
  | _ => false
def oexB (K : PySem.W.Frag) (C : Addr) : Bool := shapeB K C && (decide (PySem.W.findIn K (.ref C) "__setattr__" = some (some (.builtin "object.__setattr__"))) && (decide (PySem.W.typeIn K (.ref C) = some (.type "type")) && PySem.W.keepIn K (.ref C)))
def iniB (K : PySem.W.Frag) (C : Addr) : Bool := decide (PySem.W.findIn K (.ref C) "__init__" = some (some (.ref (He.ma K C "__init__")))) && decide (PySem.W.typeIn K (.ref (He.ma K C "__init__")) = some (.type "function"))
def fldB (K : PySem.W.Frag) (C : Addr) (fs : List Str) : Bool := fs.all fun f => decide (PySem.W.findIn K (.ref C) f = some none)
def kitB (K : PySem.W.Frag) (i : Nat) : Bool := (List.range 43).all (fun j => decide (PySem.W.kitOne K (.ref (cls K i)) (.ref (cls K j)) = some (decide (i = j)))) && (decide (PySem.W.kitOne K (.ref (cls K i)) (.ref (cls K 43)) = some true) &&
  (decide (PySem.W.kitOne K (.ref (cls K i)) (.type "ValueError") = some true) && decide (PySem.W.kitOne K (.ref (cls K i)) (.type "LookupError") = some false)))
/-- the fields of the i-th class, the class without any apart -/
def ixA : List (Nat × List Str) := [(0, ["thing"]), (1, ["thing"]), (2, ["thing"]), (3, ["thing"]), (4, ["thing"]), (5, ["thing"]), (6, ["fault"]), (7, ["index"]), (8, ["index"]), (9, ["thing"]), (10, ["thing"]), (11, ["thing"]), (12, ["index"]), (13, ["thing"]), (14, ["thing"]), (15, ["index"]), (16, ["thing"]), (17, ["thing"]), (18, ["thing"]), (19, ["index"]), (20, ["index"])]
def ixB : List (Nat × List Str) := [(21, ["thing"]), (22, ["thing"]), (23, ["thing"]), (24, ["line", "sign"]), (25, ["index"]), (26, ["index"]), (27, ["thing"]), (28, ["question"]), (29, ["lot"]), (30, ["question"]), (31, ["thing"]), (32, ["thing"]), (33, ["lot"]), (34, ["thing"]), (35, ["place"]), (36, ["one", "other"]), (37, ["lot"]), (38, ["question"]), (40, ["thing"]), (41, ["lot"]), (42, ["question", "why"])]
def ixF : List (Nat × List Str) := ixA ++ ixB
def tfL : List He.Defn := [("_law_made_a", none), ("_law_made_b", none), ("_law_made_c", none)]
def apart (K : PySem.W.Frag) : Bool := decide ((He.cT K ("_law_made_a", none)).2 ≠ (He.cT K ("_law_made_b", none)).2) && (decide ((He.cT K ("_law_made_a", none)).2 ≠ (He.cT K ("_law_made_c", none)).2) && decide ((He.cT K ("_law_made_b", none)).2 ≠ (He.cT K ("_law_made_c", none)).2))
def exL (K : PySem.W.Frag) : Bool := slotB K && (apart K && ((List.range 44).all (fun i => excB K (cls K i) && kitB K i) && ixF.all fun p => oexB K (cls K p.1) && (iniB K (cls K p.1) && fldB K (cls K p.1) p.2)))
abbrev Rw : PySem.W.OpenRow := PySem.W.OpenLaw.row PySem.Challenge.rw_partswithin_k00_errors_made
abbrev hkL : PySem.W.Hook := He.hookX 4 faL fnL [] tfL exL
def obL (s : PySem.W.SharedT) : He.AlX := He.obsX 4 faL fnL [] tfL exL (HandSHeadRun.getT s)
theorem obL_eq (s : PySem.W.SharedT) : obL s = hkL.obs s.abs := He.obsX_eq (HandSHeadRun.getT_eq s)

def lsA : List Str := ["_law_start", "_law_draw", "_law_mixed", "_law_made_a", "_law_made_b", "_law_made_c", "_law_kinds_a", "_law_kinds_b", "_law_kinds_c", "_law_kinds", "_law_is_own", "_law_are_these", "PartsError", "BadDeed", "BadForest", "BadForm", "BadHeight", "BadHollow", "BadKind", "BadLosses", "BadLot", "BadLots", "BadName", "BadNest", "BadNumber", "BadOrder", "BadParting", "BadPicture", "BadPlaces", "BadPrice"]
def lsB : List Str := ["BadPriced", "BadQuestion", "BadRoots", "BadRows", "BadSession", "BadSharing", "BadTable", "BadText", "BadTies", "BadTold", "BadWeb", "InUse", "IsThere", "IsWatched", "NoCount", "NoLot", "NoParts", "NoPlace", "NoRoot", "NoTie", "NotThere", "NotWatched", "OtherPlaces", "SamePlace", "SavesNothing", "WouldChange"]
def lsL : List Str := lsA ++ lsB
theorem runL (w : World) : HandSHeadRun.RunEq Rw (PySem.W.view Rw.prog [58]) hkL obL 11500 lsL w := by
  intro os
  kernel_rfl
end Mine
namespace Mine
open PySem L2 PySem.Spec PyProof.Rows LamX NdefX
/-! ### from the head's facts to all that the law leans on -/
section
variable {w : World} {P : Program} {base : Heap} {K : PySem.W.Frag} {mg : Str → Option Value}
theorem plain_def {x q : Str} {st : Stmt} {f : Addr} {fd : FuncData} (F : FunD K x q (defArgs st) (defBody st) (defScope st) [] [] f fd) : Fun K x q st f fd := by
  obtain ⟨oc, od, dV, kV, doc, pm, an, cdv, ct, osl, e, lk, hcd, hD, _⟩ := F.ex
  rcases hD with ⟨_, rfl⟩ | ⟨n, _⟩
  · exact ⟨⟨oc, od, kV, doc, pm, an, cdv, ct, osl, e, lk, hcd⟩, F.kp⟩
  · exact absurd rfl n
theorem code_def {x q : Str} {st : Stmt} {p : He.Defn} {fd : FuncData} (F : FunD K x q (defArgs st) (defBody st) (defScope st) [] [] (He.fAd K p) fd) : FunC K x q st (He.fAd K p) fd (He.cT K p).1 := by
  obtain ⟨oc, od, dV, kV, doc, pm, an, cdv, ct, osl, e, lk, hcd, hD, _⟩ := F.ex
  rcases hD with ⟨_, rfl⟩ | ⟨n, _⟩
  · obtain ⟨c, rfl⟩ := He.codeIn_ref hcd
    have z : He.codeOf K p = c := He.codeOf_eq lk (by rw [e])
    have z2 : (He.cT K p).1 = c := z
    rw [z2]
    exact ⟨⟨oc, od, kV, doc, pm, an, ct, osl, e, lk, hcd⟩, F.kp⟩
  · exact absurd rfl n
theorem shape_ok {C : Addr} (h : shapeB K C = true) : ∃ nm q N bs bm sn sub ab col dd k0 k1 k2 k3 k5, K.lookup C = some (excClassObj nm q C N bs bm true sn sub ab col dd k0 k1 k2 k3 k5 "ValueError.__new__") ∧ PySem.HandSPX.refsVE bm = true := by
  unfold shapeB at h
  split at h
  · rename_i dd cd sl ho
    split at h
    · rename_i D bm k0 k1 k2 k3 m k5 hm hs
      simp only [Bool.and_eq_true, decide_eq_true_eq, Bool.not_eq_true'] at h
      obtain ⟨rfl, rfl, h3, h4, h5⟩ := h
      obtain ⟨nm, bs, up, ns, qn, hd, sn, sub, ab, col, del⟩ := cd
      dsimp only at hm h3 h4
      subst hm h3 h4
      obtain ⟨l⟩ := sl
      dsimp only at hs
      subst hs
      exact ⟨nm, qn, ns, bs, bm, sn, sub, ab, col, dd, k0, k1, k2, k3, k5, ho, h5⟩
    · cases h
  · cases h
theorem exc_x {D : Addr} (h : excB K D = true) (s : slotB K = true) : ExcC K D ∧ XfC K D := by
  unfold excB at h
  unfold slotB at s
  simp only [Bool.and_eq_true, decide_eq_true_eq] at h s
  obtain ⟨h1, h2, h3, h4, h5, h6⟩ := h
  exact ⟨⟨h1, h2, h3, h4, h5, s.1, s.2, h6⟩, ⟨h1, h2, h3, h4⟩⟩
theorem oex_x {C : Addr} (h : oexB K C = true) (x : excB K C = true) : OexC K C := by
  unfold oexB at h
  unfold excB at x
  simp only [Bool.and_eq_true, decide_eq_true_eq] at h x
  exact ⟨shape_ok h.1, h.2.1, x.2.2.1, h.2.2.1, h.2.2.2⟩
/-- what exL says of the i-th class -/
structure ClsOk (K : PySem.W.Frag) (i : Nat) (fs : List Str) : Prop where
  oex : OexC K (cls K i)
  ini : PySem.W.findIn K (.ref (cls K i)) "__init__" = some (some (.ref (He.ma K (cls K i) "__init__")))
  fn : PySem.W.typeIn K (.ref (He.ma K (cls K i) "__init__")) = some (.type "function")
  no : ∀ f ∈ fs, PySem.W.findIn K (.ref (cls K i)) f = some none
theorem exc_all (h : exL K = true) (i : Nat) (hi : i ≤ 43) : excB K (cls K i) = true ∧ kitB K i = true := by
  unfold exL at h
  exact He.ba (List.all_eq_true.mp (He.ba (He.ba (He.ba h).2).2).1 i (List.mem_range.mpr (by omega)))
theorem cls_all (h : exL K = true) (i : Nat) (fs : List Str) (hi : i ≤ 43) (hm : (i, fs) ∈ ixF) : ClsOk K i fs := by
  have x := (exc_all h i hi).1
  unfold exL at h
  obtain ⟨h1, h2⟩ := He.ba (List.all_eq_true.mp (He.ba (He.ba (He.ba h).2).2).2 (i, fs) hm)
  obtain ⟨h2, h3⟩ := He.ba h2
  unfold iniB at h2
  unfold fldB at h3
  simp only [decide_eq_true_eq, Bool.and_eq_true] at h2
  exact ⟨oex_x h1 x, h2.1, h2.2, fun f hf => of_decide_eq_true (List.all_eq_true.mp h3 f hf)⟩
theorem vals_rev : ∀ {b : List V} {d : List Value}, Vals b d → Vals b.reverse d.reverse
  | _, _, .nil => .nil
  | _, _, .cons r t => by
    simp only [List.reverse_cons]
    exact Vals.append (vals_rev t) (.cons r .nil)
theorem xc1_of {i : Nat} {x q p : Str} {st : Stmt} {fd : FuncData} {q1 q2 q3 q4 : Pos} (c : ClsOk K i [p]) (g : mg x = some (.ref (cls K i))) (F : FunD K "__init__" q (defArgs st) (defBody st) (defScope st) [] [] (He.ma K (cls K i) "__init__") fd)
    (hb : defBody st = [.Assign [.Attribute (.Name "self" q1) p q2] (.Name p q3) q4]) (S : FnScope ["self", p] ["self", p] (defScope st)) (h0 : (defScope st).names.lookup ("self" : Str) = some NameKind.local) (h1 : (defScope st).names.lookup p = some NameKind.local) (hd : (p == ("__debug__" : Str)) = false) (hcd : (p == ("__classdict__" : Str)) = false)
    (b1 : ∀ (kV doc pm : Value) (an : Option Addr) (cdv ct u v : Value), bindArgs (PySem.W.fnOf "__init__" q (defArgs st) (defBody st) (defScope st) .none kV doc pm an cdv ct) ⟨[u, v], []⟩ = pure [(("self" : Str), u), (p, v)])
    (b2 : ∀ (kV doc pm : Value) (an : Option Addr) (cdv ct u v : Value), bindArgs (PySem.W.fnOf "__init__" q (defArgs st) (defBody st) (defScope st) .none kV doc pm an cdv ct) ⟨[u], [(p, v)]⟩ = pure [(("self" : Str), u), (p, v)]) : XC1 P w K mg base x (cls K i) p p := by
  have F1 := plain_def F
  refine ⟨c.oex, c.no p (List.mem_cons_self ..), g, _, fd, c.ini, c.fn, ok_init1 F1 S hb h0 h1 hd hcd, F.bindsN fun kV doc pm an cdv ct us hl => ?_, ?_⟩
  · match us, hl with
    | [u, v], _ => exact b1 kV doc pm an cdv ct u v
  · obtain ⟨oc, od, kV, doc, pm, an, cdv, ct, osl, rfl, _, _⟩ := F1.ex
    refine ⟨fun s us ws _ hu hw => ?_, fun r z => Vals.append r z⟩
    match us, ws, hu, hw with
    | [u], [v], _, _ => exact .of_eq (b2 kV doc pm an cdv ct u v)
theorem xc2_of {i : Nat} {x q p r : Str} {st : Stmt} {fd : FuncData} {q1 q2 q3 q4 r1 r2 r3 r4 : Pos} (c : ClsOk K i [p, r]) (g : mg x = some (.ref (cls K i))) (F : FunD K "__init__" q (defArgs st) (defBody st) (defScope st) [] [] (He.ma K (cls K i) "__init__") fd)
    (hb : defBody st = [.Assign [.Attribute (.Name "self" q1) p q2] (.Name p q3) q4, .Assign [.Attribute (.Name "self" r1) r r2] (.Name r r3) r4]) (S : FnScope ["self", p, r] ["self", p, r] (defScope st)) (h0 : (defScope st).names.lookup ("self" : Str) = some NameKind.local) (h1 : (defScope st).names.lookup p = some NameKind.local) (h2 : (defScope st).names.lookup r = some NameKind.local)
    (hd : (p == ("__debug__" : Str)) = false) (hcd : (p == ("__classdict__" : Str)) = false) (hd2 : (r == ("__debug__" : Str)) = false) (hcd2 : (r == ("__classdict__" : Str)) = false)
    (b1 : ∀ (kV doc pm : Value) (an : Option Addr) (cdv ct u v y : Value), bindArgs (PySem.W.fnOf "__init__" q (defArgs st) (defBody st) (defScope st) .none kV doc pm an cdv ct) ⟨[u, v, y], []⟩ = pure [(("self" : Str), u), (p, v), (r, y)])
    (b2 : ∀ (kV doc pm : Value) (an : Option Addr) (cdv ct u v y : Value), bindArgs (PySem.W.fnOf "__init__" q (defArgs st) (defBody st) (defScope st) .none kV doc pm an cdv ct) ⟨[u], [(r, y), (p, v)]⟩ = pure [(("self" : Str), u), (p, v), (r, y)]) : XC2 P w K mg base x (cls K i) p r p r := by
  have F1 := plain_def F
  refine ⟨c.oex, c.no p (List.mem_cons_self ..), c.no r (List.mem_cons_of_mem _ (List.mem_cons_self ..)), g, _, fd, c.ini, c.fn, ok_init2 F1 S hb h0 h1 h2 hd hcd hd2 hcd2, F.bindsN fun kV doc pm an cdv ct us hl => ?_, ?_⟩
  · match us, hl with
    | [u, v, y], _ => exact b1 kV doc pm an cdv ct u v y
  · obtain ⟨oc, od, kV, doc, pm, an, cdv, ct, osl, rfl, _, _⟩ := F1.ex
    refine ⟨fun s us ws _ hu hw => ?_, fun ra z => ?_⟩
    · match us, ws, hu, hw with
      | [u], [y, v], _, _ => exact .of_eq (b2 kV doc pm an cdv ct u v y)
    · exact Vals.append ra (vals_rev z)
end
section
variable {P : Program} {w : World} {K : PySem.W.Frag} {mg : Str → Option Value} {h base : Heap}
theorem glo_all (c : He.SaysD faL fnL K) : ∀ i, i ≤ 43 → (He.Fa.glo (nm i)).ok K = true
  | 0, _ => c.fact 22 rfl
  | 1, _ => c.fact 23 rfl
  | 2, _ => c.fact 24 rfl
  | 3, _ => c.fact 25 rfl
  | 4, _ => c.fact 26 rfl
  | 5, _ => c.fact 27 rfl
  | 6, _ => c.fact 28 rfl
  | 7, _ => c.fact 29 rfl
  | 8, _ => c.fact 30 rfl
  | 9, _ => c.fact 31 rfl
  | 10, _ => c.fact 32 rfl
  | 11, _ => c.fact 33 rfl
  | 12, _ => c.fact 34 rfl
  | 13, _ => c.fact 35 rfl
  | 14, _ => c.fact 36 rfl
  | 15, _ => c.fact 37 rfl
  | 16, _ => c.fact 38 rfl
  | 17, _ => c.fact 39 rfl
  | 18, _ => c.fact 40 rfl
  | 19, _ => c.fact 41 rfl
  | 20, _ => c.fact 42 rfl
  | 21, _ => c.fact 43 rfl
  | 22, _ => c.fact 44 rfl
  | 23, _ => c.fact 45 rfl
  | 24, _ => c.fact 46 rfl
  | 25, _ => c.fact 47 rfl
  | 26, _ => c.fact 48 rfl
  | 27, _ => c.fact 49 rfl
  | 28, _ => c.fact 50 rfl
  | 29, _ => c.fact 51 rfl
  | 30, _ => c.fact 52 rfl
  | 31, _ => c.fact 53 rfl
  | 32, _ => c.fact 54 rfl
  | 33, _ => c.fact 55 rfl
  | 34, _ => c.fact 56 rfl
  | 35, _ => c.fact 57 rfl
  | 36, _ => c.fact 58 rfl
  | 37, _ => c.fact 59 rfl
  | 38, _ => c.fact 60 rfl
  | 39, _ => c.fact 61 rfl
  | 40, _ => c.fact 62 rfl
  | 41, _ => c.fact 63 rfl
  | 42, _ => c.fact 64 rfl
  | 43, _ => c.fact 65 rfl
  | n + 44, z => absurd z (by omega)
theorem tx_of (X : K.In h) (G : h.Ns mainGlobals mg) (c : He.SaysD faL fnL K) (m : exL K = true) : TX P w K mg base where
  x_BadDeed := by
    obtain ⟨fd, F⟩ := c.def_ 13 (d := dI 0 "BadDeed" "BadDeed.__init__") rfl
    exact xc1_of (i := 0) (st := inSt 0) (cls_all m 0 ["thing"] (by decide) (List.mem_of_getElem? (i := 0) rfl)) (He.glo_ok X G (glo_all c 0 (by decide))) F rfl ⟨rfl, rfl, rfl, by decide +kernel, rfl, by decide +kernel, by decide +kernel⟩ rfl rfl rfl rfl (fun _ _ _ _ _ _ _ _ => rfl) (fun _ _ _ _ _ _ _ _ => rfl)
  x_BadForest := by
    obtain ⟨fd, F⟩ := c.def_ 14 (d := dI 1 "BadForest" "BadForest.__init__") rfl
    exact xc1_of (i := 1) (st := inSt 1) (cls_all m 1 ["thing"] (by decide) (List.mem_of_getElem? (i := 1) rfl)) (He.glo_ok X G (glo_all c 1 (by decide))) F rfl ⟨rfl, rfl, rfl, by decide +kernel, rfl, by decide +kernel, by decide +kernel⟩ rfl rfl rfl rfl (fun _ _ _ _ _ _ _ _ => rfl) (fun _ _ _ _ _ _ _ _ => rfl)
  x_BadForm := by
    obtain ⟨fd, F⟩ := c.def_ 15 (d := dI 2 "BadForm" "BadForm.__init__") rfl
    exact xc1_of (i := 2) (st := inSt 2) (cls_all m 2 ["thing"] (by decide) (List.mem_of_getElem? (i := 2) rfl)) (He.glo_ok X G (glo_all c 2 (by decide))) F rfl ⟨rfl, rfl, rfl, by decide +kernel, rfl, by decide +kernel, by decide +kernel⟩ rfl rfl rfl rfl (fun _ _ _ _ _ _ _ _ => rfl) (fun _ _ _ _ _ _ _ _ => rfl)
  x_BadHeight := by
    obtain ⟨fd, F⟩ := c.def_ 16 (d := dI 3 "BadHeight" "BadHeight.__init__") rfl
    exact xc1_of (i := 3) (st := inSt 3) (cls_all m 3 ["thing"] (by decide) (List.mem_of_getElem? (i := 3) rfl)) (He.glo_ok X G (glo_all c 3 (by decide))) F rfl ⟨rfl, rfl, rfl, by decide +kernel, rfl, by decide +kernel, by decide +kernel⟩ rfl rfl rfl rfl (fun _ _ _ _ _ _ _ _ => rfl) (fun _ _ _ _ _ _ _ _ => rfl)
  x_BadHollow := by
    obtain ⟨fd, F⟩ := c.def_ 17 (d := dI 4 "BadHollow" "BadHollow.__init__") rfl
    exact xc1_of (i := 4) (st := inSt 4) (cls_all m 4 ["thing"] (by decide) (List.mem_of_getElem? (i := 4) rfl)) (He.glo_ok X G (glo_all c 4 (by decide))) F rfl ⟨rfl, rfl, rfl, by decide +kernel, rfl, by decide +kernel, by decide +kernel⟩ rfl rfl rfl rfl (fun _ _ _ _ _ _ _ _ => rfl) (fun _ _ _ _ _ _ _ _ => rfl)
  x_BadKind := by
    obtain ⟨fd, F⟩ := c.def_ 18 (d := dI 5 "BadKind" "BadKind.__init__") rfl
    exact xc1_of (i := 5) (st := inSt 5) (cls_all m 5 ["thing"] (by decide) (List.mem_of_getElem? (i := 5) rfl)) (He.glo_ok X G (glo_all c 5 (by decide))) F rfl ⟨rfl, rfl, rfl, by decide +kernel, rfl, by decide +kernel, by decide +kernel⟩ rfl rfl rfl rfl (fun _ _ _ _ _ _ _ _ => rfl) (fun _ _ _ _ _ _ _ _ => rfl)
  x_BadLosses := by
    obtain ⟨fd, F⟩ := c.def_ 19 (d := dI 6 "BadLosses" "BadLosses.__init__") rfl
    exact xc1_of (i := 6) (st := inSt 6) (cls_all m 6 ["fault"] (by decide) (List.mem_of_getElem? (i := 6) rfl)) (He.glo_ok X G (glo_all c 6 (by decide))) F rfl ⟨rfl, rfl, rfl, by decide +kernel, rfl, by decide +kernel, by decide +kernel⟩ rfl rfl rfl rfl (fun _ _ _ _ _ _ _ _ => rfl) (fun _ _ _ _ _ _ _ _ => rfl)
  x_BadLot := by
    obtain ⟨fd, F⟩ := c.def_ 20 (d := dI 7 "BadLot" "BadLot.__init__") rfl
    exact xc1_of (i := 7) (st := inSt 7) (cls_all m 7 ["index"] (by decide) (List.mem_of_getElem? (i := 7) rfl)) (He.glo_ok X G (glo_all c 7 (by decide))) F rfl ⟨rfl, rfl, rfl, by decide +kernel, rfl, by decide +kernel, by decide +kernel⟩ rfl rfl rfl rfl (fun _ _ _ _ _ _ _ _ => rfl) (fun _ _ _ _ _ _ _ _ => rfl)
  x_BadLots := by
    obtain ⟨fd, F⟩ := c.def_ 21 (d := dI 8 "BadLots" "BadLots.__init__") rfl
    exact xc1_of (i := 8) (st := inSt 8) (cls_all m 8 ["index"] (by decide) (List.mem_of_getElem? (i := 8) rfl)) (He.glo_ok X G (glo_all c 8 (by decide))) F rfl ⟨rfl, rfl, rfl, by decide +kernel, rfl, by decide +kernel, by decide +kernel⟩ rfl rfl rfl rfl (fun _ _ _ _ _ _ _ _ => rfl) (fun _ _ _ _ _ _ _ _ => rfl)
  x_BadName := by
    obtain ⟨fd, F⟩ := c.def_ 22 (d := dI 9 "BadName" "BadName.__init__") rfl
    exact xc1_of (i := 9) (st := inSt 9) (cls_all m 9 ["thing"] (by decide) (List.mem_of_getElem? (i := 9) rfl)) (He.glo_ok X G (glo_all c 9 (by decide))) F rfl ⟨rfl, rfl, rfl, by decide +kernel, rfl, by decide +kernel, by decide +kernel⟩ rfl rfl rfl rfl (fun _ _ _ _ _ _ _ _ => rfl) (fun _ _ _ _ _ _ _ _ => rfl)
  x_BadNest := by
    obtain ⟨fd, F⟩ := c.def_ 23 (d := dI 10 "BadNest" "BadNest.__init__") rfl
    exact xc1_of (i := 10) (st := inSt 10) (cls_all m 10 ["thing"] (by decide) (List.mem_of_getElem? (i := 10) rfl)) (He.glo_ok X G (glo_all c 10 (by decide))) F rfl ⟨rfl, rfl, rfl, by decide +kernel, rfl, by decide +kernel, by decide +kernel⟩ rfl rfl rfl rfl (fun _ _ _ _ _ _ _ _ => rfl) (fun _ _ _ _ _ _ _ _ => rfl)
  x_BadNumber := by
    obtain ⟨fd, F⟩ := c.def_ 24 (d := dI 11 "BadNumber" "BadNumber.__init__") rfl
    exact xc1_of (i := 11) (st := inSt 11) (cls_all m 11 ["thing"] (by decide) (List.mem_of_getElem? (i := 11) rfl)) (He.glo_ok X G (glo_all c 11 (by decide))) F rfl ⟨rfl, rfl, rfl, by decide +kernel, rfl, by decide +kernel, by decide +kernel⟩ rfl rfl rfl rfl (fun _ _ _ _ _ _ _ _ => rfl) (fun _ _ _ _ _ _ _ _ => rfl)
  x_BadOrder := by
    obtain ⟨fd, F⟩ := c.def_ 25 (d := dI 12 "BadOrder" "BadOrder.__init__") rfl
    exact xc1_of (i := 12) (st := inSt 12) (cls_all m 12 ["index"] (by decide) (List.mem_of_getElem? (i := 12) rfl)) (He.glo_ok X G (glo_all c 12 (by decide))) F rfl ⟨rfl, rfl, rfl, by decide +kernel, rfl, by decide +kernel, by decide +kernel⟩ rfl rfl rfl rfl (fun _ _ _ _ _ _ _ _ => rfl) (fun _ _ _ _ _ _ _ _ => rfl)
  x_BadParting := by
    obtain ⟨fd, F⟩ := c.def_ 26 (d := dI 13 "BadParting" "BadParting.__init__") rfl
    exact xc1_of (i := 13) (st := inSt 13) (cls_all m 13 ["thing"] (by decide) (List.mem_of_getElem? (i := 13) rfl)) (He.glo_ok X G (glo_all c 13 (by decide))) F rfl ⟨rfl, rfl, rfl, by decide +kernel, rfl, by decide +kernel, by decide +kernel⟩ rfl rfl rfl rfl (fun _ _ _ _ _ _ _ _ => rfl) (fun _ _ _ _ _ _ _ _ => rfl)
  x_BadPicture := by
    obtain ⟨fd, F⟩ := c.def_ 27 (d := dI 14 "BadPicture" "BadPicture.__init__") rfl
    exact xc1_of (i := 14) (st := inSt 14) (cls_all m 14 ["thing"] (by decide) (List.mem_of_getElem? (i := 14) rfl)) (He.glo_ok X G (glo_all c 14 (by decide))) F rfl ⟨rfl, rfl, rfl, by decide +kernel, rfl, by decide +kernel, by decide +kernel⟩ rfl rfl rfl rfl (fun _ _ _ _ _ _ _ _ => rfl) (fun _ _ _ _ _ _ _ _ => rfl)
  x_BadPlaces := by
    obtain ⟨fd, F⟩ := c.def_ 28 (d := dI 15 "BadPlaces" "BadPlaces.__init__") rfl
    exact xc1_of (i := 15) (st := inSt 15) (cls_all m 15 ["index"] (by decide) (List.mem_of_getElem? (i := 15) rfl)) (He.glo_ok X G (glo_all c 15 (by decide))) F rfl ⟨rfl, rfl, rfl, by decide +kernel, rfl, by decide +kernel, by decide +kernel⟩ rfl rfl rfl rfl (fun _ _ _ _ _ _ _ _ => rfl) (fun _ _ _ _ _ _ _ _ => rfl)
  x_BadPrice := by
    obtain ⟨fd, F⟩ := c.def_ 29 (d := dI 16 "BadPrice" "BadPrice.__init__") rfl
    exact xc1_of (i := 16) (st := inSt 16) (cls_all m 16 ["thing"] (by decide) (List.mem_of_getElem? (i := 16) rfl)) (He.glo_ok X G (glo_all c 16 (by decide))) F rfl ⟨rfl, rfl, rfl, by decide +kernel, rfl, by decide +kernel, by decide +kernel⟩ rfl rfl rfl rfl (fun _ _ _ _ _ _ _ _ => rfl) (fun _ _ _ _ _ _ _ _ => rfl)
  x_BadPriced := by
    obtain ⟨fd, F⟩ := c.def_ 30 (d := dI 17 "BadPriced" "BadPriced.__init__") rfl
    exact xc1_of (i := 17) (st := inSt 17) (cls_all m 17 ["thing"] (by decide) (List.mem_of_getElem? (i := 17) rfl)) (He.glo_ok X G (glo_all c 17 (by decide))) F rfl ⟨rfl, rfl, rfl, by decide +kernel, rfl, by decide +kernel, by decide +kernel⟩ rfl rfl rfl rfl (fun _ _ _ _ _ _ _ _ => rfl) (fun _ _ _ _ _ _ _ _ => rfl)
  x_BadQuestion := by
    obtain ⟨fd, F⟩ := c.def_ 31 (d := dI 18 "BadQuestion" "BadQuestion.__init__") rfl
    exact xc1_of (i := 18) (st := inSt 18) (cls_all m 18 ["thing"] (by decide) (List.mem_of_getElem? (i := 18) rfl)) (He.glo_ok X G (glo_all c 18 (by decide))) F rfl ⟨rfl, rfl, rfl, by decide +kernel, rfl, by decide +kernel, by decide +kernel⟩ rfl rfl rfl rfl (fun _ _ _ _ _ _ _ _ => rfl) (fun _ _ _ _ _ _ _ _ => rfl)
  x_BadRoots := by
    obtain ⟨fd, F⟩ := c.def_ 32 (d := dI 19 "BadRoots" "BadRoots.__init__") rfl
    exact xc1_of (i := 19) (st := inSt 19) (cls_all m 19 ["index"] (by decide) (List.mem_of_getElem? (i := 19) rfl)) (He.glo_ok X G (glo_all c 19 (by decide))) F rfl ⟨rfl, rfl, rfl, by decide +kernel, rfl, by decide +kernel, by decide +kernel⟩ rfl rfl rfl rfl (fun _ _ _ _ _ _ _ _ => rfl) (fun _ _ _ _ _ _ _ _ => rfl)
  x_BadRows := by
    obtain ⟨fd, F⟩ := c.def_ 33 (d := dI 20 "BadRows" "BadRows.__init__") rfl
    exact xc1_of (i := 20) (st := inSt 20) (cls_all m 20 ["index"] (by decide) (List.mem_of_getElem? (i := 20) rfl)) (He.glo_ok X G (glo_all c 20 (by decide))) F rfl ⟨rfl, rfl, rfl, by decide +kernel, rfl, by decide +kernel, by decide +kernel⟩ rfl rfl rfl rfl (fun _ _ _ _ _ _ _ _ => rfl) (fun _ _ _ _ _ _ _ _ => rfl)
  x_BadSession := by
    obtain ⟨fd, F⟩ := c.def_ 34 (d := dI 21 "BadSession" "BadSession.__init__") rfl
    exact xc1_of (i := 21) (st := inSt 21) (cls_all m 21 ["thing"] (by decide) (List.mem_of_getElem? (i := 21) rfl)) (He.glo_ok X G (glo_all c 21 (by decide))) F rfl ⟨rfl, rfl, rfl, by decide +kernel, rfl, by decide +kernel, by decide +kernel⟩ rfl rfl rfl rfl (fun _ _ _ _ _ _ _ _ => rfl) (fun _ _ _ _ _ _ _ _ => rfl)
  x_BadSharing := by
    obtain ⟨fd, F⟩ := c.def_ 35 (d := dI 22 "BadSharing" "BadSharing.__init__") rfl
    exact xc1_of (i := 22) (st := inSt 22) (cls_all m 22 ["thing"] (by decide) (List.mem_of_getElem? (i := 22) rfl)) (He.glo_ok X G (glo_all c 22 (by decide))) F rfl ⟨rfl, rfl, rfl, by decide +kernel, rfl, by decide +kernel, by decide +kernel⟩ rfl rfl rfl rfl (fun _ _ _ _ _ _ _ _ => rfl) (fun _ _ _ _ _ _ _ _ => rfl)
  x_BadTable := by
    obtain ⟨fd, F⟩ := c.def_ 36 (d := dI 23 "BadTable" "BadTable.__init__") rfl
    exact xc1_of (i := 23) (st := inSt 23) (cls_all m 23 ["thing"] (by decide) (List.mem_of_getElem? (i := 23) rfl)) (He.glo_ok X G (glo_all c 23 (by decide))) F rfl ⟨rfl, rfl, rfl, by decide +kernel, rfl, by decide +kernel, by decide +kernel⟩ rfl rfl rfl rfl (fun _ _ _ _ _ _ _ _ => rfl) (fun _ _ _ _ _ _ _ _ => rfl)
  x_BadText := by
    obtain ⟨fd, F⟩ := c.def_ 37 (d := dI 24 "BadText" "BadText.__init__") rfl
    exact xc2_of (i := 24) (st := inSt 24) (cls_all m 24 ["line", "sign"] (by decide) (List.mem_of_getElem? (i := 24) rfl)) (He.glo_ok X G (glo_all c 24 (by decide))) F rfl ⟨rfl, rfl, rfl, by decide +kernel, rfl, by decide +kernel, by decide +kernel⟩ rfl rfl rfl rfl rfl rfl rfl (fun _ _ _ _ _ _ _ _ _ => rfl) (fun _ _ _ _ _ _ _ _ _ => rfl)
  x_BadTies := by
    obtain ⟨fd, F⟩ := c.def_ 38 (d := dI 25 "BadTies" "BadTies.__init__") rfl
    exact xc1_of (i := 25) (st := inSt 25) (cls_all m 25 ["index"] (by decide) (List.mem_of_getElem? (i := 25) rfl)) (He.glo_ok X G (glo_all c 25 (by decide))) F rfl ⟨rfl, rfl, rfl, by decide +kernel, rfl, by decide +kernel, by decide +kernel⟩ rfl rfl rfl rfl (fun _ _ _ _ _ _ _ _ => rfl) (fun _ _ _ _ _ _ _ _ => rfl)
  x_BadTold := by
    obtain ⟨fd, F⟩ := c.def_ 39 (d := dI 26 "BadTold" "BadTold.__init__") rfl
    exact xc1_of (i := 26) (st := inSt 26) (cls_all m 26 ["index"] (by decide) (List.mem_of_getElem? (i := 26) rfl)) (He.glo_ok X G (glo_all c 26 (by decide))) F rfl ⟨rfl, rfl, rfl, by decide +kernel, rfl, by decide +kernel, by decide +kernel⟩ rfl rfl rfl rfl (fun _ _ _ _ _ _ _ _ => rfl) (fun _ _ _ _ _ _ _ _ => rfl)
  x_BadWeb := by
    obtain ⟨fd, F⟩ := c.def_ 40 (d := dI 27 "BadWeb" "BadWeb.__init__") rfl
    exact xc1_of (i := 27) (st := inSt 27) (cls_all m 27 ["thing"] (by decide) (List.mem_of_getElem? (i := 27) rfl)) (He.glo_ok X G (glo_all c 27 (by decide))) F rfl ⟨rfl, rfl, rfl, by decide +kernel, rfl, by decide +kernel, by decide +kernel⟩ rfl rfl rfl rfl (fun _ _ _ _ _ _ _ _ => rfl) (fun _ _ _ _ _ _ _ _ => rfl)
  x_InUse := by
    obtain ⟨fd, F⟩ := c.def_ 41 (d := dI 28 "InUse" "InUse.__init__") rfl
    exact xc1_of (i := 28) (st := inSt 28) (cls_all m 28 ["question"] (by decide) (List.mem_of_getElem? (i := 28) rfl)) (He.glo_ok X G (glo_all c 28 (by decide))) F rfl ⟨rfl, rfl, rfl, by decide +kernel, rfl, by decide +kernel, by decide +kernel⟩ rfl rfl rfl rfl (fun _ _ _ _ _ _ _ _ => rfl) (fun _ _ _ _ _ _ _ _ => rfl)
  x_IsThere := by
    obtain ⟨fd, F⟩ := c.def_ 42 (d := dI 29 "IsThere" "IsThere.__init__") rfl
    exact xc1_of (i := 29) (st := inSt 29) (cls_all m 29 ["lot"] (by decide) (List.mem_of_getElem? (i := 29) rfl)) (He.glo_ok X G (glo_all c 29 (by decide))) F rfl ⟨rfl, rfl, rfl, by decide +kernel, rfl, by decide +kernel, by decide +kernel⟩ rfl rfl rfl rfl (fun _ _ _ _ _ _ _ _ => rfl) (fun _ _ _ _ _ _ _ _ => rfl)
  x_IsWatched := by
    obtain ⟨fd, F⟩ := c.def_ 43 (d := dI 30 "IsWatched" "IsWatched.__init__") rfl
    exact xc1_of (i := 30) (st := inSt 30) (cls_all m 30 ["question"] (by decide) (List.mem_of_getElem? (i := 30) rfl)) (He.glo_ok X G (glo_all c 30 (by decide))) F rfl ⟨rfl, rfl, rfl, by decide +kernel, rfl, by decide +kernel, by decide +kernel⟩ rfl rfl rfl rfl (fun _ _ _ _ _ _ _ _ => rfl) (fun _ _ _ _ _ _ _ _ => rfl)
  x_NoCount := by
    obtain ⟨fd, F⟩ := c.def_ 44 (d := dI 31 "NoCount" "NoCount.__init__") rfl
    exact xc1_of (i := 31) (st := inSt 31) (cls_all m 31 ["thing"] (by decide) (List.mem_of_getElem? (i := 31) rfl)) (He.glo_ok X G (glo_all c 31 (by decide))) F rfl ⟨rfl, rfl, rfl, by decide +kernel, rfl, by decide +kernel, by decide +kernel⟩ rfl rfl rfl rfl (fun _ _ _ _ _ _ _ _ => rfl) (fun _ _ _ _ _ _ _ _ => rfl)
  x_NoLot := by
    obtain ⟨fd, F⟩ := c.def_ 45 (d := dI 32 "NoLot" "NoLot.__init__") rfl
    exact xc1_of (i := 32) (st := inSt 32) (cls_all m 32 ["thing"] (by decide) (List.mem_of_getElem? (i := 32) rfl)) (He.glo_ok X G (glo_all c 32 (by decide))) F rfl ⟨rfl, rfl, rfl, by decide +kernel, rfl, by decide +kernel, by decide +kernel⟩ rfl rfl rfl rfl (fun _ _ _ _ _ _ _ _ => rfl) (fun _ _ _ _ _ _ _ _ => rfl)
  x_NoParts := by
    obtain ⟨fd, F⟩ := c.def_ 46 (d := dI 33 "NoParts" "NoParts.__init__") rfl
    exact xc1_of (i := 33) (st := inSt 33) (cls_all m 33 ["lot"] (by decide) (List.mem_of_getElem? (i := 33) rfl)) (He.glo_ok X G (glo_all c 33 (by decide))) F rfl ⟨rfl, rfl, rfl, by decide +kernel, rfl, by decide +kernel, by decide +kernel⟩ rfl rfl rfl rfl (fun _ _ _ _ _ _ _ _ => rfl) (fun _ _ _ _ _ _ _ _ => rfl)
  x_NoPlace := by
    obtain ⟨fd, F⟩ := c.def_ 47 (d := dI 34 "NoPlace" "NoPlace.__init__") rfl
    exact xc1_of (i := 34) (st := inSt 34) (cls_all m 34 ["thing"] (by decide) (List.mem_of_getElem? (i := 34) rfl)) (He.glo_ok X G (glo_all c 34 (by decide))) F rfl ⟨rfl, rfl, rfl, by decide +kernel, rfl, by decide +kernel, by decide +kernel⟩ rfl rfl rfl rfl (fun _ _ _ _ _ _ _ _ => rfl) (fun _ _ _ _ _ _ _ _ => rfl)
  x_NoRoot := by
    obtain ⟨fd, F⟩ := c.def_ 48 (d := dI 35 "NoRoot" "NoRoot.__init__") rfl
    exact xc1_of (i := 35) (st := inSt 35) (cls_all m 35 ["place"] (by decide) (List.mem_of_getElem? (i := 35) rfl)) (He.glo_ok X G (glo_all c 35 (by decide))) F rfl ⟨rfl, rfl, rfl, by decide +kernel, rfl, by decide +kernel, by decide +kernel⟩ rfl rfl rfl rfl (fun _ _ _ _ _ _ _ _ => rfl) (fun _ _ _ _ _ _ _ _ => rfl)
  x_NoTie := by
    obtain ⟨fd, F⟩ := c.def_ 49 (d := dI 36 "NoTie" "NoTie.__init__") rfl
    exact xc2_of (i := 36) (st := inSt 36) (cls_all m 36 ["one", "other"] (by decide) (List.mem_of_getElem? (i := 36) rfl)) (He.glo_ok X G (glo_all c 36 (by decide))) F rfl ⟨rfl, rfl, rfl, by decide +kernel, rfl, by decide +kernel, by decide +kernel⟩ rfl rfl rfl rfl rfl rfl rfl (fun _ _ _ _ _ _ _ _ _ => rfl) (fun _ _ _ _ _ _ _ _ _ => rfl)
  x_NotThere := by
    obtain ⟨fd, F⟩ := c.def_ 50 (d := dI 37 "NotThere" "NotThere.__init__") rfl
    exact xc1_of (i := 37) (st := inSt 37) (cls_all m 37 ["lot"] (by decide) (List.mem_of_getElem? (i := 37) rfl)) (He.glo_ok X G (glo_all c 37 (by decide))) F rfl ⟨rfl, rfl, rfl, by decide +kernel, rfl, by decide +kernel, by decide +kernel⟩ rfl rfl rfl rfl (fun _ _ _ _ _ _ _ _ => rfl) (fun _ _ _ _ _ _ _ _ => rfl)
  x_NotWatched := by
    obtain ⟨fd, F⟩ := c.def_ 51 (d := dI 38 "NotWatched" "NotWatched.__init__") rfl
    exact xc1_of (i := 38) (st := inSt 38) (cls_all m 38 ["question"] (by decide) (List.mem_of_getElem? (i := 38) rfl)) (He.glo_ok X G (glo_all c 38 (by decide))) F rfl ⟨rfl, rfl, rfl, by decide +kernel, rfl, by decide +kernel, by decide +kernel⟩ rfl rfl rfl rfl (fun _ _ _ _ _ _ _ _ => rfl) (fun _ _ _ _ _ _ _ _ => rfl)
  e_OtherPlaces := (He.exc_ok (c.fact 67 (f := .exc "OtherPlaces") rfl)).1
  g_OtherPlaces := He.glo_ok X G (glo_all c 39 (by decide))
  k_OtherPlaces := (He.exc_ok (c.fact 67 (f := .exc "OtherPlaces") rfl)).2.1
  x_SamePlace := by
    obtain ⟨fd, F⟩ := c.def_ 52 (d := dI 40 "SamePlace" "SamePlace.__init__") rfl
    exact xc1_of (i := 40) (st := inSt 40) (cls_all m 40 ["thing"] (by decide) (List.mem_of_getElem? (i := 39) rfl)) (He.glo_ok X G (glo_all c 40 (by decide))) F rfl ⟨rfl, rfl, rfl, by decide +kernel, rfl, by decide +kernel, by decide +kernel⟩ rfl rfl rfl rfl (fun _ _ _ _ _ _ _ _ => rfl) (fun _ _ _ _ _ _ _ _ => rfl)
  x_SavesNothing := by
    obtain ⟨fd, F⟩ := c.def_ 53 (d := dI 41 "SavesNothing" "SavesNothing.__init__") rfl
    exact xc1_of (i := 41) (st := inSt 41) (cls_all m 41 ["lot"] (by decide) (List.mem_of_getElem? (i := 40) rfl)) (He.glo_ok X G (glo_all c 41 (by decide))) F rfl ⟨rfl, rfl, rfl, by decide +kernel, rfl, by decide +kernel, by decide +kernel⟩ rfl rfl rfl rfl (fun _ _ _ _ _ _ _ _ => rfl) (fun _ _ _ _ _ _ _ _ => rfl)
  x_WouldChange := by
    obtain ⟨fd, F⟩ := c.def_ 54 (d := dI 42 "WouldChange" "WouldChange.__init__") rfl
    exact xc2_of (i := 42) (st := inSt 42) (cls_all m 42 ["question", "why"] (by decide) (List.mem_of_getElem? (i := 41) rfl)) (He.glo_ok X G (glo_all c 42 (by decide))) F rfl ⟨rfl, rfl, rfl, by decide +kernel, rfl, by decide +kernel, by decide +kernel⟩ rfl rfl rfl rfl rfl rfl rfl (fun _ _ _ _ _ _ _ _ _ => rfl) (fun _ _ _ _ _ _ _ _ _ => rfl)
end
end Mine
namespace Mine
open PySem L2 PySem.Spec PyProof.Rows LamX NdefX
section
variable {P : Program} {w : World} {K : PySem.W.Frag} {mg : Str → Option Value} {h base : Heap}
theorem tk_of (X : K.In h) (G : h.Ns mainGlobals mg) (c : He.SaysD faL fnL K) (m : exL K = true) : TK K mg := by
  have sl : slotB K = true := by
    unfold exL at m
    exact (He.ba m).1
  have kit : ∀ i, i ≤ 43 → kitB K i = true := fun i hi => (exc_all m i hi).2
  refine ⟨He.free_ok X G (c.fact 17 rfl), He.free_ok X G (c.fact 18 rfl), He.free_ok X G (c.fact 19 rfl), fun i hi => He.glo_ok X G (glo_all c i hi), fun i j hi hj => ?_, fun i hi => ?_, fun i hi => ?_, fun i hi => ?_, fun i hi => (exc_x (exc_all m i hi).1 sl).1, fun i hi => (exc_x (exc_all m i hi).1 sl).2⟩ <;> have q := kit i hi <;> unfold kitB at q
  · exact of_decide_eq_true (List.all_eq_true.mp (He.ba q).1 j (List.mem_range.mpr (by omega)))
  · exact of_decide_eq_true (He.ba (He.ba q).2).1
  · exact of_decide_eq_true (He.ba (He.ba (He.ba q).2).2).1
  · exact of_decide_eq_true (He.ba (He.ba (He.ba q).2).2).2
/-- the tables of the lambdas' code -/
def tbT (K : PySem.W.Frag) : List (Addr × Str) := [((He.cT K ("_law_made_a", none)).2, ("_law_made_a" ++ ".<locals>." : Str) ++ "<lambda>"), ((He.cT K ("_law_made_b", none)).2, ("_law_made_b" ++ ".<locals>." : Str) ++ "<lambda>"), ((He.cT K ("_law_made_c", none)).2, ("_law_made_c" ++ ".<locals>." : Str) ++ "<lambda>")]
theorem apart_ok (m : exL K = true) : (He.cT K ("_law_made_a", none)).2 ≠ (He.cT K ("_law_made_b", none)).2 ∧ (He.cT K ("_law_made_a", none)).2 ≠ (He.cT K ("_law_made_c", none)).2 ∧ (He.cT K ("_law_made_b", none)).2 ≠ (He.cT K ("_law_made_c", none)).2 := by
  unfold exL apart at m
  simp only [Bool.and_eq_true, decide_eq_true_eq] at m
  exact m.2.1
theorem one_bind {x q p : Str} {st : Stmt} {f : Addr} {fd : FuncData} (F : FunD K x q (defArgs st) (defBody st) (defScope st) [] [] f fd) (b : ∀ (kV doc pm : Value) (an : Option Addr) (cdv ct u : Value), bindArgs (PySem.W.fnOf x q (defArgs st) (defBody st) (defScope st) .none kV doc pm an cdv ct) ⟨[u], []⟩ = pure [(p, u)]) : Binds K fd [p] [] :=
  F.bindsN fun kV doc pm an cdv ct us hl => match us, hl with
    | [u], _ => b kV doc pm an cdv ct u
theorem two_bind {x q p r : Str} {st : Stmt} {f : Addr} {fd : FuncData} (F : FunD K x q (defArgs st) (defBody st) (defScope st) [] [] f fd) (b : ∀ (kV doc pm : Value) (an : Option Addr) (cdv ct u v : Value), bindArgs (PySem.W.fnOf x q (defArgs st) (defBody st) (defScope st) .none kV doc pm an cdv ct) ⟨[u, v], []⟩ = pure [(p, u), (r, v)]) : Binds K fd [p, r] [] :=
  F.bindsN fun kV doc pm an cdv ct us hl => match us, hl with
    | [u, v], _ => b kV doc pm an cdv ct u v
theorem three_bind {x q p r t : Str} {st : Stmt} {f : Addr} {fd : FuncData} (F : FunD K x q (defArgs st) (defBody st) (defScope st) [] [] f fd) (b : ∀ (kV doc pm : Value) (an : Option Addr) (cdv ct u v y : Value), bindArgs (PySem.W.fnOf x q (defArgs st) (defBody st) (defScope st) .none kV doc pm an cdv ct) ⟨[u, v, y], []⟩ = pure [(p, u), (r, v), (t, y)]) : Binds K fd [p, r, t] [] :=
  F.bindsN fun kV doc pm an cdv ct us hl => match us, hl with
    | [u, v, y], _ => b kV doc pm an cdv ct u v y
theorem lean_of (X : K.In h) (G : h.Ns mainGlobals mg) (c : He.SaysD faL fnL K) (m : exL K = true) (TB : ∀ p ∈ tfL.map (He.cT K), TabB base mg p.1 p.2) : Lean0 P w K mg base (tbT K) := by
  have T := tk_of X G c m
  have D : TxtD K mg := ⟨He.free_ok X G (c.fact 13 rfl), He.free_ok X G (c.fact 14 rfl), He.free_ok X G (c.fact 15 rfl), He.free_ok X G (c.fact 16 rfl)⟩
  have R : TR mg := ⟨He.free_ok X G (c.fact 21 rfl), D.len⟩
  have TXx : TX P w K mg base := tx_of X G c m
  obtain ⟨a1, a2, a3⟩ := apart_ok m
  obtain ⟨f0, F0⟩ := c.def_ 0 (d := dS 46 "_law_start") rfl
  obtain ⟨f1, F1⟩ := c.def_ 1 (d := dS 47 "_law_draw") rfl
  obtain ⟨f2, F2⟩ := c.def_ 2 (d := dS 48 "_law_mixed") rfl
  obtain ⟨f3, F3⟩ := c.def_ 3 (d := dS 49 "_law_made_a") rfl
  obtain ⟨f4, F4⟩ := c.def_ 4 (d := dS 50 "_law_made_b") rfl
  obtain ⟨f5, F5⟩ := c.def_ 5 (d := dS 51 "_law_made_c") rfl
  obtain ⟨f6, F6⟩ := c.def_ 6 (d := dS 52 "_law_kinds_a") rfl
  obtain ⟨f7, F7⟩ := c.def_ 7 (d := dS 53 "_law_kinds_b") rfl
  obtain ⟨f8, F8⟩ := c.def_ 8 (d := dS 54 "_law_kinds_c") rfl
  obtain ⟨f9, F9⟩ := c.def_ 9 (d := dS 55 "_law_kinds") rfl
  obtain ⟨f10, F10⟩ := c.def_ 10 (d := dS 56 "_law_is_own") rfl
  obtain ⟨f11, F11⟩ := c.def_ 11 (d := dS 57 "_law_are_these") rfl
  have b1 : Binds K f1 ["_law_stream", "_law_many"] [] := two_bind (st := sDraw) F1 fun _ _ _ _ _ _ _ _ => rfl
  have b6 : Binds K f6 ["_law_e"] [] := one_bind (st := sKindsA) F6 fun _ _ _ _ _ _ _ => rfl
  have b7 : Binds K f7 ["_law_e"] [] := one_bind (st := sKindsB) F7 fun _ _ _ _ _ _ _ => rfl
  have b8 : Binds K f8 ["_law_e"] [] := one_bind (st := sKindsC) F8 fun _ _ _ _ _ _ _ => rfl
  have b9 : Binds K f9 ["_law_e"] [] := one_bind (st := sKinds) F9 fun _ _ _ _ _ _ _ => rfl
  have g : ∀ {i : Nat} {x : Str}, faL[i]? = some (He.Fa.glo x) → mg x = some (.ref (He.ga K x)) := fun e => He.glo_ok X G (c.fact _ e)
  have K9 : FnOk P w K mg base CX0 2 (He.fAd K ("_law_kinds", none)) f9 ["_law_e"] (spKinds K allJ) := ok_kinds (plain_def F9) T (plain_def F6) (plain_def F7) (plain_def F8) (g (i := 6) rfl) (g (i := 7) rfl) (g (i := 8) rfl) b6 b7 b8
  have t1 : TabB base mg (He.cT K ("_law_made_a", none)).1 (He.cT K ("_law_made_a", none)).2 := TB _ (List.mem_map.mpr ⟨_, List.mem_of_getElem? (i := 0) rfl, rfl⟩)
  have t2 : TabB base mg (He.cT K ("_law_made_b", none)).1 (He.cT K ("_law_made_b", none)).2 := TB _ (List.mem_map.mpr ⟨_, List.mem_of_getElem? (i := 1) rfl, rfl⟩)
  have t3 : TabB base mg (He.cT K ("_law_made_c", none)).1 (He.cT K ("_law_made_c", none)).2 := TB _ (List.mem_map.mpr ⟨_, List.mem_of_getElem? (i := 2) rfl, rfl⟩)
  have u : ∀ p ∈ tbT K, (p.1 = (He.cT K ("_law_made_a", none)).2 → p.2 = ("_law_made_a" ++ ".<locals>." : Str) ++ "<lambda>") ∧ (p.1 = (He.cT K ("_law_made_b", none)).2 → p.2 = ("_law_made_b" ++ ".<locals>." : Str) ++ "<lambda>") ∧ (p.1 = (He.cT K ("_law_made_c", none)).2 → p.2 = ("_law_made_c" ++ ".<locals>." : Str) ++ "<lambda>") := fun p hp => by
    unfold tbT at hp
    simp only [List.mem_cons, List.not_mem_nil, or_false] at hp
    rcases hp with rfl | rfl | rfl
    · exact ⟨fun _ => rfl, fun z => absurd z a1, fun z => absurd z a2⟩
    · exact ⟨fun z => absurd z.symm a1, fun _ => rfl, fun z => absurd z a3⟩
    · exact ⟨fun z => absurd z.symm a2, fun z => absurd z.symm a3, fun _ => rfl⟩
  exact {
    start := ⟨_, f0, g (i := 0) rfl, F0.kp, one_bind (st := sStart) F0 fun _ _ _ _ _ _ _ => rfl, ok_start (plain_def F0) D⟩
    mixed := ⟨_, f2, g (i := 2) rfl, F2.kp, two_bind (st := sMixed) F2 fun _ _ _ _ _ _ _ _ => rfl, ok_mixed (plain_def F2) D (plain_def F1) b1 (g (i := 1) rfl)⟩
    madeA := ⟨_, f3, g (i := 3) rfl, F3.kp, three_bind (st := sMadeA) F3 fun _ _ _ _ _ _ _ _ _ => rfl, ok_madeA (code_def (p := ("_law_made_a", none)) F3) TXx t1 (List.mem_of_getElem? (i := 0) rfl) fun p hp => (u p hp).1⟩
    madeB := ⟨_, f4, g (i := 4) rfl, F4.kp, three_bind (st := sMadeB) F4 fun _ _ _ _ _ _ _ _ _ => rfl, ok_madeB (code_def (p := ("_law_made_b", none)) F4) TXx t2 (List.mem_of_getElem? (i := 1) rfl) fun p hp => (u p hp).2.1⟩
    madeC := ⟨_, f5, g (i := 5) rfl, F5.kp, three_bind (st := sMadeC) F5 fun _ _ _ _ _ _ _ _ _ => rfl, ok_madeC (code_def (p := ("_law_made_c", none)) F5) TXx t3 (List.mem_of_getElem? (i := 2) rfl) fun p hp => (u p hp).2.2⟩
    own := ⟨_, f10, g (i := 10) rfl, F10.kp, two_bind (st := sIsOwn) F10 fun _ _ _ _ _ _ _ _ => rfl, ok_isOwn (plain_def F10) T D (plain_def F9) (g (i := 9) rfl) b9 K9⟩
    kinds := ⟨_, f9, g (i := 9) rfl, F9.kp, b9, K9⟩
    these := ⟨_, f11, g (i := 11) rfl, F11.kp, two_bind (st := sThese) F11 fun _ _ _ _ _ _ _ _ => rfl, ok_these (plain_def F11) R⟩
    X := TXx
    K0 := T
    D := D
    enu := He.free_ok X G (c.fact 20 rfl)
    pe := (He.exc_ok (c.fact 66 (f := .exc "PartsError") rfl)).1
    pk := (He.exc_ok (c.fact 66 (f := .exc "PartsError") rfl)).2.1 }
theorem tabs_beg {H : Hp} (e : ∀ p ∈ tfL.map (He.cT K), H p.2 = some (.tbl #[])) : Tabs (tbT K) H := fun p hp => by
  have z : H p.1 = some (.tbl #[]) := by
    unfold tbT at hp
    simp only [List.mem_cons, List.not_mem_nil, or_false] at hp
    rcases hp with rfl | rfl | rfl
    · exact e _ (List.mem_map.mpr ⟨_, List.mem_of_getElem? (i := 0) rfl, rfl⟩)
    · exact e _ (List.mem_map.mpr ⟨_, List.mem_of_getElem? (i := 1) rfl, rfl⟩)
    · exact e _ (List.mem_map.mpr ⟨_, List.mem_of_getElem? (i := 2) rfl, rfl⟩)
  exact ⟨#[], z, trivial, fun p' cv hc => nomatch hc⟩
end
end Mine
section
open PyProof.Rows PySem PySem.W PySem.Calls
theorem PySem.Challenge.cw_partswithin_k00_errors_made_holds : PySem.Challenge.rw_partswithin_k00_errors_made.Holds := by
  w_on; o_law
  refine HandSHeadRun.head_any (r := Mine.Rw) (q := view Mine.Rw.prog [58]) (H := Mine.hkL) (ob := Mine.obL) (M := 11500) (loose := Mine.lsL) (d := HandSHeadRun.topDef Mine.Rw.prog 58) (kwd := []) Mine.obL_eq
    (by kernel_rfl) (fun s => by kernel_rfl) Mine.runL (by kernel_rfl) (by kernel_rfl) (by kernel_rfl) (by rfl) (by first | assumption | decide +kernel) (by decide +kernel) ⟨rfl, rfl, rfl, rfl, rfl, by decide +kernel⟩ ?hw ?hc
  case hw => w_witness2
  case hc =>
    refine Att.attach_callB (l := PySem.Challenge.rw_partswithin_k00_errors_made) (n := 63) rfl (by kernel_rfl) fun w s0 s1 mg mb fa o pm cd doc a vs ns G Y ho hd hcd hmg hobj hints hlen hbits hg => ?_
    obtain ⟨K, KX, S⟩ := Y
    have c : He.SaysD Mine.faL Mine.fnL K := S.t.d
    have e : (HandSHeadRun.topDef Mine.Rw.prog 58).name = ("law" : PySem.Str) := by kernel_rfl
    rw [e] at hmg
    obtain ⟨fd, F⟩ := c.def_ 12 (d := Mine.dS 58 "law") rfl
    have ef := hmg.symm.trans (He.glo_ok KX G.T.g (c.fact 12 (f := .glo "law") rfl))
    cases ef
    have bd := F.bindsA (ps := ["_law_script"]) fun _ _ _ _ _ _ us hl => match us, hl with
      | [_], _ => rfl
    refine Mine.call_law (cs := Mine.tfL.map (He.cT K)) (x := "_law_script") (sp := Mine.spLaw K (Mine.tbT K)) (fd := fd) (k := 4) KX G.T.g G.T.b G.T.builtins G.T.nolimit hg (fun b hb => ?_) (fun b hb => ?_) (fun p hp => ?_) G.T.bmain hobj hints (Nat.le_trans hlen (by decide)) ⟨rfl, by decide, by decide⟩ (fun base _ _ TB => ?_) (fun s u => bd s [u] rfl) (fun H hH hS => ?_)
    · simp only [List.map_map, List.mem_map] at hb
      obtain ⟨p, hp, rfl⟩ := hb
      exact S.empty p hp
    · simp only [List.map_map, List.mem_map] at hb
      obtain ⟨p, hp, rfl⟩ := hb
      exact S.out p hp
    · obtain ⟨q, hq, rfl⟩ := List.mem_map.mp hp
      exact codeHd_of_K KX (S.hd q hq)
    · exact Mine.ok_law (Mine.plain_def (st := Mine.sLaw) F) (Mine.lean_of KX G.T.g c S.more TB)
    · exact ⟨a, ns, rfl, hS, Mine.tabs_beg hH, fun _ => rfl⟩
end
