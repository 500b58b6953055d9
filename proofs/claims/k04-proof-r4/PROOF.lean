import PyProof.Rows.All
import Wide.All
import OpenK.AllK
import Wide.FinOn
import HandS.ForExc
import HandS.ExcInit
import HandS.ForMost
import HandS.ExcIs
import HandS.ExcField
import HandS.Nested
import HandS.Lambda
import HandS.Defaults
import HandS.MakeKw
import HandS.ExcValue
import KE.KExcIs
import PyProof.ReprRoads
import HandS.IsInst
import HandS.ListItems
import HandS.Zip
import HandS.Wide
import HandS.Flow
import KE.IntTextLaws
import HandS.CallLocal
import HandS.Style
import HandS.TryMany
import HandS.Head0
import HandS.Head1
import HandS.Head2
import HandS.HeadEnd
import HandS.HeadHook1
import HandS.HeadHook2
import HandS.HeadHook3
import HandS.HeadHook4
import HandS.HeadWalk
import HandS.EndTab
import HandS.NoneIn
import PySem.Challenge.RW_partswithin_k04_whole_picture_texts
set_option Elab.async false
set_option linter.all false
set_option maxRecDepth 100000
set_option maxHeartbeats 4200000
namespace Mine
open PySem PySem.W PySem.Calls PyProof.Rows PySem.HandSPX
/-! ### an own class beneath ValueError, called with keywords too -/
/-- its object in the heap -/
def VeAt (h : Heap) (C : Addr) : Prop := ∃ nm q N bs up sn sub ab col dd k0 k1 k2 k3 k5, h.get? C = some (excClassObj nm q C N bs up true sn sub ab col dd k0 k1 k2 k3 k5 "ValueError.__new__") ∧ refsVE up = true
theorem VeAt.keeps {h h' : Heap} {C : Addr} (V : VeAt h C) (k : ∀ b o, h.get? b = some o → h'.get? b = some o) : VeAt h' C := by
  obtain ⟨nm, q, N, bs, up, sn, sub, ab, col, dd, k0, k1, k2, k3, k5, e, r⟩ := V
  exact ⟨nm, q, N, bs, up, sn, sub, ab, col, dd, k0, k1, k2, k3, k5, k _ _ e, r⟩
theorem over_ve {C : Addr} {up : List Value} (r : refsVE up = true) {T : String} {b : Bool} (e : veTail.contains (.type T) = b) : (Value.ref C :: up).contains (.type T) = b := by
  rw [List.contains_cons, refsVE_contains T up r, e]
  cases b <;> rfl
/-- the heap with the new exception of C behind the tuple of what it was made with -/
abbrev withX (h : Heap) (C : Addr) (us : List Value) : Heap := (h.push (kdv_tup us)).push (excO C h.objs.size)
theorem withX_keeps {h : Heap} {C : Addr} {us : List Value} (b : Addr) (o : Obj) (e : h.get? b = some o) : (withX h C us).get? b = some o :=
  Heap.get?_push_of_some _ (Heap.get?_push_of_some _ e)
theorem withX_at {h : Heap} {C : Addr} {us : List Value} : (withX h C us).get? (h.objs.size + 1) = some (excO C h.objs.size) := by heap_get
section
variable {pr : Program} {w : World} {A : Around} {E : Value → Shared → Prop} {R : Result → Shared → Prop} {s : Shared} {C fI : Addr} {us : List Value} {ks : List (Str × Value)}
theorem ve_check {m : Model} {Q : Unit → Shared → Prop} (V : VeAt s.heap C) (q : Q () s) : wpAny m A (checkBuiltinCall "ValueError.__new__" ⟨.ref C :: us, ks⟩) Q E s := by
  obtain ⟨hp, gs, dr, tk, os⟩ := s
  obtain ⟨_, _, _, _, _, _, _, _, _, _, _, _, _, _, _, here, r⟩ := V
  have VE := PySem.F.excBase_ValueError
  have yes := over_ve (C := C) r VE.hasB
  have star := VE.noStar
  simp only [checkBuiltinCall, VE.newKind, VE.newSplit, VE.newRow]
  repeat (first
    | refine wpAny_loadPart_at here ?_
    | (refine wpAny_isSubtype_exc here ?_
       rw [yes])
    | refine wpAny_staticBase_exc here ?_
    | refine wpAny_madeBy_exc here ?_
    | simp only [bne_self_eq_false, Bool.false_eq_true, if_false]
    | wp_step)
  exact q
theorem ve_new (V : VeAt s.heap C) (few : us.length ≤ sizeLine) (q : R (.ok (.ret (.ref (s.heap.objs.size + 1)))) { s with heap := withX s.heap C us }) : codeAny (model pr w) A (.builtin "ValueError.__new__" ⟨.ref C :: us, ks⟩) R s := by
  obtain ⟨hp, gs, dr, tk, os⟩ := s
  obtain ⟨_, _, _, _, _, _, _, _, _, _, _, _, _, _, _, here, r⟩ := V
  have VE := PySem.F.excBase_ValueError
  have ends := VE.ends
  have yes := over_ve (C := C) r VE.hasB
  have noA := over_ve (C := C) r VE.noAttr
  have noN := over_ve (C := C) r VE.noName
  refine codeAny_builtinAt VE.entry ?_
  unfold PySem.Builtin.«BaseException.__new__»
  refine PySem.wpAt_bind (PySem.wpAt_bind (PySem.wpAt_stack fun _ _ => PySem.wpAt_of_wpAny ?_))
  wp_walk
  refine PySem.wpAt_of_wpAny ?_
  rw [VE.owner]
  repeat (first
    | with_reducible refine wpAny_madeHere_exc VE.canon here ?_
    | with_reducible refine wpAny_loadPart_at here ?_
    | (with_reducible refine wpAny_isSubtype_exc here ?_
       first
         | rw [yes]
         | rw [noA]
         | rw [noN])
    | wp_step)
  show R _ _
  rw [Heap.size_push]
  exact q
/-- type.__call__ on such a class with its own __init__ -/
theorem ve_make {Q : Fin → Shared → Prop} (V : VeAt s.heap C) (look : Looks (model pr w) s.heap (typeLookup (.ref C) "__init__") (some (.ref fI))) (bnd : ∀ x, Looks (model pr w) s.heap (bindSpecial (.ref fI) x) (.ref fI, [x])) (few : us.length ≤ sizeLine)
    (q : codeAny (model pr w) A (.call (.ref fI) ⟨.ref (s.heap.objs.size + 1) :: us, ks⟩) (fun r s2 => match r with
      | .ok (.ret v) => v = .none ∧ Q (.done (.ret (.ref (s.heap.objs.size + 1)))) s2
      | .ok _ => False
      | .error e => E e s2) { s with heap := withX s.heap C us }) : wpAny (model pr w) A (Builtin.«type.__call__» ⟨.ref C :: us, ks⟩) Q E s := by
  have V0 := V
  obtain ⟨hp, gs, dr, tk, os⟩ := s
  obtain ⟨_, _, _, _, up, _, _, _, _, _, _, _, _, _, _, here, r⟩ := V
  repeat (first
    | with_reducible refine wpAny_loadPart_at here ?_
    | with_reducible refine wpAny_madeBy_exc here ?_
    | wp_step)
  refine codeAny_call_builtin_code (Code.quiet_builtin _ PySem.F.excBase_ValueError.quiet) (ve_check V0 (ve_new V0 few ?_))
  show wpAny _ _ _ _ _ _
  have here2 := withX_keeps (C := C) (us := us) _ _ here
  have itself : (Value.ref C :: up).contains (.ref C) = true := by simp
  have made := withX_at (h := hp) (C := C) (us := us)
  have look2 := look.keeps (withX_keeps (C := C) (us := us))
  have bnd2 := (bnd (.ref (hp.objs.size + 1))).keeps (withX_keeps (C := C) (us := us))
  unfold isInstance
  repeat (first
    | with_reducible refine wpAny_loadPart_at made ?_
    | (with_reducible refine wpAny_isSubtype_exc here2 ?_
       rw [itself])
    | wp_step)
  refine look2.at (wpAny_holding (wpAny_bind (bnd2.at (wpAny_bind (wpAny_call (codeAny_mono q fun z s2 hz => ?_))))))
  match z, hz with
  | .error _, hz => exact hz
  | .ok (.ret _), ⟨rfl, hz⟩ =>
    first
      | exact wpAny_pure (wpAny_pure hz)
      | (wp_walk; exact hz)
/-- such a class, called -/
theorem ve_call (V : VeAt s.heap C) (look : Looks (model pr w) s.heap (typeLookup (.ref C) "__init__") (some (.ref fI))) (bnd : ∀ x, Looks (model pr w) s.heap (bindSpecial (.ref fI) x) (.ref fI, [x])) (few : us.length ≤ sizeLine)
    (q : codeAny (model pr w) (A.under (.builtin "type.__call__" ⟨.ref C :: us, ks⟩)) (.call (.ref fI) ⟨.ref (s.heap.objs.size + 1) :: us, ks⟩) (InitBack (s.heap.objs.size + 1) R) { s with heap := withX s.heap C us }) :
    codeAny (model pr w) A (.call (.ref C) ⟨us, ks⟩) R s := by
  have V0 := V
  obtain ⟨hp, gs, dr, tk, os⟩ := s
  obtain ⟨_, _, _, _, _, _, _, _, _, _, _, _, _, _, _, here, _⟩ := V
  have f1 := tc_lookup
  have f2 := tc_bind (.ref C)
  have ty : (⟨hp, gs, dr, tk, os⟩ : Shared).TypeIs (.ref C) "type" := ⟨_, here, rfl⟩
  refine codeAny_of_tree ?_
  show wpAny (model pr w) _ (callAny (.ref C) ⟨us, ks⟩) _ _ _
  repeat (any_goals (first
    | assumption
    | with_reducible refine wpAny_loadPart_at here ?_
    | wp_step))
  refine ⟨rfl, codeAny_call_builtin_at (Code.quiet_builtin _ (by decide +kernel)) entry_typeCall (wpAny_check_type_call_sub here (ve_make V0 look bnd few (codeAny_mono q fun z s2 hz => ?_)))⟩
  match z, hz with
  | .error _, hz => exact hz
  | .ok (.ret _), hz => exact hz
end
end Mine
namespace Mine
open PySem L2 PySem.Spec PyProof.Rows
/-- C(e, ..), C an own exception class with its own __init__: the exception as a value -/
def tMkV (C : Addr) (sp : Sp) (dvs : List V) (ta : TA) : TE := fun σ H Q => ta σ H fun vs H1 => vs.length ≤ 1000 ∧ ∀ a, H1 a = none → sp (.ref a :: (vs ++ dvs)) (upd H1 a (exo a C none))
  (fun v H2 => v = .non ∧ Q (.ref a) H2) (fun _ _ _ => False)
/-- C(k = e, ..): by keywords alone -/
def tMkK (C : Addr) (n : Nat) (sp : Sp) (gV : List V → List V → List V) (tk : TA) : TE := fun σ H Q => tk σ H fun zs H1 => zs.length = n ∧ ∀ a, H1 a = none → sp (gV [.ref a] zs) (upd H1 a (exo a C none))
  (fun v H2 => v = .non ∧ Q (.ref a) H2) (fun _ _ _ => False)
section
variable {X : Cx} {CX : CXT} {C fI : Addr} {k : Nat} {fd : FuncData} {ps : List Str} {sp : Sp}
theorem oex_at {h : Heap} (T : OexC X.K C) (kin : X.K.In h) : VeAt h C := by
  obtain ⟨nm, q, N, bs, up, sn, sub, ab, col, dd, k0, k1, k2, k3, k5, e, r⟩ := T.cls
  exact ⟨nm, q, N, bs, up, sn, sub, ab, col, dd, k0, k1, k2, k3, k5, kin _ _ e, r⟩
/-- the call itself: a the new exception, all the parameters' values told by vs -/
theorem make_x {pins : List (Addr × Obj)} {σ : L2.St} {H : Hp} {s : Shared} {Q : VK} {us all : List Value} {ks : List (Str × Value)} {vs : List V} (T : OexC X.K C) (iC : PySem.W.findIn X.K (.ref C) "__init__" = some (some (.ref fI))) (tI : PySem.W.typeIn X.K (.ref fI) = some (.type "function"))
    (G : FnOk X.prog X.w X.K X.mg X.base CX k fI fd ps sp) (room : Room (k + 1) X.A) (out : Passes CX X (fun _ _ _ => False)) (I : Inv X pins σ H s) (few : us.length ≤ sizeLine)
    (bnd : ∀ s2 : Shared, X.K.In s2.heap → BindsTo s2 fd ⟨.ref (s.heap.objs.size + 1) :: us, ks⟩ (ps.zip all)) (rv : Vals vs all)
    (q : sp vs (upd H (s.heap.objs.size + 1) (exo (s.heap.objs.size + 1) C none)) (fun v H2 => v = .non ∧ Q (.ref (s.heap.objs.size + 1)) H2) fun _ _ _ => False) : wpAny (model X.prog X.w) X.A (call (.ref C) us ks) (EP X pins σ Q) X.xe s := by
  have J := I.laid (t' := s.toks) (a := s.heap.objs.size + 1) (o := exo (s.heap.objs.size + 1) C none) (h' := withX s.heap C us) withX_keeps (Nat.le_succ _) (exo_ok withX_at)
  refine wpAny_call (ve_call (oex_at T I.kIn) (PySem.W.looks_findIn I.kIn iC) (fun x => PySem.W.bind_fn I.kIn x tI) few
    (codeAny_mono (G.run _ X.stack _ _ _ all _ _ (fun _ _ _ => False) (room.make C us ks) (J.env0.make C us ks) (bnd _ J.kIn) rv q) fun z s2 hz => ?_))
  match z, hz with
  | .error er, hz => exact out pins σ _ _ er s2 J hz
  | .ok (.ret u), ⟨v, H2, y1, y2, y3, y4, y5, e, y6⟩ =>
    subst e
    obtain ⟨h2, g2, d2, t2, o2⟩ := s2
    exact ⟨y5, .ref (s.heap.objs.size + 1), H2, J.call' (ch := []) y1 y3 y4 y2 (fun b z => absurd z (by simp)), rfl, y6⟩
theorem pe_mkx {e : Expr} {es : List Expr} {ta : TA} {p pos : Pos} {x : Str} {ds : List Value} {dvs : List V} (T : OexC X.K C) (iC : PySem.W.findIn X.K (.ref C) "__init__" = some (some (.ref fI))) (tI : PySem.W.typeIn X.K (.ref fI) = some (.type "function")) (G : FnOk X.prog X.w X.K X.mg X.base CX k fI fd ps sp) (room : Room (k + 1) X.A) (bnd : Binds X.K fd ps ds) (rd : Vals dvs ds) (out : Passes CX X (fun _ _ _ => False)) (glob : Gl X x) (mC : X.mg x = some (.ref C)) (args : PA X (e :: es) ta)
    (nd : (x == ("__debug__" : Str)) = false := by decide) (line : starEach (e :: es) X.env = (false, eval e X.env) :: starEach es X.env := by rfl) (none2 : (backTo pos (starEach es X.env)).any (·.1) = false := by rfl) : PE X (.Call (.Name x p) (e :: es) [] pos) (tMkV C sp dvs ta) := by
  refine ⟨fun pins s0 σ H Q I0 h => wpAny_Call_Name_kw (ld_glob I0 glob mC ?_ nd)⟩
  refine PySem.W.callWith_K (h₀ := X.base) I0.ok.mod.kin T.kC (thn (args.run pos pins s0 σ H _ I0 h) fun us s ⟨vs, H1, I, r, len, q⟩ => ⟨I.kIn, ?_⟩) line none2
  have qa := q _ (I.hok.fresh (Nat.le_succ _))
  have rv : Vals (V.ref (s.heap.objs.size + 1) :: (vs ++ dvs)) (Value.ref (s.heap.objs.size + 1) :: us ++ ds) := .cons rfl (r.append rd)
  refine make_x (us := us) T iC tI G room out I (by rw [← Paired.length r, sizeLine_eq]; omega) (fun s2 kin => bnd s2 (Value.ref (s.heap.objs.size + 1) :: us) kin ?_) rv qa
  have le := rv.length
  rw [G.len _ _ _ _ qa] at le
  exact le.symm
theorem pe_mkxK {x : Str} {p pos : Pos} {ks : List Str} {kws : List Keyword} {tk : TA} {g : List Value → List Value → List Value} {gV : List V → List V → List V} (T : OexC X.K C) (iC : PySem.W.findIn X.K (.ref C) "__init__" = some (some (.ref fI))) (tI : PySem.W.typeIn X.K (.ref fI) = some (.type "function")) (G : FnOk X.prog X.w X.K X.mg X.base CX k fI fd ps sp) (room : Room (k + 1) X.A) (bnd : KBn X.K fd ps 1 ks g gV) (out : Passes CX X (fun _ _ _ => False)) (glob : Gl X x) (mC : X.mg x = some (.ref C)) (keys : PK X kws tk)
    (named : (backToKw pos (keywordEach kws X.env)).all (·.1.isSome) = true := by rfl) (names : (backToKw pos (keywordEach kws X.env)).filterMap (·.1) = ks := by rfl) (nd : (x == ("__debug__" : Str)) = false := by decide) (none2 : ((backTo pos (starEach [] X.env)).any (·.1) || (backToKw pos (keywordEach kws X.env)).any (·.1.isNone)) = false := by rfl) : PE X (.Call (.Name x p) [] kws pos) (tMkK C ks.length sp gV tk) := by
  refine ⟨fun pins s0 σ H Q I0 h => wpAny_Call_Name_kw (ld_glob I0 glob mC ?_ nd)⟩
  refine PySem.W.callWith_KW0 (h₀ := X.base) I0.ok.mod.kin T.kC named (thn (keys.run pos pins s0 σ H _ I0 h) fun ws s ⟨zs, H1, I, r, len, q⟩ => ⟨I.kIn, ?_⟩) none2
  rw [names]
  exact make_x T iC tI G room out I (Nat.zero_le _) (fun s2 kin => bnd.to s2 [_] ws kin rfl (r.length.symm.trans len)) (bnd.rel (vs := [.ref (s.heap.objs.size + 1)]) (.cons rfl .nil) r) (q _ (I.hok.fresh (Nat.le_succ _)))
end
/-! ### __init__ that stores its parameters -/
def spInit1 (K : PySem.W.Frag) (C : Addr) (fld : Str) : Sp := fun vs H Q _ => ∃ (a : Addr) (v : V), vs = [.ref a, v] ∧ OexC K C ∧ PySem.W.findIn K (.ref C) fld = some none ∧ H a = some (exo a C none) ∧
  ∀ dx, H dx = none → dx ≠ a → Q .non (upd (upd H dx (exd dx [(fld, v)])) a (exo a C (some dx)))
def spInit2 (K : PySem.W.Frag) (C : Addr) (f1 f2 : Str) : Sp := fun vs H Q _ => ∃ (a : Addr) (v1 v2 : V), vs = [.ref a, v1, v2] ∧ OexC K C ∧ PySem.W.findIn K (.ref C) f1 = some none ∧ PySem.W.findIn K (.ref C) f2 = some none ∧ H a = some (exo a C none) ∧
  ∀ dx, H dx = none → dx ≠ a → Q .non (upd (upd (upd H dx (exd dx [(f1, v1)])) a (exo a C (some dx))) dx (exd dx [(f2, v2), (f1, v1)]))
section
variable {w : World} {P : Program} {base : Heap} {K : PySem.W.Frag} {mg : Str → Option Value}
theorem ok_init1 {f C : Addr} {fd : FuncData} {qual p fld : Str} {st : Stmt} {q1 q2 q3 q4 : Pos} (F : Fun K "__init__" qual st f fd) (S : FnScope ["self", p] ["self", p] (defScope st))
    (hb : defBody st = [.Assign [.Attribute (.Name "self" q1) fld q2] (.Name p q3) q4]) (h0 : (defScope st).names.lookup ("self" : Str) = some NameKind.local) (h1 : (defScope st).names.lookup p = some NameKind.local) (hd : (p == ("__debug__" : Str)) = false) (hcd : (p == ("__classdict__" : Str)) = false) :
    FnOk P w K mg base CX0 1 f fd ["self", p] (spInit1 K C fld) := by
  refine F.ok S (fun vs H Q E h => ?_) (fun cdv A outer s H vs Q E hr h => ?_)
  · obtain ⟨a, v, rfl, _⟩ := h
    rfl
  · obtain ⟨a, v, rfl, T, no, ha, k⟩ := h
    rw [hb]
    refine ⟨_, pss_one (ps_ost (pe_var (i := 0) rfl (Or.inl h0)) (pe_var (i := 1) rfl (Or.inl h1) hd hcd)), ?_⟩
    exact ⟨_, rfl, _, rfl, a, C, rfl, T, no, .inl ⟨ha, fun dx n ne => k dx n ne⟩⟩
theorem ok_init2 {f C : Addr} {fd : FuncData} {qual p1 p2 f1 f2 : Str} {st : Stmt} {q1 q2 q3 q4 r1 r2 r3 r4 : Pos} (F : Fun K "__init__" qual st f fd) (S : FnScope ["self", p1, p2] ["self", p1, p2] (defScope st))
    (hb : defBody st = [.Assign [.Attribute (.Name "self" q1) f1 q2] (.Name p1 q3) q4, .Assign [.Attribute (.Name "self" r1) f2 r2] (.Name p2 r3) r4]) (h0 : (defScope st).names.lookup ("self" : Str) = some NameKind.local) (h1 : (defScope st).names.lookup p1 = some NameKind.local) (h2 : (defScope st).names.lookup p2 = some NameKind.local)
    (hd : (p1 == ("__debug__" : Str)) = false) (hcd : (p1 == ("__classdict__" : Str)) = false) (hd' : (p2 == ("__debug__" : Str)) = false) (hcd' : (p2 == ("__classdict__" : Str)) = false) :
    FnOk P w K mg base CX0 1 f fd ["self", p1, p2] (spInit2 K C f1 f2) := by
  refine F.ok S (fun vs H Q E h => ?_) (fun cdv A outer s H vs Q E hr h => ?_)
  · obtain ⟨a, v1, v2, rfl, _⟩ := h
    rfl
  · obtain ⟨a, v1, v2, rfl, T, no1, no2, ha, k⟩ := h
    rw [hb]
    refine ⟨_, pss_cons (ps_ost (pe_var (i := 0) rfl (Or.inl h0)) (pe_var (i := 1) rfl (Or.inl h1) hd hcd)) (pss_one (ps_ost (pe_var (i := 0) rfl (Or.inl h0)) (pe_var (i := 2) rfl (Or.inl h2) hd' hcd'))), ?_⟩
    refine ⟨_, rfl, _, rfl, a, C, rfl, T, no1, .inl ⟨ha, fun dx n ne => ?_⟩⟩
    refine ⟨_, rfl, _, rfl, a, C, rfl, T, no2, .inr ⟨dx, _, upd_same, by rw [upd_ne ne, upd_same], (by show 1 ≤ 900; decide), ?_⟩⟩
    exact k dx n ne
end
/-! ### an exception as a value -/
def ExcV (H : Hp) (a C : Addr) (fs : List (Str × V)) : Prop := (∃ dx, H a = some (exo a C (some dx)) ∧ H dx = some (exd dx fs)) ∨ (fs = [] ∧ H a = some (exo a C none))
theorem ExcV.same {H H' : Hp} {a C : Addr} {fs : List (Str × V)} (x : ExcV H a C fs) (s : Same H H') : ExcV H' a C fs := by
  rcases x with ⟨dx, h1, h2⟩ | ⟨e, h1⟩
  · exact .inl ⟨dx, s _ _ h1, s _ _ h2⟩
  · exact .inr ⟨e, s _ _ h1⟩
/-- C(..): a new exception that holds what its arguments tell -/
def tExcV (C : Addr) (mk : List V → Option (List (Str × V))) (ta : TA) : TE := fun σ H Q => ta σ H fun vs H1 => ∃ fs, mk vs = some fs ∧ ∀ a H2, H1 a = none → Same H1 H2 → ExcV H2 a C fs → Q (.ref a) H2
def mk1 (f : Str) : List V → Option (List (Str × V))
  | [v] => some [(f, v)]
  | _ => none
def mk2 (f1 f2 : Str) : List V → Option (List (Str × V))
  | [v1, v2] => some [(f2, v2), (f1, v1)]
  | _ => none
/-- by keywords in the other order -/
def mk2r (f1 f2 : Str) : List V → Option (List (Str × V))
  | [v2, v1] => some [(f2, v2), (f1, v1)]
  | _ => none
theorem PE.imp {X : Cx} {e : Expr} {t t' : TE} (h : PE X e t) (i : ∀ σ H Q, t' σ H Q → t σ H Q) : PE X e t' := ⟨fun pins s σ H Q I q => h.run pins s σ H Q I (i σ H Q q)⟩
theorem PA.mono' {X : Cx} {es : List Expr} {t : TA} (h : PA X es t) : True := trivial
theorem same_new2 {H : Hp} {a dx : Addr} {o1 o2 : HO} (ha : H a = none) (hd : H dx = none) : Same H (upd (upd H dx o1) a o2) := fun b o e => by
  rw [upd_ne (ne_of_none e ha), upd_ne (ne_of_none e hd)]
  exact e
/-- what the written part says of an exception class of one field -/
structure XC1 (P : Program) (w : World) (K : PySem.W.Frag) (mg : Str → Option Value) (base : Heap) (x : Str) (C : Addr) (fld p : Str) : Prop where
  oex : OexC K C
  no : PySem.W.findIn K (.ref C) fld = some none
  gC : mg x = some (.ref C)
  ini : ∃ (fI : Addr) (fd : FuncData), PySem.W.findIn K (.ref C) "__init__" = some (some (.ref fI)) ∧ PySem.W.typeIn K (.ref fI) = some (.type "function") ∧ FnOk P w K mg base CX0 1 fI fd ["self", p] (spInit1 K C fld) ∧ Binds K fd ["self", p] [] ∧ KBn K fd ["self", p] 1 [p] (fun us ws => us ++ ws) (fun vs zs => vs ++ zs)
structure XC2 (P : Program) (w : World) (K : PySem.W.Frag) (mg : Str → Option Value) (base : Heap) (x : Str) (C : Addr) (f1 f2 p1 p2 : Str) : Prop where
  oex : OexC K C
  no1 : PySem.W.findIn K (.ref C) f1 = some none
  no2 : PySem.W.findIn K (.ref C) f2 = some none
  gC : mg x = some (.ref C)
  ini : ∃ (fI : Addr) (fd : FuncData), PySem.W.findIn K (.ref C) "__init__" = some (some (.ref fI)) ∧ PySem.W.typeIn K (.ref fI) = some (.type "function") ∧ FnOk P w K mg base CX0 1 fI fd ["self", p1, p2] (spInit2 K C f1 f2) ∧ Binds K fd ["self", p1, p2] [] ∧
    KBn K fd ["self", p1, p2] 1 [p2, p1] (fun us ws => us ++ ws.reverse) (fun vs zs => vs ++ zs.reverse)
section
variable {X : Cx} {x fld p' f1 f2 p1 p2 : Str} {C : Addr} {e : Expr} {es : List Expr} {ta tk : TA} {p pos : Pos} {kws : List Keyword}
theorem pe_x1 (T : XC1 X.prog X.w X.K X.mg X.base x C fld p') (hr : Room 2 X.A) (hx : Passes CX0 X (fun _ _ _ => False)) (hg : Gl X x) (ha : PA X (e :: es) ta) (mono : ∀ σ H Q Q', (∀ vs H1, Q vs H1 → Q' vs H1) → ta σ H Q → ta σ H Q') (hdb : (x == ("__debug__" : Str)) = false := by decide) (he : starEach (e :: es) X.env = (false, eval e X.env) :: starEach es X.env := by rfl) (hpl : (backTo pos (starEach es X.env)).any (·.1) = false := by rfl) :
    PE X (.Call (.Name x p) (e :: es) [] pos) (tExcV C (mk1 fld) ta) := by
  obtain ⟨fI, fd, iC, tI, F1, hb, _⟩ := T.ini
  refine PE.imp (pe_mkx (dvs := []) T.oex iC tI F1 hr hb .nil hx hg T.gC ha hdb he hpl) fun σ H Q h => ?_
  refine mono σ H _ _ (fun vs H1 hq => ?_) h
  obtain ⟨fs, e1, q⟩ := hq
  match vs, e1 with
  | [v], e1 =>
    cases e1
    refine ⟨by show 1 ≤ 1000; decide, fun a ha => ⟨a, v, rfl, T.oex, T.no, upd_same, fun dx n ne => ⟨rfl, ?_⟩⟩⟩
    rw [upd_ne ne] at n
    have e2 : upd (upd (upd H1 a (exo a C none)) dx (exd dx [(fld, v)])) a (exo a C (some dx)) = upd (upd H1 dx (exd dx [(fld, v)])) a (exo a C (some dx)) := by
      funext b
      by_cases hb : b = a
      · rw [hb, upd_same, upd_same]
      · rw [upd_ne hb, upd_ne hb]
        by_cases hd : b = dx
        · rw [hd, upd_same, upd_same]
        · rw [upd_ne hd, upd_ne hd, upd_ne hb]
    rw [e2]
    exact q a _ ha (same_new2 ha n) (.inl ⟨dx, upd_same, by rw [upd_ne ne, upd_same]⟩)
theorem pe_x1K (T : XC1 X.prog X.w X.K X.mg X.base x C fld p') (hr : Room 2 X.A) (hx : Passes CX0 X (fun _ _ _ => False)) (hg : Gl X x) (hkw : PK X kws tk) (mono : ∀ σ H Q Q', (∀ vs H1, Q vs H1 → Q' vs H1) → tk σ H Q → tk σ H Q')
    (hall : (backToKw pos (keywordEach kws X.env)).all (·.1.isSome) = true := by rfl) (hks : (backToKw pos (keywordEach kws X.env)).filterMap (·.1) = [p'] := by rfl) (hdb : (x == ("__debug__" : Str)) = false := by decide) (hpl : ((backTo pos (starEach [] X.env)).any (·.1) || (backToKw pos (keywordEach kws X.env)).any (·.1.isNone)) = false := by rfl) :
    PE X (.Call (.Name x p) [] kws pos) (tExcV C (mk1 fld) tk) := by
  obtain ⟨fI, fd, iC, tI, F1, _, hb⟩ := T.ini
  refine PE.imp (pe_mkxK T.oex iC tI F1 hr hb hx hg T.gC hkw hall hks hdb hpl) fun σ H Q h => ?_
  refine mono σ H _ _ (fun vs H1 hq => ?_) h
  obtain ⟨fs, e1, q⟩ := hq
  match vs, e1 with
  | [v], e1 =>
    cases e1
    refine ⟨rfl, fun a ha => ⟨a, v, rfl, T.oex, T.no, upd_same, fun dx n ne => ⟨rfl, ?_⟩⟩⟩
    rw [upd_ne ne] at n
    have e2 : upd (upd (upd H1 a (exo a C none)) dx (exd dx [(fld, v)])) a (exo a C (some dx)) = upd (upd H1 dx (exd dx [(fld, v)])) a (exo a C (some dx)) := by
      funext b
      by_cases hb : b = a
      · rw [hb, upd_same, upd_same]
      · rw [upd_ne hb, upd_ne hb]
        by_cases hd : b = dx
        · rw [hd, upd_same, upd_same]
        · rw [upd_ne hd, upd_ne hd, upd_ne hb]
    rw [e2]
    exact q a _ ha (same_new2 ha n) (.inl ⟨dx, upd_same, by rw [upd_ne ne, upd_same]⟩)
theorem fin2 {H1 : Hp} {a dx : Addr} {o1 o2 o3 o4 : HO} (ne : dx ≠ a) : upd (upd (upd (upd H1 a o1) dx o2) a o3) dx o4 = upd (upd H1 dx o4) a o3 := by
  funext b
  by_cases hb : b = a
  · rw [hb, upd_same, upd_ne ne.symm, upd_same]
  · rw [upd_ne hb]
    by_cases hd : b = dx
    · rw [hd, upd_same, upd_same]
    · rw [upd_ne hd, upd_ne hb, upd_ne hd, upd_ne hb, upd_ne hd]
theorem pe_x2 (T : XC2 X.prog X.w X.K X.mg X.base x C f1 f2 p1 p2) (hr : Room 2 X.A) (hx : Passes CX0 X (fun _ _ _ => False)) (hg : Gl X x) (ha : PA X (e :: es) ta) (mono : ∀ σ H Q Q', (∀ vs H1, Q vs H1 → Q' vs H1) → ta σ H Q → ta σ H Q') (hdb : (x == ("__debug__" : Str)) = false := by decide) (he : starEach (e :: es) X.env = (false, eval e X.env) :: starEach es X.env := by rfl) (hpl : (backTo pos (starEach es X.env)).any (·.1) = false := by rfl) :
    PE X (.Call (.Name x p) (e :: es) [] pos) (tExcV C (mk2 f1 f2) ta) := by
  obtain ⟨fI, fd, iC, tI, F1, hb, _⟩ := T.ini
  refine PE.imp (pe_mkx (dvs := []) T.oex iC tI F1 hr hb .nil hx hg T.gC ha hdb he hpl) fun σ H Q h => ?_
  refine mono σ H _ _ (fun vs H1 hq => ?_) h
  obtain ⟨fs, e1, q⟩ := hq
  match vs, e1 with
  | [v1, v2], e1 =>
    cases e1
    refine ⟨by show 2 ≤ 1000; decide, fun a ha => ⟨a, v1, v2, rfl, T.oex, T.no1, T.no2, upd_same, fun dx n ne => ⟨rfl, ?_⟩⟩⟩
    rw [upd_ne ne] at n
    rw [fin2 ne]
    exact q a _ ha (same_new2 ha n) (.inl ⟨dx, upd_same, by rw [upd_ne ne, upd_same]⟩)
theorem pe_x2K (T : XC2 X.prog X.w X.K X.mg X.base x C f1 f2 p1 p2) (hr : Room 2 X.A) (hx : Passes CX0 X (fun _ _ _ => False)) (hg : Gl X x) (hkw : PK X kws tk) (mono : ∀ σ H Q Q', (∀ vs H1, Q vs H1 → Q' vs H1) → tk σ H Q → tk σ H Q')
    (hall : (backToKw pos (keywordEach kws X.env)).all (·.1.isSome) = true := by rfl) (hks : (backToKw pos (keywordEach kws X.env)).filterMap (·.1) = [p2, p1] := by rfl) (hdb : (x == ("__debug__" : Str)) = false := by decide) (hpl : ((backTo pos (starEach [] X.env)).any (·.1) || (backToKw pos (keywordEach kws X.env)).any (·.1.isNone)) = false := by rfl) :
    PE X (.Call (.Name x p) [] kws pos) (tExcV C (mk2r f1 f2) tk) := by
  obtain ⟨fI, fd, iC, tI, F1, _, hb⟩ := T.ini
  refine PE.imp (pe_mkxK T.oex iC tI F1 hr hb hx hg T.gC hkw hall hks hdb hpl) fun σ H Q h => ?_
  refine mono σ H _ _ (fun vs H1 hq => ?_) h
  obtain ⟨fs, e1, q⟩ := hq
  match vs, e1 with
  | [v2, v1], e1 =>
    cases e1
    refine ⟨rfl, fun a ha => ⟨a, v1, v2, rfl, T.oex, T.no1, T.no2, upd_same, fun dx n ne => ⟨rfl, ?_⟩⟩⟩
    rw [upd_ne ne] at n
    rw [fin2 ne]
    exact q a _ ha (same_new2 ha n) (.inl ⟨dx, upd_same, by rw [upd_ne ne, upd_same]⟩)
/-- C(), C without an own __init__ -/
theorem pe_x0 {bmB : List Value} {B newId initId : String} (F : ExcBaseFacts B newId initId bmB) (q : PySem.W.excIn X.K C bmB newId = true) (gC : X.mg x = some (.ref C)) (kC : PySem.W.keepIn X.K (.ref C) = true) (hg : Gl X x) (hdb : (x == ("__debug__" : Str)) = false := by decide) :
    PE X (.Call (.Name x p) [] [] pos) (fun σ H Q => ∀ a H2, H a = none → Same H H2 → ExcV H2 a C [] → Q (.ref a) H2) := by
  refine ⟨fun pins s σ H Q I h => wpAny_Call_Name_kw (ld_glob I hg gC ?_ hdb)⟩
  refine PySem.W.callWith_K0 (I.kIn) kC ?_
  show wpAny _ _ (call (.ref C) []) _ _ _
  obtain ⟨bm, N, nm, qn, bs, hdct, sn, sub, ab, col, dd, k0, k1, k2, k3, k5, mN, hC, hN, hni, T⟩ := exc_obj I.kIn q
  refine wpAny_call_exc_subT F T hC hN hni (fun h' a hm => ?_) (Nat.zero_le _)
  have hn : H a = none := I.hok.gone hm.new
  obtain ⟨t, ht, _⟩ := hm.there
  exact ⟨.ref a, upd H a (exo a C none), I.laidN hm.keeps hm.new hn (exo_ok ht), rfl, h a _ hn (fun b o e => by rw [upd_ne (ne_of_none e hn)]; exact e) (.inr ⟨rfl, upd_same⟩)⟩
end
end Mine
namespace Mine
open PySem L2 PySem.Spec PyProof.Rows
/-- an exception value's object in the heap -/
theorem exc_inst {X : Cx} {pins : List (Addr × Obj)} {σ : L2.St} {s : Shared} {H : Hp} {a C : Addr} {fs : List (Str × V)} (I : Inv X pins σ H s) (e : ExcV H a C fs) : ∃ (o : Obj) (od : Option Obj), PySem.W.InstAt s.heap a o C od := by
  rcases e with ⟨dx, h1, h2⟩ | ⟨_, h1⟩
  · obtain ⟨t1, hget⟩ := exo_at I.hok h1
    obtain ⟨mA, hns, rel⟩ := exd_at I.hok h2
    obtain ⟨oD, _, _, hoD, _, _⟩ := hns.count (within_of rel)
    exact ⟨_, some oD, hget, rfl, rfl, hoD⟩
  · obtain ⟨t1, hget⟩ := exo_at I.hok h1
    exact ⟨_, none, hget, rfl, rfl, trivial⟩
/-- isinstance of an exception value -/
def rIsX (K : PySem.W.Frag) : List V → Hp → VK → Prop := fun xs H Q => ∃ (a C : Addr) (fs : List (Str × V)) (c : V) (cv : Value) (b : Bool), xs = [.ref a, c] ∧ ExcV H a C fs ∧ ExcC K C ∧ (∀ u, RelV c u → u = cv) ∧ PySem.W.kitOne K (.ref C) cv = some b ∧ Q (.bl b) H
theorem call_isX {X : Cx} : CallR X (.builtin "isinstance") (rIsX X.K) := by
  rintro pins s σ H xs us Q I r ⟨a, C, fs, c, cv, b, rfl, hx, E, hcv, e, q⟩
  match us, r with
  | [_, ut], .cons rx (.cons rt .nil) =>
    cases rx
    cases hcv _ rt
    obtain ⟨o, od, J⟩ := exc_inst I hx
    have here : (PySem.W.clsIn X.K C).isSome = true := by
      obtain ⟨cd, z, _⟩ := PySem.W.any_some E.hd
      rw [z]
      rfl
    exact PySem.W.kia_one (PySem.W.kitx_exc here E.hg E.hk E.hs E.ha E.hn E.ht E.hm) I.kIn J e (fun z => nomatch z) fun tk => ⟨.bl b, H, I.kept (t' := tk) fun _ _ z => z, rfl, q⟩
/-- e.n of an exception value -/
def tXat (K : PySem.W.Frag) (n : Str) (te : TE) : TE := fun σ H Q => te σ H fun x H1 => ∃ (a C : Addr) (fs : List (Str × V)) (v : V), x = .ref a ∧ XfC K C ∧ PySem.W.findIn K (.ref C) n = some none ∧ ExcV H1 a C fs ∧ fs.lookup n = some v ∧ Q v H1
theorem pe_xat {X : Cx} {e : Expr} {te : TE} {pos : Pos} {n : Str} (he : PE X e te) (hb : attributeBase e n X.env (eval e X.env) = eval e X.env := by rfl) : PE X (.Attribute e n pos) (tXat X.K n te) := by
  refine ⟨fun pins s0 σ H Q I0 h => attr_of hb (thn (he.run pins s0 σ H _ I0 h) fun u s1 ⟨x, H1, I1, rx, a, C, fs, v, ex, T, hno, hx, l, q⟩ => ?_)⟩
  subst ex
  cases rx
  obtain ⟨dx, h1, h2⟩ : ∃ dx, H1 a = some (exo a C (some dx)) ∧ H1 dx = some (exd dx fs) := by
    rcases hx with hx | ⟨e, _⟩
    · exact hx
    · rw [e] at l
      cases l
  obtain ⟨t1, hget⟩ := exo_at I1.hok h1
  obtain ⟨mA, hns, hr⟩ := exd_at I1.hok h2
  obtain ⟨od, ho, look⟩ := lookIn_ns hns
  obtain ⟨u, hu, ru⟩ := RelO.some_of (v := v) (o := mA n) (l ▸ hr n)
  have J : PySem.W.InstAt s1.heap a { cls := .ref C, dict := some dx, data := .fields #[.ref t1, .none, .none, .none, .bool false, .none] } C (some od) := ⟨hget, rfl, rfl, ho⟩
  have own := PySem.W.findObj_own T.hdC hno rfl (by rw [look, hu])
  exact HandSPX.exc_get I1.kIn J T.ga T.gg T.exC own (handed_of ru) ⟨v, H1, I1.tok _, ru, q⟩
end Mine
namespace Mine
open PySem L2 PySem.Spec PyProof.Rows LamX NdefX
/-! ### lambdas as values: made, called -/
/-- at f: the lambda of the code record at F.c -/
def LamO (f : Addr) (F : NF) (bE : Expr) : HO := .ext fun h => ∃ (od : Option Addr) (sl : Array (Option Value)) (pm ctv : Value), h.get? f = some (⟨.type "function", od, .func (PySem.W.kla_fn F.name F.qual F.params bE F.scope F.cl pm (.ref F.c) ctv), sl⟩ : Obj)
theorem lamO_ne {f : Addr} {F : NF} {bE : Expr} (ps : Array Value) : LamO f F bE ≠ .tbl ps := fun z => by
  unfold LamO at z
  cases z
theorem lamO_at {P : Program} {w : World} {H : Hp} {h : Heap} {f : Addr} {F : NF} {bE : Expr} (hok : HOk P w H h) (e : H f = some (LamO f F bE)) : ∃ (od : Option Addr) (sl : Array (Option Value)) (pm ctv : Value), h.get? f = some (⟨.type "function", od, .func (PySem.W.kla_fn F.name F.qual F.params bE F.scope F.cl pm (.ref F.c) ctv), sl⟩ : Obj) := by
  have x : ObjOk P w H h f (.ext fun h => ∃ (od : Option Addr) (sl : Array (Option Value)) (pm ctv : Value), h.get? f = some (⟨.type "function", od, .func (PySem.W.kla_fn F.name F.qual F.params bE F.scope F.cl pm (.ref F.c) ctv), sl⟩ : Obj)) := hok f _ e
  exact x.1
theorem lamO_ok {P : Program} {w : World} {H : Hp} {h : Heap} {f : Addr} {F : NF} {bE : Expr} {pm ctv : Value} (e : h.get? f = some (PySem.W.kla_obj F.name F.qual F.params bE F.scope F.cl pm F.c ctv)) : ObjOk P w H h f (LamO f F bE) :=
  ⟨⟨none, _, pm, ctv, e⟩, ⟨_, e⟩, fun h1 h2 ⟨od, sl, pm, ctv, z⟩ k => ⟨od, sl, pm, ctv, k _ z⟩⟩
/-- the table of the code objects, one more written in -/
abbrev oneMore (H : Hp) (P c' : Addr) (ps : Array Value) (pos : Pos) (q : Str) : Hp := upd (upd H P (.tbl (ps ++ #[rawInt pos.line, rawInt pos.col, .ref c']))) c' (CodeO c' q)
theorem more_ext {H : Hp} {P c' : Addr} {ps : Array Value} {pos : Pos} {q : Str} (at_ : H P = some (.tbl ps)) (new : H c' = none) : ExtN H (oneMore H P c' ps pos q) := fun b o e n => by
  have n1 : b ≠ c' := ne_of_none e new
  have n2 : b ≠ P := by
    rintro rfl
    cases at_.symm.trans e
    exact n ps rfl
  rw [oneMore, upd_ne n1, upd_ne n2, e]
theorem more_tabs {T : List (Addr × Str)} {H : Hp} {P c' : Addr} {ps : Array Value} {pos : Pos} {q : Str} (all : Tabs T H) (at_ : H P = some (.tbl ps)) (new : H c' = none) (one : ∀ p ∈ T, p.1 = P → p.2 = q) : Tabs T (oneMore H P c' ps pos q) := fun p hp => by
  have keep := more_ext (pos := pos) (q := q) at_ new
  obtain ⟨us, z1, z2, z3⟩ := all p hp
  have n1 : p.1 ≠ c' := ne_of_none z1 new
  by_cases here : p.1 = P
  · have eu : us = ps := by
      rw [here, at_] at z1
      cases z1
      rfl
    subst eu
    rw [one p hp here] at z3 ⊢
    refine ⟨us ++ #[rawInt pos.line, rawInt pos.col, .ref c'], by rw [oneMore, upd_ne n1, here, upd_same], ?_, fun p2 cv hc => ?_⟩ <;> rw [Array.toList_append] at *
    · exact PySem.TriplesOk_snoc pos.line pos.col (.ref c') _ z2
    · rcases among_app us.toList z2 hc with old | rfl
      · obtain ⟨c0, y1, y2⟩ := z3 p2 cv old
        exact ⟨c0, y1, keep c0 _ y2 codeO_ne⟩
      · exact ⟨c', rfl, upd_same⟩
  · refine ⟨us, by rw [oneMore, upd_ne n1, upd_ne here, z1], z2, fun p2 cv hc => ?_⟩
    obtain ⟨c0, y1, y2⟩ := z3 p2 cv hc
    exact ⟨c0, y1, keep c0 _ y2 codeO_ne⟩
section
variable {s : Shared} {H : Hp} {X : Cx} {σ : L2.St} {pins : List (Addr × Obj)}
/-- a lambda of the text, its code object at c' -/
abbrev lamF (X : Cx) (params : Arguments) (scope : Scope) (c' : Addr) : NF := ⟨"<lambda>", X.env.qual ++ "<lambda>", params, [], scope, cloFrom X.env.cells scope.names [], c'⟩
/-- its function object, laid behind all else -/
theorem lam_laid {T : List (Addr × Str)} {params : Arguments} {body : Expr} {scope : Scope} {h' : Heap} {tk : Nat} {c' : Addr} {pm ctv : Value} {R : Shared → Prop} (I : Inv X pins σ H s) (all : Tabs T H) (code : H c' = some (CodeO c' (X.env.qual ++ "<lambda>"))) (old : ∀ b o, s.heap.get? b = some o → h'.get? b = some o) (size : s.heap.objs.size ≤ h'.objs.size)
    (go : ∀ (f : Addr) (H1 : Hp) (s2 : Shared), s2 = { s with heap := h'.push (PySem.W.kla_obj "<lambda>" (X.env.qual ++ "<lambda>") params body scope (cloFrom X.env.cells scope.names []) pm c' ctv), toks := tk } → f = h'.objs.size → Inv X pins σ H1 s2 → Same H H1 → Tabs T H1 → H1 f = some (LamO f (lamF X params scope c') body) → H1 c' = some (CodeO c' (X.env.qual ++ "<lambda>")) → R s2) :
    R { s with heap := h'.push (PySem.W.kla_obj "<lambda>" (X.env.qual ++ "<lambda>") params body scope (cloFrom X.env.cells scope.names []) pm c' ctv), toks := tk } := by
  have new : H h'.objs.size = none := I.hok.fresh size
  have st : Same H (upd H h'.objs.size (LamO h'.objs.size (lamF X params scope c') body)) := fun b o e => by
    rw [upd_ne (ne_of_none e new), e]
  exact go _ _ _ rfl rfl (I.laid (fun b o e => Heap.get?_push_of_some _ (old b o e)) size (lamO_ok (Heap.get?_push_size _ rfl))) st (all.ext st) upd_same (st _ _ code)
theorem lamv_make {T : List (Addr × Str)} {c P : Addr} {params : Arguments} {body : Expr} {scope : Scope} {pos : Pos} {E : Value → Shared → Prop} {Q : Value → Shared → Prop} (I : Inv X pins σ H s) (B : TabB X.base X.mg c P) (code : X.env.code = .ref c) (mem : (P, X.env.qual ++ "<lambda>") ∈ T) (one : ∀ p ∈ T, p.1 = P → p.2 = X.env.qual ++ "<lambda>") (all : Tabs T H)
    (plain : defaultsOf params X.env = ([], [])) (caught : ∀ y ∈ scope.names, y.2 = .free → ∃ c, X.env.cells.lookup y.1 = some c)
    (go : ∀ (f c' : Addr) (H1 : Hp) (s2 : Shared), Inv X pins σ H1 s2 → ExtN H H1 → Tabs T H1 → H f = none → H1 f = some (LamO f (lamF X params scope c') body) → H1 c' = some (CodeO c' (X.env.qual ++ "<lambda>")) → Q (.ref f) s2) : wpAny (model X.prog X.w) X.A (eval (.Lambda params body scope pos) X.env) Q E s := by
  obtain ⟨ps, atP, ok3, codes⟩ := all _ mem
  have tab := I.hok P _ atP
  cases known : codeAmong pos ps.toList with
  | some cv =>
    obtain ⟨c', rfl, atC⟩ := codes pos cv known
    refine PySem.W.kla_eval plain (PySem.W.kla_makeFunctionHit (closure_ok caught) I.ok.glob (I.mod.glob.keeps I.bk) code (B.code.keeps I.bk) tab ok3 known (B.bm.keeps I.bk) fun ctv h' tk old size => ?_)
    refine lam_laid (R := Q (.ref h'.objs.size)) I all atC old size fun f H1 s2 _ ef I1 st t1 l1 c1 => ?_
    subst ef
    exact go _ c' H1 s2 I1 (ExtN.of st) t1 (I.hok.fresh size) l1 c1
  | none =>
    refine PySem.W.kla_eval plain (PySem.W.kla_makeFunction (closure_ok caught) I.ok.glob (I.mod.glob.keeps I.bk) code (B.code.keeps I.bk) tab ok3 known B.gP (B.bm.keeps I.bk) fun c' ctv h' tk old ge lt rec tab2 => ?_)
    obtain ⟨_, oc, vs, t, ec, y1, y2, y3⟩ := rec
    cases ec
    have new : H c' = none := I.hok.fresh ge
    have size := Nat.le_trans ge (Nat.le_of_lt lt)
    have I1 : Inv X pins σ (oneMore H P c' ps pos (X.env.qual ++ "<lambda>")) { s with heap := h', toks := tk } := inv_table I atP old tab2 ge ⟨oc, vs, t, y1, y2, y3⟩
    refine lam_laid (s := { s with heap := h', toks := tk }) (R := Q (.ref h'.objs.size)) I1 (more_tabs all atP new one) upd_same (fun b o e => e) (Nat.le_refl _) fun f H1 s2 _ ef I2 st t1 l1 c1 => ?_
    subst ef
    exact go _ c' H1 s2 I2 ((more_ext atP new).trans (ExtN.of st)) t1 (I.hok.fresh size) l1 c1
/-- a lambda as a value -/
def tLamV (T : List (Addr × Str)) (mk : Addr → NF) (bE : Expr) : TE := fun σ H Q => Tabs T H ∧ ∀ (f c' : Addr) (H1 : Hp), ExtN H H1 → Tabs T H1 → H f = none → H1 f = some (LamO f (mk c') bE) → H1 c' = some (CodeO c' (mk c').qual) → Q (.ref f) H1
theorem pe_lamv {T : List (Addr × Str)} {c P : Addr} {params : Arguments} {body : Expr} {scope : Scope} {pos : Pos} (TB : TabB X.base X.mg c P) (hcode : X.env.code = .ref c)
    (hm : (P, X.env.qual ++ "<lambda>") ∈ T) (hu : ∀ p ∈ T, p.1 = P → p.2 = X.env.qual ++ "<lambda>") (hdef : defaultsOf params X.env = ([], []) := by rfl) (hfree : ∀ y ∈ scope.names, y.2 = .free → X.env.scope.names.lookup y.1 = some .cell ∨ X.env.scope.names.lookup y.1 = some .free) :
    PE X (.Lambda params body scope pos) (tLamV T (fun c' => ⟨"<lambda>", X.env.qual ++ "<lambda>", params, [], scope, cloFrom X.env.cells scope.names [], c'⟩) body) := by
  refine ⟨fun pins s σ H Q I ⟨hT, h⟩ => ?_⟩
  refine lamv_make I TB hcode hm hu hT hdef (fun y hy e => I.ok.has _ (hfree y hy e)) fun f c' H1 s' I1 e1 t1 n1 l1 c1 => ?_
  exact ⟨.ref f, H1, I1, rfl, h f c' H1 e1 t1 n1 l1 c1⟩
end
/-! ### called -/
structure LOk (P : Program) (w : World) (K : PySem.W.Frag) (mg : Str → Option Value) (base : Heap) (CX : CXT) (k : Nat) (f : Addr) (F : NF) (bE : Expr) (ps fr : List Str) (sp : List (Option V) → Sp) : Prop where
  many : ∀ ws vs H Q E, sp ws vs H Q E → vs.length = ps.length
  does : ∀ (A : Around) (outer : List Env) (s : Shared) (H : Hp) (us : List Value) (vs : List V) (ws : List (Option V)) (Q : VK) (E : XK), Room k A → Env0 P w K mg base A outer s H → H f = some (LamO f F bE) → H F.c = some (CodeO F.c F.qual) → CellsAt F.cl fr ws s.heap H → Vals vs us →
    sp ws vs H Q E → codeAny (model P w) A (.call (.ref f) ⟨us, []⟩) (CR CX outer P w H s Q E) s
section
variable {CX : CXT} {w : World} {P : Program} {base : Heap} {K : PySem.W.Frag} {mg : Str → Option Value} {N ps fr : List Str} {F : NF} {bE : Expr} {f : Addr} {k j : Nat} {sp sp' : List (Option V) → Sp}
theorem lok_of (S : NScope N ps fr F.scope) (bnd : ∀ (pm ctv : Value) (us : List Value), us.length = ps.length → bindArgs (PySem.W.kla_fn F.name F.qual F.params bE F.scope F.cl pm (.ref F.c) ctv) ⟨us, []⟩ = pure (ps.zip us)) (many : ∀ ws vs H Q E, sp ws vs H Q E → vs.length = ps.length)
    (body : ∀ (A : Around) (outer : List Env) (s : Shared) (H : Hp) (vs : List V) (ws : List (Option V)) (Q : VK) (E : XK), Room k (A.deeper (envF F f s.heap.objs.size)) → ws.length = fr.length → sp ws vs H Q E →
      ∃ t, PE (ncx CX P w K mg base N F f A outer s H E) bE t ∧ t (startF N vs ws) H Q) : LOk P w K mg base CX (k + 1) f F bE ps fr sp := by
  refine ⟨many, fun A outer s H us vs ws Q E room e0 atF atC cells rv told => ?_⟩
  have le := many _ _ _ _ _ told
  obtain ⟨t, term, go⟩ := body A outer s H vs ws Q E (room.deeper _) cells.len told
  obtain ⟨od, sl, pm, ctv, fn⟩ := lamO_at e0.hok atF
  have free : s.heap.NoLimit := e0.mod.nolimit.keeps fun b o e => (e0.bs b o e).1
  refine PySem.W.kla_callFunE room.depth fn rfl S.co S.gen rfl (codeO_at e0.hok atC) ?_
  rw [bnd pm ctv us (rv.length.symm.trans le)]
  refine wpAny_pure (wpAny_newFunctionEnv S.nocell (fun y hy => S.par y.1 (List.of_mem_zip hy).1) (fun h1 frame but => ⟨free.fresh _ but, ?_⟩) S.kind)
  show codeAny _ _ (.expr bE (envF F f s.heap.objs.size)) _ _
  have old : ∀ b o, s.heap.get? b = some o → h1.get? b = some o := fun b o e => by
    have lt := Heap.lt_size e
    exact but.extBut b o (Nat.ne_of_lt lt) (Heap.get?_push_of_some _ e)
  have I := inv_startN (CX := CX) (F := F) (f := f) (E := E) (tk := s.toks + (ps.zip us).length) S room.hd e0 le rv cells frame old
  exact PySem.W.kla_codeExpr (wpAny_mono (term.run [] _ (startF N vs ws) H _ I go) (fun v s2 ⟨v2, H2, J, r2, q2⟩ => ⟨v2, H2, J.os, J.bare, J.base, J.hok, r2, q2⟩) fun e s2 z => z)
end
section
variable {X : Cx} {CX : CXT} {k j i : Nat} {mk : Addr → NF} {bE : Expr} {ps : List Str} {sp : Addr → Addr → Sp} {E : XK} {x : Str} {p pos : Pos} {e : Expr} {es : List Expr} {t : TA}
theorem run_l {pins : List (Addr × Obj)} {σ : L2.St} {H : Hp} {s : Shared} {Q : VK} {f : Addr} {F : NF} {us : List Value} {vs : List V} {spl : List (Option V) → Sp} (Fn : LOk X.prog X.w X.K X.mg X.base CX k f F bE ps [] spl) (hcl : F.cl = []) (hr : Room j X.A) (hk : k ≤ j) (hx : Passes CX X E)
    (I : Inv X pins σ H s) (hf : H f = some (LamO f F bE)) (hc : H F.c = some (CodeO F.c F.qual)) (r : Vals vs us) (h : spl [] vs H Q E) : wpAny (model X.prog X.w) X.A (call (.ref f) us) (EP X pins σ Q) X.xe s := by
  have C : CellsAt F.cl [] [] s.heap H := by
    rw [hcl]
    exact ⟨rfl, fun y c z => (nomatch z), fun x y c z => (nomatch z), fun i y z => absurd z (by simp)⟩
  refine wpAny_call (codeAny_mono (Fn.does X.A X.stack s H us vs [] Q E (hr.mono hk) I.env0 hf hc C r h) fun z s2 hz => ?_)
  match z, hz with
  | .error er, hz => exact hx pins σ H s er s2 I hz
  | .ok (.ret u), hz => exact I.after hz
theorem lamAt_of {pins : List (Addr × Obj)} {σ : L2.St} {H : Hp} {s : Shared} {f : Addr} {F : NF} (I : Inv X pins σ H s) (e : H f = some (LamO f F bE)) : PySem.W.FnAt f s.heap := by
  obtain ⟨od, sl, pm, ctv, ho⟩ := lamO_at I.hok e
  exact ⟨_, _, _, _, ho⟩
/-- what is called: some lambda at the slot's address, its promise told -/
def tCallLam (P : Program) (w : World) (K : PySem.W.Frag) (mg : Str → Option Value) (base : Heap) (CX : CXT) (k i : Nat) (E : XK) (t : TA) : TE := fun σ H Q => ∃ (f : Addr) (F : NF) (bE : Expr) (ps : List Str) (spl : List (Option V) → Sp), σ[i]? = some (some (.ref f)) ∧
  LOk P w K mg base CX k f F bE ps [] spl ∧ F.cl = [] ∧ H f = some (LamO f F bE) ∧ t σ H fun vs H1 => H1 f = some (LamO f F bE) ∧ H1 F.c = some (CodeO F.c F.qual) ∧ spl [] vs H1 Q E
theorem pe_callLam (hr : Room j X.A) (hk : k ≤ j) (hx : Passes CX X E) (hN : X.N[i]? = some x) (hv : Vis X.env.scope x) (ha : PA X (e :: es) t) (hd : (x == ("__debug__" : Str)) = false := by decide) (hcd : (x == ("__classdict__" : Str)) = false := by decide) (he : starEach (e :: es) X.env = (false, eval e X.env) :: starEach es X.env := by rfl) (hpl : (backTo pos (starEach es X.env)).any (·.1) = false := by rfl) :
    PE X (.Call (.Name x p) (e :: es) [] pos) (tCallLam X.prog X.w X.K X.mg X.base CX k i E t) := by
  refine ⟨fun pins s σ H Q I ⟨f, F, bE, ps, spl, hs, Fn, hcl, hf, ht⟩ => ?_⟩
  refine wpAny_Call_Name_kw (thn ((pe_var (pos := p) (i := i) hN hv hd hcd).run pins s σ H (fun v H1 => v = .ref f ∧ H1 = H) I ⟨.ref f, hs, rfl, rfl⟩) fun u s1 ⟨v, H1, I1, r1, q1⟩ => ?_)
  obtain ⟨ev, eH⟩ := q1
  subst ev
  rw [eH] at I1
  cases r1
  refine PySem.W.callWith_F (lamAt_of I1 hf) (thn (ha.run pos pins s1 σ H _ I1 ht) fun us s2 ⟨vs, H2, I2, r2, hf2, hc2, q2⟩ => ⟨lamAt_of I2 hf2, ?_⟩) he hpl
  exact run_l (us := us) Fn hcl hr hk hx I2 hf2 hc2 r2 q2
end
end Mine
namespace Mine
open PySem L2 PySem.Spec PyProof.Rows
/-- what can be shown: flat data without dicts, or a dict of one text key and an int -/
def ItemD (K : PySem.W.Frag) (H : Hp) (v : V) (d : PyData) : Prop := (Dp K H v d ∧ d.hasDict = false) ∨ ∃ (a : Addr) (k : Str) (i : Int), v = .ref a ∧ H a = some (.dK [(Sum.inr k, .int i)]) ∧ d = .dict [(.str k, .int i)]
inductive ItemsD (K : PySem.W.Frag) (H : Hp) : List V → List PyData → Prop
  | nil : ItemsD K H [] []
  | cons {v : V} {vs : List V} {d : PyData} {ds : List PyData} : ItemD K H v d → ItemsD K H vs ds → ItemsD K H (v :: vs) (d :: ds)
section
variable {s : Shared} {H : Hp} {X : Cx} {σ : L2.St} {pins : List (Addr × Obj)}
theorem ItemD.reads (I : Inv X pins σ H s) {v : V} {d : PyData} {u : Value} (x : ItemD X.K H v d) (r : RelV v u) : ∃ as, Reads s.heap u d as ∧ (d.hasDict = true → sysModules ∉ as) := by
  rcases x with ⟨x, hd⟩ | ⟨a, k, i, rfl, ha, rfl⟩
  · obtain ⟨as, h⟩ := Dp.reads I d v u x r
    exact ⟨as, h, fun z => by rw [hd] at z; cases z⟩
  · obtain rfl : u = Value.ref a := r
    obtain ⟨_, hsys, vs, hkv, o, es, ep, e1, e2, e3, e4, e5, e6⟩ := I.hok a _ ha
    cases hkv with
    | cons q1 q2 =>
      cases q2
      rename_i p
      obtain ⟨pk, pv⟩ := p
      obtain ⟨q3, q4⟩ := q1
      dsimp only at q3 q4
      subst q3
      obtain ⟨t, rfl⟩ := q4
      generalize hel : es.toList = el at e5
      cases e5 with
      | cons z1 z2 z3 =>
        cases z3
        rename_i e
        obtain ⟨t', ek⟩ : ∃ t', e.key = Value.str k t' := by
          rcases keyIs_shape (show keyIs (.inr k) e.key = true from z1) with ⟨j, t', y1, y2⟩ | ⟨x, t', y1, y2⟩
          · cases y1
          · cases y1
            exact ⟨t', y2⟩
        have h1 : ReadsAll s.heap (es.toList.map (·.key)) (([((.str k : PyData), (.int i : PyData))]).map (·.1)) [] := by
          rw [hel]
          show ReadsAll s.heap [e.key] [.str k] ([] ++ [])
          rw [ek]
          exact .cons (.str _ _) .nil
        have h2 : ReadsAll s.heap (es.toList.map (·.val)) (([((.str k : PyData), (.int i : PyData))]).map (·.2)) [] := by
          rw [hel]
          show ReadsAll s.heap [e.val] [.int i] ([] ++ [])
          rw [show e.val = Value.int i t from z2]
          exact .cons (.int _ _) .nil
        refine ⟨_, .dict e1 e2.1 e3 h1 h2, fun _ hm => ?_⟩
        have e : sysModules = a := by simpa using hm
        rw [← e] at hsys
        simp at hsys
theorem ItemsD.shows (I : Inv X pins σ H s) : ∀ {vs : List V} {ds : List PyData} {us : List Value}, ItemsD X.K H vs ds → Vals vs us → PyData.showableAll ds = true → (∀ t ∈ PyData.shownAll ds, t.length ≤ sizeLine) →
    ∃ as bs, ReadsAll s.heap us ds as ∧ ReadAtMost s.heap (PyData.depthAll ds) bs ∧ ReprAllK X.prog X.w bs s.heap (PyData.depthAll ds) us (PyData.shownAll ds)
  | _, _, _, .nil, .nil, _, _ => ⟨[], [], .nil, (fun _ h => nomatch h), by simp only [PyData.shownAll]; exact .nil⟩
  | _, _, _, .cons (d := d) (ds := ds) x xs, .cons r rs, hs, hz => by
    obtain ⟨hs1, hs2⟩ : d.showable = true ∧ PyData.showableAll ds = true := by simpa [PyData.showableAll] using hs
    have hzs : ∀ t ∈ d.shown :: PyData.shownAll ds, t.length ≤ sizeLine := fun t ht => hz t (by simp only [PyData.shownAll]; exact ht)
    obtain ⟨a1, y1, y2⟩ := x.reads I r
    obtain ⟨b1, hb1, k1⟩ := ReprK.of_reads (prog := X.prog) (w := X.w) y1 hs1 y2 (hzs _ (List.mem_cons_self ..))
    obtain ⟨a2, b2, y3, hb2, k2⟩ := ItemsD.shows I xs rs hs2 fun t ht => hzs t (List.mem_cons_of_mem _ ht)
    refine ⟨a1 ++ a2, b1 ++ b2, .cons y1 y3, fun b hm => ?_, ?_⟩
    · rcases List.mem_append.1 hm with hm | hm
      · obtain ⟨e, es, z1, z2⟩ := hb1 b hm
        exact ⟨e, es, z1, by simp only [PyData.depthAll]; omega⟩
      · obtain ⟨e, es, z1, z2⟩ := hb2 b hm
        exact ⟨e, es, z1, by simp only [PyData.depthAll]; omega⟩
    · have l1 : d.depth ≤ PyData.depthAll (d :: ds) := by simp only [PyData.depthAll]; omega
      have l2 : PyData.depthAll ds ≤ PyData.depthAll (d :: ds) := by simp only [PyData.depthAll]; omega
      have m1 := (k1.more (as' := b1 ++ b2) fun b hb => List.mem_append_left _ hb).level_le l1
      have m2 := k2.more_le (as' := b1 ++ b2) (fun b hb => List.mem_append_right _ hb) l2
      show ReprAllK _ _ _ _ _ _ (d.shown :: PyData.shownAll ds)
      exact .cons m1 m2
/-- repr(l), l a list -/
def rReprL (K : PySem.W.Frag) : List V → Hp → VK → Prop := fun xs H Q => ∃ (p : Addr) (vs : List V) (ds : List PyData), xs = [.ref p] ∧ H p = some (.lst vs) ∧ ItemsD K H vs ds ∧ PyData.showableAll ds = true ∧ PyData.depthAll ds ≤ 60 ∧ (listText (PyData.shownAll ds)).length ≤ sizeLine ∧ Q (.str (listText (PyData.shownAll ds))) H
theorem call_reprL (hg : X.A.guards = some []) (hu : X.A.units + 64 < cLine) : CallR X (.builtin "repr") (rReprL X.K) := by
  rintro pins s σ H xs us Q I r ⟨p, vs, ds, rfl, hp, hI, hs, hd, hz, q⟩
  cases r with
  | cons r1 rr =>
    cases rr
    cases r1
    obtain ⟨hl, its, n, rv, ho⟩ := I.hok p _ hp
    obtain ⟨as, bs, y1, y2, y3⟩ := hI.shows I rv hs fun t ht => Nat.le_trans (listText_mem_le ht) hz
    have R : Reads s.heap (.ref p) (.list ds) _ := .list (n := n) ho rfl rfl (by simpa using y1)
    have hna : p ∉ bs := not_mem_of_deeper R (by simp only [PyData.depth]; omega) y2
    have fin : ∀ (h' : Heap) (u : Tok) (tk : Nat), (∀ b o, s.heap.get? b = some o → h'.get? b = some o) → EP X pins σ Q (.str (listText (PyData.shownAll ds)) u) { s with heap := h', toks := tk } := fun h' u tk k => ⟨.str _, H, I.kept k, ⟨_, rfl⟩, q⟩
    have hT : s.TypeIs (.ref p) "list" := ⟨_, ho, rfl⟩
    refine call_repr_slot (by omega) hT F.slot_list_repr.toG ?_
    cases its with
    | nil =>
      cases y1
      have e : listText (PyData.shownAll []) = ("[]" : Str) := by simp only [PyData.shownAll]; exact listText_nil
      rw [e] at fin
      exact call_list_repr_empty hT ho rfl ⟨_, _, rfl, fin s.heap _ _ fun _ _ z => z⟩
    | cons v its =>
      exact call_list_reprK ho rfl rfl hna (by simpa using y3.length_eq) (fun i y e => y3.item i y (by simpa using e)) hg (fun b _ => Clear.nil b) (by show X.A.units + 1 + _ < cLine; omega) (fun _ _ z => z) (fun h' u tk k => ⟨_, _, rfl, fin h' u tk k⟩) hz
end
end Mine
/-! The texts of pictures, without Python: how far a row can be read, and what it tells. -/
namespace Pic
def dig (c : Nat) : Bool := Nat.ble 48 c && Nat.ble c 57
/-- how many figures stand ahead, k at most -/
def figs : Nat → List Nat → Nat
  | 0, _ => 0
  | _ + 1, [] => 0
  | k + 1, c :: t => if dig c then figs k t + 1 else 0
/-- how long the number ahead is; 0: none is there -/
def numLen : List Nat → Nat
  | [] => 0
  | c :: t => if c = 48 then 1 else figs 16 (c :: t)
/-- how long the integer ahead is, and whether there is one -/
def intRun : List Nat → Nat × Bool
  | [] => (0, false)
  | c :: t => if c = 45 then (if t.head? = some 48 then (1, false) else (1 + numLen t, decide (0 < numLen t))) else (numLen (c :: t), decide (0 < numLen (c :: t)))
/-- the sign that is due behind an integer: w the row's width, 0 for any; h so many stand -/
def sepOk (w h : Nat) (c : Nat) : Bool := if w = 0 then decide (c = 32) || decide (c = 10) else if h < w then decide (c = 32) else decide (c = 10)
/-- how far a row can be read: f the fuel, w the width, h the integers ahead; with the integers if all is right -/
def rowRun : Nat → Nat → Nat → List Nat → Nat × Option Nat
  | 0, _, _, _ => (0, none)
  | f + 1, w, h, l => match intRun l with
    | (n, false) => (n, none)
    | (n, true) => match (l.drop n).head? with
      | none => (n, none)
      | some c => if sepOk w (h + 1) c then (if c = 10 then (n + 1, some (h + 1)) else
          match rowRun f w (h + 1) (l.drop (n + 1)) with
          | (m, r) => (n + 1 + m, r)) else (n, none)
theorem numLen_cons (c : Nat) (t : List Nat) : numLen (c :: t) = if c = 48 then 1 else figs 16 (c :: t) := rfl
theorem intRun_cons (c : Nat) (t : List Nat) : intRun (c :: t) = if c = 45 then (if t.head? = some 48 then (1, false) else (1 + numLen t, decide (0 < numLen t))) else (numLen (c :: t), decide (0 < numLen (c :: t))) := rfl
theorem figs_le : ∀ (k : Nat) (l : List Nat), figs k l ≤ k ∧ figs k l ≤ l.length
  | 0, _ => ⟨Nat.le_refl _, Nat.zero_le _⟩
  | _ + 1, [] => ⟨Nat.zero_le _, Nat.zero_le _⟩
  | k + 1, c :: t => by
    have h := figs_le k t
    simp only [figs, List.length_cons]
    split <;> omega
theorem numLen_le (l : List Nat) : numLen l ≤ 16 ∧ numLen l ≤ l.length := by
  cases l with
  | nil => exact ⟨Nat.zero_le _, Nat.zero_le _⟩
  | cons c t =>
    have h := figs_le 16 (c :: t)
    rw [numLen_cons]
    split
    · exact ⟨by omega, by simp⟩
    · exact h
theorem intRun_le (l : List Nat) : (intRun l).1 ≤ l.length ∧ (intRun l).1 ≤ 17 := by
  cases l with
  | nil => exact ⟨Nat.le_refl _, Nat.zero_le _⟩
  | cons c t =>
    have h := numLen_le t
    have h2 := numLen_le (c :: t)
    rw [intRun_cons]
    rw [List.length_cons] at *
    split
    · split
      · exact ⟨by show 1 ≤ t.length + 1; omega, by show 1 ≤ 17; omega⟩
      · exact ⟨by show 1 + numLen t ≤ t.length + 1; omega, by show 1 + numLen t ≤ 17; omega⟩
    · exact ⟨by show numLen (c :: t) ≤ t.length + 1; omega, by show numLen (c :: t) ≤ 17; omega⟩
theorem intRun_pos {l : List Nat} (h : (intRun l).2 = true) : 0 < (intRun l).1 := by
  cases l with
  | nil => cases h
  | cons c t =>
    rw [intRun_cons] at *
    by_cases e : c = 45
    · rw [if_pos e] at *
      by_cases e2 : t.head? = some 48
      · rw [if_pos e2] at h
        cases h
      · rw [if_neg e2]
        show 0 < 1 + numLen t
        omega
    · rw [if_neg e] at *
      exact of_decide_eq_true h
/-- a number's figures are figures -/
theorem figs_dig : ∀ (k : Nat) (l : List Nat) (i : Nat), i < figs k l → ∃ c, l[i]? = some c ∧ dig c = true
  | 0, _, _, h => absurd h (Nat.not_lt_zero _)
  | _ + 1, [], _, h => absurd h (Nat.not_lt_zero _)
  | k + 1, c :: t, i, h => by
    unfold figs at h
    split at h
    · rename_i hc
      cases i with
      | zero => exact ⟨c, rfl, hc⟩
      | succ i => exact figs_dig k t i (by omega)
    · exact absurd h (Nat.not_lt_zero _)
end Pic
namespace Mine
open PySem L2 PySem.Spec PyProof.Rows
def top (i : Nat) : Stmt := PySem.Challenge.pw_partswithin_k04_whole_picture_texts.main.body.getD i (.Pass ⟨0, 0, 0, 0⟩)
/-! ### the law's own sameness of data -/
mutual
def sameD : PyData → PyData → Bool
  | .list ds, .list fs => sameAll ds fs
  | .tuple ds, .tuple fs => sameAll ds fs
  | .int i, .int j => decide (j = i)
  | .bool b, .bool c => decide (c = b)
  | .none, .none => true
  | .str x, .str y => decide (y = x)
  | _, _ => false
def sameAll : List PyData → List PyData → Bool
  | [], [] => true
  | d :: ds, f :: fs => sameD d f && sameAll ds fs
  | _, _ => false
end
/-! no list too long to be a list -/
mutual
def lenOk : PyData → Bool
  | .list ds => Nat.ble ds.length 100000 && lenAll ds
  | .tuple ds => Nat.ble ds.length 100000 && lenAll ds
  | _ => true
def lenAll : List PyData → Bool
  | [] => true
  | d :: ds => lenOk d && lenAll ds
end
theorem lenAll_get : ∀ {ds : List PyData}, lenAll ds = true → ∀ d ∈ ds, lenOk d = true
  | [], _, _, h => nomatch h
  | d :: ds, e, x, h => by
    have z : (lenOk d && lenAll ds) = true := e
    obtain ⟨z1, z2⟩ := Bool.and_eq_true_iff.mp z
    rcases List.mem_cons.1 h with rfl | h
    · exact z1
    · exact lenAll_get z2 x h
theorem len_list {ds : List PyData} (h : lenOk (.list ds) = true) : ds.length ≤ 100000 ∧ lenAll ds = true := by
  have z : (Nat.ble ds.length 100000 && lenAll ds) = true := h
  obtain ⟨z1, z2⟩ := Bool.and_eq_true_iff.mp z
  exact ⟨Nat.le_of_ble_eq_true z1, z2⟩
theorem len_tuple {ds : List PyData} (h : lenOk (.tuple ds) = true) : ds.length ≤ 100000 ∧ lenAll ds = true := len_list (ds := ds) h
/-- a datum's type -/
def tyD : PyData → String
  | .none => "NoneType"
  | .bool _ => "bool"
  | .int _ => "int"
  | .str _ => "str"
  | .list _ => "list"
  | .tuple _ => "tuple"
  | _ => "dict"
def isT (t c : String) : Bool := decide (t = c) || (decide (t = "bool") && decide (c = "int"))
theorem kit_tab : ∀ t ∈ ["NoneType", "bool", "int", "str", "list", "tuple", "dict"], ∀ c ∈ ["list", "tuple", "dict", "int", "bool"], kitB t c = some (isT t c) := by decide +kernel
theorem ty_mem (d : PyData) : tyD d ∈ ["NoneType", "bool", "int", "str", "list", "tuple", "dict"] := by
  cases d <;> simp [tyD]
theorem kd (d : PyData) (c : String) (h : c ∈ ["list", "tuple", "dict", "int", "bool"] := by simp) : kitB (tyD d) c = some (isT (tyD d) c) := kit_tab _ (ty_mem d) _ h
theorem dp_ty {K : PySem.W.Frag} {H : Hp} {v : V} {d : PyData} (h : Dp K H v d) : TyX K H v (.type (tyD d)) := by
  cases h with
  | non => exact .base .non
  | bl b => exact .base (.bl b)
  | int i => exact .base (.int i)
  | str x => exact .base (.str x)
  | lst s _ => rcases s with (s | ⟨o, s⟩) | ⟨o, its, n, l, c, _⟩
               · exact .base (.lst s)
               · exact .base (.frz s)
               · exact .kList l c
  | tup s _ => rcases s with (s | ⟨o, s⟩) | ⟨o, its, n, l, c, _⟩
               · exact .base (.tup s)
               · exact .fTuple s
               · exact .kTuple l c
theorem sq_s {K : PySem.W.Frag} {H H' : Hp} {a : Addr} {xs : List V} (k : Same H H') (h : SqT K H a xs) : SqT K H' a xs := by
  rcases h with (h | ⟨o, h⟩) | h
  · exact .inl (.inl (k _ _ h))
  · exact .inl (.inr ⟨o, k _ _ h⟩)
  · exact .inr h
mutual
theorem dp_s {K : PySem.W.Frag} {H H' : Hp} (k : Same H H') : ∀ {v : V} {d : PyData}, Dp K H v d → Dp K H' v d
  | _, _, .non => .non
  | _, _, .bl b => .bl b
  | _, _, .int i => .int i
  | _, _, .str x => .str x
  | _, _, .lst s t => .lst (k.seq s) (dpAll_s k t)
  | _, _, .tup s t => .tup (sq_s k s) (dpAll_s k t)
theorem dpAll_s {K : PySem.W.Frag} {H H' : Hp} (k : Same H H') : ∀ {vs : List V} {ds : List PyData}, DpAll K H vs ds → DpAll K H' vs ds
  | _, _, .nil => .nil
  | _, _, .cons a t => .cons (dp_s k a) (dpAll_s k t)
end
section
variable {K : PySem.W.Frag} {H : Hp} {σ : L2.St} {v : V} {d : PyData} {i : Nat} {Q : VK}
theorem rd_isi {c : String} {b : Bool} (hi : σ[i]? = some (some v)) (h : Dp K H v d) (e : kitB (tyD d) c = some b) (q : Q (.bl b) H) : tCB (rIsi K) (tCons (tVar i) (tCons (tC (.ty c)) tNil)) σ H Q := ⟨v, hi, v, .ty c, _, _, b, rfl, .ty c, dp_ty h, kit_ty e, q⟩
theorem kit_or {t a c : String} {x y : Bool} (e1 : kitB t a = some x) (e2 : PySem.W.kitAny K (.type t) [.type c] = some y) : PySem.W.kitAny K (.type t) [.type a, .type c] = some (x || y) := by
  refine kitAny_cons (kit_ty e1) (fun e => ?_) (fun e => ?_)
  · rw [e]
    exact e2
  · rw [e]
    rfl
theorem kit_one' {t a : String} {x : Bool} (e1 : kitB t a = some x) : PySem.W.kitAny K (.type t) [.type a] = some x := by
  refine kitAny_cons (kit_ty e1) (fun e => ?_) (fun e => e)
  rw [e]
  exact kitAny_nil
theorem kit_more {t a : String} {cs : List Value} {x y : Bool} (e1 : kitB t a = some x) (e2 : PySem.W.kitAny K (.type t) cs = some y) : PySem.W.kitAny K (.type t) (.type a :: cs) = some (x || y) := by
  refine kitAny_cons (kit_ty e1) (fun e => ?_) (fun e => ?_)
  · rw [e]
    exact e2
  · rw [e]
    rfl
theorem rd_isi4 {c1 c2 c3 c4 : String} {x y z t' : Bool} (hi : σ[i]? = some (some v)) (h : Dp K H v d) (e1 : kitB (tyD d) c1 = some x) (e2 : kitB (tyD d) c2 = some y) (e3 : kitB (tyD d) c3 = some z) (e4 : kitB (tyD d) c4 = some t') (q : ∀ H', Same H H' → Q (.bl (x || (y || (z || t')))) H') :
    tCB (rIsiT K) (tCons (tVar i) (tCons (tTup (tCons (tC (.ty c1)) (tCons (tC (.ty c2)) (tCons (tC (.ty c3)) (tCons (tC (.ty c4)) tNil))))) tNil)) σ H Q := by
  refine ⟨v, hi, (by show 4 ≤ sizeLine; decide), fun t nt => ?_⟩
  have st : Same H (upd H t (.tup [.ty c1, .ty c2, .ty c3, .ty c4])) := fun b o e => by
    rw [upd_ne (ne_of_none e nt)]
    exact e
  exact ⟨v, t, _, _, _, _, rfl, upd_same, .cons (.ty c1) (.cons (.ty c2) (.cons (.ty c3) (.cons (.ty c4) .nil))), dp_ty (dp_s st h), kit_more e1 (kit_more e2 (kit_or e3 (kit_one' e4))), q _ st⟩
theorem rd_isi2 {c1 c2 : String} {x y : Bool} (hi : σ[i]? = some (some v)) (h : Dp K H v d) (e1 : kitB (tyD d) c1 = some x) (e2 : kitB (tyD d) c2 = some y) (q : ∀ H', Same H H' → Q (.bl (x || y)) H') : tCB (rIsiT K) (tCons (tVar i) (tCons (tTup (tCons (tC (.ty c1)) (tCons (tC (.ty c2)) tNil))) tNil)) σ H Q := by
  refine ⟨v, hi, (by show 2 ≤ sizeLine; decide), fun t nt => ?_⟩
  have st : Same H (upd H t (.tup [.ty c1, .ty c2])) := fun b o e => by
    rw [upd_ne (ne_of_none e nt)]
    exact e
  exact ⟨v, t, _, _, _, _, rfl, upd_same, .cons (.ty c1) (.cons (.ty c2) .nil), dp_ty (dp_s st h), kit_or e1 (kit_one' e2), q _ st⟩
end
theorem eqT {A B : Prop} {x y : Bool} (h : x = y) (a : A) : if decide (V.bl x = V.bl y) = true then A else B := by
  rw [h, decide_eq_true rfl]
  exact iteT a
theorem eqF {A B : Prop} {x y : Bool} (h : x ≠ y) (b : B) : if decide (V.bl x = V.bl y) = true then A else B := by
  rw [decide_eq_false (fun e => h (V.bl.inj e))]
  exact iteF b
theorem dec_i {i j : Int} : decide (V.int i = V.int j) = decide (i = j) := by
  by_cases h : i = j
  · rw [h, decide_eq_true rfl, decide_eq_true rfl]
  · rw [decide_eq_false h, decide_eq_false (fun e => h (V.int.inj e))]
theorem dec_b {i j : Bool} : decide (V.bl i = V.bl j) = decide (i = j) := by
  by_cases h : i = j
  · rw [h, decide_eq_true rfl, decide_eq_true rfl]
  · rw [decide_eq_false h, decide_eq_false (fun e => h (V.bl.inj e))]
theorem dec_s {i j : Str} : decide (V.str i = V.str j) = decide (i = j) := by
  by_cases h : i = j
  · rw [h, decide_eq_true rfl, decide_eq_true rfl]
  · rw [decide_eq_false h, decide_eq_false (fun e => h (V.str.inj e))]
theorem neT {A B : Prop} {x y : Bool} (h : x ≠ y) (a : A) : if (!decide (V.bl x = V.bl y)) = true then A else B := by
  rw [decide_eq_false (fun e => h (V.bl.inj e))]
  exact iteT a
theorem neF {A B : Prop} {x y : Bool} (h : x = y) (b : B) : if (!decide (V.bl x = V.bl y)) = true then A else B := by
  rw [h, decide_eq_true rfl]
  exact iteF b
theorem same_new {H : Hp} {p : Addr} {o : HO} (n : H p = none) : Same H (upd H p o) := fun b x e => by
  rw [upd_ne (ne_of_none e n)]
  exact e
theorem lc_any {J : It} {n : Nat} {g : TG} {tt : TT} {te : TE} {vs : List Nat} {σ : L2.St} {H1 : Hp} {D : Addr} {Qd : Hp → Prop} (Pv : Nat → Hp → Prop) (h0 : Pv 0 (upd H1 D (.lst []))) (go : ∀ i H, i < n → Pv i H → J.go i H) (stop : ∀ H, Pv n H → J.stop n H)
    (turn : ∀ i H x H', i < n → Pv i H → J.yld i H x H' → g x (wipe σ vs) H' fun σ2 H2 => wipe σ2 vs = wipe σ vs ∧ tt σ2 H2 fun b H3 =>
      if b = true then te σ2 H3 fun y H4 => ∃ acc, H4 D = some (.lst acc) ∧ acc.length < sizeLine ∧ Pv (i + 1) (upd H4 D (.lst (acc ++ [y]))) else Pv (i + 1) H3) (hd : ∀ H, Pv n H → Qd H) :
    ∃ W : Nat → Nat → Hp → Prop, (∃ m, W 0 m (upd H1 D (.lst []))) ∧ ∀ i m H, W i m H → (J.stop i H ∧ Qd H) ∨ (J.go i H ∧ ∃ Nx : Hp → Prop, (∀ H', Nx H' → ∃ m', m' < m ∧ W (i + 1) m' H') ∧ ∀ x H', J.yld i H x H' → g x (wipe σ vs) H' fun σ2 H2 => wipe σ2 vs = wipe σ vs ∧ tt σ2 H2 fun b H3 =>
      if b = true then te σ2 H3 fun y H4 => ∃ acc, H4 D = some (.lst acc) ∧ acc.length < sizeLine ∧ Nx (upd H4 D (.lst (acc ++ [y]))) else Nx H3) := by
  refine ⟨fun i m H => m + i = n ∧ Pv i H, ⟨n, rfl, h0⟩, fun i m H hw => ?_⟩
  obtain ⟨le, p⟩ := hw
  match m, le with
  | 0, le =>
    have e : i = n := (Nat.zero_add i).symm.trans le
    subst e
    exact .inl ⟨stop H p, hd H p⟩
  | m + 1, le => exact .inr ⟨go i H (by omega) p, Pv (i + 1), fun H2 p2 => ⟨m, Nat.lt_succ_self m, by omega, p2⟩, fun x H2 y => turn i H x H2 (by omega) p y⟩
theorem sameAll_len : ∀ {ds fs : List PyData}, ds.length ≠ fs.length → sameAll ds fs = false
  | [], [], h => absurd rfl h
  | [], _ :: _, _ => rfl
  | _ :: _, [], _ => rfl
  | d :: ds, f :: fs, h => by
    show (sameD d f && sameAll ds fs) = false
    rw [sameAll_len (fun e => h (by rw [List.length_cons, List.length_cons, e]))]
    exact Bool.and_false _
theorem sameAll_zip : ∀ {ds fs : List PyData}, ds.length = fs.length → (List.zipWith sameD ds fs).all id = sameAll ds fs
  | [], [], _ => rfl
  | [], _ :: _, h => by cases h
  | _ :: _, [], h => by cases h
  | d :: ds, f :: fs, h => by
    show (sameD d f && (List.zipWith sameD ds fs).all id) = (sameD d f && sameAll ds fs)
    rw [sameAll_zip (Nat.succ.inj h)]
theorem dpAll_len {K : PySem.W.Frag} {H : Hp} : ∀ {vs : List V} {ds : List PyData}, DpAll K H vs ds → vs.length = ds.length
  | _, _, .nil => rfl
  | _, _, .cons _ t => congrArg Nat.succ (dpAll_len t)
theorem dpAll_get {K : PySem.W.Frag} {H : Hp} : ∀ {vs : List V} {ds : List PyData} {i : Nat} {v : V}, DpAll K H vs ds → vs[i]? = some v → ∃ d, ds[i]? = some d ∧ Dp K H v d
  | _, _, _, _, .nil, e => by
    rw [List.getElem?_nil] at e
    cases e
  | _, _, 0, _, .cons a _, e => by
    cases e
    exact ⟨_, rfl, a⟩
  | _ :: vs, _ :: ds, i + 1, v, .cons _ t, e => dpAll_get (vs := vs) (ds := ds) (i := i) (v := v) t e
theorem depth_get : ∀ {ds : List PyData} {i : Nat} {d : PyData}, ds[i]? = some d → d.depth ≤ PyData.depthAll ds
  | [], _, _, e => by
    rw [List.getElem?_nil] at e
    cases e
  | d :: ds, 0, _, e => by
    cases e
    simp only [PyData.depthAll]
    omega
  | d :: ds, i + 1, x, e => by
    have h : x.depth ≤ PyData.depthAll ds := depth_get (i := i) e
    simp only [PyData.depthAll]
    omega
abbrev sSame : Stmt := top 35
theorem scSame : FnScope ["_law_found", "_law_due", "_law_x", "_law_y"] ["_law_found", "_law_due"] (defScope sSame) := ⟨rfl, rfl, rfl, by decide +kernel, rfl, by decide +kernel, by decide +kernel⟩
structure TS4 (mg : Str → Option Value) : Prop where
  isi : mg "isinstance" = none
  list : mg "list" = none
  tuple : mg "tuple" = none
  dict : mg "dict" = none
  int : mg "int" = none
  bool : mg "bool" = none
  len : mg "len" = none
  all : mg "all" = none
  zip : mg "zip" = none
def spSame (K : PySem.W.Frag) (n : Nat) : Sp := fun vs H Q _ => ∃ (v u : V) (f d : PyData), vs = [v, u] ∧ Dp K H v f ∧ Dp K H u d ∧ lenOk d = true ∧ d.depth < n ∧ ∀ H', Same H H' → Q (.bl (sameD d f)) H'
section
variable {w : World} {P : Program} {base : Heap} {K : PySem.W.Frag} {mg : Str → Option Value}
theorem ok_same {f : Addr} {fd : FuncData} (F : Fun K "_law_same" "_law_same" sSame f fd) (T : TS4 mg) (g : mg "_law_same" = some (.ref f)) (b : Binds K fd ["_law_found", "_law_due"] []) : ∀ n, FnOk P w K mg base CX0 n f fd ["_law_found", "_law_due"] (spSame K n)
  | 0 => ⟨fun vs H Q E ⟨_, _, _, _, _, _, _, _, z, _⟩ => absurd z (Nat.not_lt_zero _), fun _ _ _ _ _ _ _ _ _ _ _ _ _ ⟨_, _, _, _, _, _, _, _, z, _⟩ => absurd z (Nat.not_lt_zero _)⟩
  | n + 1 => by
    have G := ok_same F T g b n
    refine F.ok scSame (fun vs H Q E h => ?_) (fun cdv A outer s H vs Q E hr h => ?_)
    · obtain ⟨v, u, f, d, rfl, _⟩ := h
      rfl
    · obtain ⟨v, u, fo, d, rfl, hf, hd, ln, dep, kk⟩ := h
      refine ⟨_, pss_cons (ps_if (pt_val (pe_callB call_isiT (by rfl) T.isi (by decide +kernel) (pa_cons (pv 1) (pa_cons (pe_tup (pa_cons (pe_bltn (v := .ty "list") (by rfl) T.list (by decide +kernel) rfl) (pa_cons (pe_bltn (v := .ty "tuple") (by rfl) T.tuple (by decide +kernel) rfl) pa_nil))) pa_nil))))
          (pss_cons (ps_if (PW.pt (pw_or (pt_cmpR op_ne (pe_callB call_isi (by rfl) T.isi (by decide +kernel) (pa_cons (pv 0) (pa_cons (pe_bltn (v := .ty "list") (by rfl) T.list (by decide +kernel) rfl) pa_nil))) (pe_callB call_isi (by rfl) T.isi (by decide +kernel) (pa_cons (pv 1) (pa_cons (pe_bltn (v := .ty "list") (by rfl) T.list (by decide +kernel) rfl) pa_nil))) (nomark _))
              (pw_or1 (pt_cmpR op_ne (pe_callB call_isi (by rfl) T.isi (by decide +kernel) (pa_cons (pv 0) (pa_cons (pe_bltn (v := .ty "tuple") (by rfl) T.tuple (by decide +kernel) rfl) pa_nil))) (pe_callB call_isi (by rfl) T.isi (by decide +kernel) (pa_cons (pv 1) (pa_cons (pe_bltn (v := .ty "tuple") (by rfl) T.tuple (by decide +kernel) rfl) pa_nil))) (nomark _)))))
            (pss_one (ps_ret pe_bl)) pss_nil)
          (pss_one (ps_ret (pe_and (pe_cmpR op_eq (pe_callB call_len_seq (by rfl) T.len PySem.boot_len (pa_cons (pv 0) pa_nil)) (pe_callB call_len_seq (by rfl) T.len PySem.boot_len (pa_cons (pv 1) pa_nil)) (nomark _))
            (pe_one (pe_callB (cr_all rfl) (by rfl) T.all (by decide +kernel) (pa_cons (pe_lc (own := [("_law_x", 2), ("_law_y", 3)]) (g := gTup K 2 (gCons (gName 2) (gCons (gName 3) gNil))) (tt := tYes) (te := tCall (spSame K n) [] E0 (tCons (tVar 2) (tCons (tVar 3) tNil))) rfl scSame.nd (RZ.pi_zipA (by rfl) T.zip (pa_cons (pv 0) (pa_cons (pv 1) pa_nil)))
              (blkOk_by (own := [("_law_x", 2), ("_law_y", 3)]) (N := ["_law_found", "_law_due", "_law_x", "_law_y"]) (sc := defScope sSame) (by decide +kernel)) (fun _ _ _ _ _ => pg_tup rfl (pgs_cons (pg_name (i := 2) scSame.nd rfl (Or.inl rfl)) (pgs_cons (pg_name (i := 3) scSame.nd rfl (Or.inl rfl)) pgs_nil))) (fun _ _ _ _ _ => pts_nil) (fun _ _ _ _ _ => pe_call G hr (by rfl) g F.kp b .nil pass0 (pa_cons (pv 2) (pa_cons (pv 3) pa_nil)))) pa_nil)))))))
          pss_nil)
        (pss_cons (ps_if (pt_val (pe_callB call_isi (by rfl) T.isi (by decide +kernel) (pa_cons (pv 1) (pa_cons (pe_bltn (v := .ty "dict") (by rfl) T.dict (by decide +kernel) rfl) pa_nil))))
          (pss_one (ps_ret (pe_and (pe_callB call_isi (by rfl) T.isi (by decide +kernel) (pa_cons (pv 0) (pa_cons (pe_bltn (v := .ty "dict") (by rfl) T.dict (by decide +kernel) rfl) pa_nil)))
            (pe_one (pe_call G hr (by rfl) g F.kp b .nil pass0 (pa_cons (LiI.pe_listItems rfl (pv 0) (by rfl) T.list (by decide +kernel)) (pa_cons (LiI.pe_listItems rfl (pv 1) (by rfl) T.list (by decide +kernel)) pa_nil)))))))
          pss_nil)
        (pss_cons (ps_if (pt_val (pe_callB call_isi (by rfl) T.isi (by decide +kernel) (pa_cons (pv 1) (pa_cons (pe_bltn (v := .ty "int") (by rfl) T.int (by decide +kernel) rfl) pa_nil))))
          (pss_one (ps_ret (pe_and (pe_callB call_isi (by rfl) T.isi (by decide +kernel) (pa_cons (pv 0) (pa_cons (pe_bltn (v := .ty "int") (by rfl) T.int (by decide +kernel) rfl) pa_nil)))
            (pe_and (pe_cmpR op_eq (pe_callB call_isi (by rfl) T.isi (by decide +kernel) (pa_cons (pv 0) (pa_cons (pe_bltn (v := .ty "bool") (by rfl) T.bool (by decide +kernel) rfl) pa_nil))) (pe_callB call_isi (by rfl) T.isi (by decide +kernel) (pa_cons (pv 1) (pa_cons (pe_bltn (v := .ty "bool") (by rfl) T.bool (by decide +kernel) rfl) pa_nil))) (nomark _))
            (pe_one (pe_cmpR op_eq (pv 0) (pv 1) (nomark _)))))))
          pss_nil)
        (pss_one (ps_ret (pe_and (pe_not (pe_callB call_isiT (by rfl) T.isi (by decide +kernel) (pa_cons (pv 0) (pa_cons (pe_tup (pa_cons (pe_bltn (v := .ty "int") (by rfl) T.int (by decide +kernel) rfl) (pa_cons (pe_bltn (v := .ty "list") (by rfl) T.list (by decide +kernel) rfl) (pa_cons (pe_bltn (v := .ty "tuple") (by rfl) T.tuple (by decide +kernel) rfl) (pa_cons (pe_bltn (v := .ty "dict") (by rfl) T.dict (by decide +kernel) rfl) pa_nil))))) pa_nil))))
          (pe_one (pe_cmpR op_eq (pv 0) (pv 1) (nomark _)))))))), ?_⟩
      have body : ∀ (H1 : Hp) (ds fs : List PyData) (a c : Addr) (xs ys : List V), Same H H1 → u = .ref a → v = .ref c → DpAll K H ys fs → DpAll K H xs ds → ds.length ≤ 100000 → lenAll ds = true → (∀ e ∈ ds, e.depth < n) → (∀ H', Same H H' → Q (.bl (sameAll ds fs)) H') →
          ((SqL K H a xs ∧ SqL K H c ys) ∨ (SqT K H a xs ∧ SqT K H c ys)) →
          tAndV (tOp rEq (tCB (fun zs H Q => ∃ p ws, zs = [V.ref p] ∧ (SqL K H p ws ∨ SqT K H p ws) ∧ Q (.int ws.length) H) (tCons (tVar 0) tNil)) (tCB (fun zs H Q => ∃ p ws, zs = [V.ref p] ∧ (SqL K H p ws ∨ SqT K H p ws) ∧ Q (.int ws.length) H) (tCons (tVar 1) tNil)))
            (tCB (rAll K) (tCons (tLc (RZ.iZipA K (tCons (tVar 0) (tCons (tVar 1) tNil))) (gTup K 2 (gCons (gName 2) (gCons (gName 3) gNil))) tYes (tCall (spSame K n) [] E0 (tCons (tVar 2) (tCons (tVar 3) tNil))) [2, 3]) tNil)) [some v, some u, none, none] H1 Q := by
        rintro H1 ds fs a c xs ys s1 rfl rfl hfs hds short lens dp k sq
        have s1' : ∀ {ws : List V} {p : Addr}, SqL K H p ws → SqL K H1 p ws := fun h => s1.seq h
        have lx := dpAll_len hds
        have ly := dpAll_len hfs
        have q0 : ∃ p ws, [V.ref c] = [V.ref p] ∧ (SqL K H1 p ws ∨ SqT K H1 p ws) ∧ ws = ys := by
          rcases sq with ⟨_, h⟩ | ⟨_, h⟩
          · exact ⟨c, ys, rfl, .inl (s1.seq h), rfl⟩
          · exact ⟨c, ys, rfl, .inr (sq_s s1 h), rfl⟩
        have q1 : SqL K H1 a xs ∨ SqT K H1 a xs := by
          rcases sq with ⟨h, _⟩ | ⟨h, _⟩
          · exact .inl (s1.seq h)
          · exact .inr (sq_s s1 h)
        have q0' : SqL K H1 c ys ∨ SqT K H1 c ys := by
          rcases sq with ⟨_, h⟩ | ⟨_, h⟩
          · exact .inl (s1.seq h)
          · exact .inr (sq_s s1 h)
        refine ⟨_, rfl, c, ys, rfl, q0', _, rfl, a, xs, rfl, q1, rfl, _, rfl, ?_⟩
        by_cases le : ys.length = xs.length
        · rw [if_pos (decide_eq_true (by rw [le]))]
          have lz : ds.length = fs.length := by omega
          have core : ∀ (J : It), (∀ i H2, Same H1 H2 → i < ys.length → J.go i H2) → (∀ H2, Same H1 H2 → J.stop ys.length H2) → (∀ i H2 x H3, Same H1 H2 → J.yld i H2 x H3 → ∃ T y z, x = .ref T ∧ H2 T = none ∧ H3 = upd H2 T (.tup [y, z]) ∧ ys[i]? = some y ∧ xs[i]? = some z) →
              ∀ D, H1 D = none → ∃ W : Nat → Nat → Hp → Prop, (∃ m, W 0 m (upd H1 D (.lst []))) ∧ ∀ i m H, W i m H → (J.stop i H ∧ rAll K [.ref D] H Q) ∨ (J.go i H ∧ ∃ Nx : Hp → Prop, (∀ H', Nx H' → ∃ m', m' < m ∧ W (i + 1) m' H') ∧ ∀ x H', J.yld i H x H' →
                (gTup K 2 (gCons (gName 2) (gCons (gName 3) gNil))) x (wipe [some (.ref c), some (.ref a), none, none] [2, 3]) H' fun σ2 H2 => wipe σ2 [2, 3] = wipe [some (.ref c), some (.ref a), none, none] [2, 3] ∧ tYes σ2 H2 fun b H3 =>
                if b = true then (tCall (spSame K n) [] E0 (tCons (tVar 2) (tCons (tVar 3) tNil))) σ2 H3 fun y H4 => ∃ acc, H4 D = some (.lst acc) ∧ acc.length < sizeLine ∧ Nx (upd H4 D (.lst (acc ++ [y]))) else Nx H3) := by
            intro J jgo jstop jyld D hD
            refine lc_any (n := ys.length) (fun i H2 => H2 D = some (.lst (((List.zipWith sameD ds fs).take i).map V.bl)) ∧ Same H1 H2) ⟨upd_same, same_new hD⟩ (fun i H2 lt p => jgo i H2 p.2 lt) (fun H2 p => jstop H2 p.2) ?_ ?_
            · rintro i H2 x H3 lt ⟨h2, s2⟩ y
              obtain ⟨T, p, q, rfl, nT, rfl, ep, eq⟩ := jyld i H2 x H3 s2 y
              obtain ⟨fp, ef, dfp⟩ := dpAll_get hfs ep
              obtain ⟨dq, ed, ddq⟩ := dpAll_get hds eq
              have s3 : Same H2 (upd H2 T (.tup [p, q])) := same_new nT
              refine ⟨T, [p, q], rfl, .inl (.inl upd_same), rfl, p, [q], rfl, q, [], rfl, rfl, rfl, ?_⟩
              have m1 := Same.trans s1 (Same.trans s2 s3)
              refine ⟨_, rfl, _, rfl, p, q, fp, dq, rfl, dp_s m1 dfp, dp_s m1 ddq, lenAll_get lens dq (List.mem_of_getElem? ed), dp dq (List.mem_of_getElem? ed), fun H4 s4 => ?_⟩
              refine ⟨_, s4 _ _ (s3 _ _ h2), ?_, ?_, fun b o e => ?_⟩
              · rw [List.length_map, List.length_take, List.length_zipWith]
                have big : 100000 ≤ sizeLine := by decide
                omega
              · have el : (List.zipWith sameD ds fs).take (i + 1) = (List.zipWith sameD ds fs).take i ++ [sameD dq fp] := by
                  rw [List.take_succ, List.getElem?_zipWith, ed, ef]
                  rfl
                rw [upd_same, el, List.map_append]
                rfl
              · rw [upd_ne (ne_of_none e hD)]
                exact s4 _ _ (s3 _ _ (s2 _ _ e))
            · rintro H2 ⟨h2, s2⟩
              have all : (List.zipWith sameD ds fs).take ys.length = List.zipWith sameD ds fs := List.take_of_length_le (by rw [List.length_zipWith]; omega)
              rw [all] at h2
              refine ⟨D, List.zipWith sameD ds fs, rfl, .inl (.inl h2), ?_⟩
              rw [sameAll_zip lz]
              exact k H2 (Same.trans s1 s2)
          refine ⟨_, rfl, _, rfl, c, a, ys, xs, rfl, ?_⟩
          rcases sq with ⟨ha, hc⟩ | ⟨ha, hc⟩
          · exact .inl ⟨s1.seq hc, s1.seq ha, core (Itz K c a) (fun i H2 s2 lt => ⟨ys, xs, ys[i], xs[i], s2.seq (s1.seq hc), s2.seq (s1.seq ha), List.getElem?_eq_getElem lt, List.getElem?_eq_getElem (by omega)⟩) (fun H2 s2 => ⟨ys, xs, s2.seq (s1.seq hc), s2.seq (s1.seq ha), .inl (Nat.le_refl _)⟩)
              fun i H2 x H3 s2 ⟨T, y, z, e1, e2, e3, e4, e5⟩ => ⟨T, y, z, e1, e2, e3, e4 ys (s2.seq (s1.seq hc)), e5 xs (s2.seq (s1.seq ha))⟩⟩
          · exact .inr ⟨sq_s s1 hc, sq_s s1 ha, core (RZ.ItzT K c a) (fun i H2 s2 lt => ⟨ys, xs, ys[i], xs[i], sq_s s2 (sq_s s1 hc), sq_s s2 (sq_s s1 ha), List.getElem?_eq_getElem lt, List.getElem?_eq_getElem (by omega)⟩) (fun H2 s2 => ⟨ys, xs, sq_s s2 (sq_s s1 hc), sq_s s2 (sq_s s1 ha), .inl (Nat.le_refl _)⟩)
              fun i H2 x H3 s2 ⟨T, y, z, e1, e2, e3, e4, e5⟩ => ⟨T, y, z, e1, e2, e3, e4 ys (sq_s s2 (sq_s s1 hc)), e5 xs (sq_s s2 (sq_s s1 ha))⟩⟩
        · rw [if_neg (fun e => le (by have z := V.int.inj (of_decide_eq_true e); omega))]
          have z := k H1 s1
          rw [sameAll_len (fun e => le (by omega))] at z
          exact z
      have dl : ∀ {ds : List PyData} {e : PyData}, PyData.depthAll ds + 1 < n + 1 → e ∈ ds → e.depth < n := fun {ds e} lt he => by
        obtain ⟨i, hi⟩ := List.getElem?_of_mem he
        have z := depth_get hi
        omega
      refine rd_isi2 rfl hd (kd d "list") (kd d "tuple") fun H1 s1 => ⟨_, rfl, ?_⟩
      have q1 : ∀ {Q1 : VK} {H2 : Hp} {c : String} {b : Bool}, Same H H2 → c ∈ ["list", "tuple", "dict", "int", "bool"] → isT (tyD fo) c = b → Q1 (.bl b) H2 → tCB (rIsi K) (tCons (tVar 0) (tCons (tC (.ty c)) tNil)) [some v, some u, none, none] H2 Q1 := fun s2 hc e z => rd_isi rfl (dp_s s2 hf) (e ▸ kd fo _ hc) z
      have q2 : ∀ {Q1 : VK} {H2 : Hp} {c : String} {b : Bool}, Same H H2 → c ∈ ["list", "tuple", "dict", "int", "bool"] → isT (tyD d) c = b → Q1 (.bl b) H2 → tCB (rIsi K) (tCons (tVar 1) (tCons (tC (.ty c)) tNil)) [some v, some u, none, none] H2 Q1 := fun s2 hc e z => rd_isi rfl (dp_s s2 hd) (e ▸ kd d _ hc) z
      cases hd with
      | @lst a xs ds sa da =>
        obtain ⟨short, lens⟩ := len_list ln
        have dep2 : ∀ e ∈ ds, e.depth < n := fun e he => dl (by simpa [PyData.depth] using dep) he
        refine iteT ?_
        cases hf with
        | @lst c ys fs sc dc =>
          refine q1 (b := true) s1 (by simp) rfl (q2 (b := true) s1 (by simp) rfl ⟨rfl, _, rfl, neF rfl ?_⟩)
          refine q1 (b := false) s1 (by simp) rfl (q2 (b := false) s1 (by simp) rfl ⟨rfl, _, rfl, neF rfl ?_⟩)
          exact body H1 ds fs a c xs ys s1 rfl rfl dc da short lens dep2 kk (.inl ⟨sa, sc⟩)
        | @tup c ys fs sc dc => exact q1 (b := false) s1 (by simp) rfl (q2 (b := true) s1 (by simp) rfl ⟨rfl, _, rfl, neT (by decide) (iteT (kk H1 s1))⟩)
        | non => exact q1 (b := false) s1 (by simp) rfl (q2 (b := true) s1 (by simp) rfl ⟨rfl, _, rfl, neT (by decide) (iteT (kk H1 s1))⟩)
        | bl b => exact q1 (b := false) s1 (by simp) rfl (q2 (b := true) s1 (by simp) rfl ⟨rfl, _, rfl, neT (by decide) (iteT (kk H1 s1))⟩)
        | int b => exact q1 (b := false) s1 (by simp) rfl (q2 (b := true) s1 (by simp) rfl ⟨rfl, _, rfl, neT (by decide) (iteT (kk H1 s1))⟩)
        | str b => exact q1 (b := false) s1 (by simp) rfl (q2 (b := true) s1 (by simp) rfl ⟨rfl, _, rfl, neT (by decide) (iteT (kk H1 s1))⟩)
      | @tup a xs ds sa da =>
        obtain ⟨short, lens⟩ := len_tuple ln
        have dep2 : ∀ e ∈ ds, e.depth < n := fun e he => dl (by simpa [PyData.depth] using dep) he
        refine iteT ?_
        cases hf with
        | @tup c ys fs sc dc =>
          refine q1 (b := false) s1 (by simp) rfl (q2 (b := false) s1 (by simp) rfl ⟨rfl, _, rfl, neF rfl ?_⟩)
          refine q1 (b := true) s1 (by simp) rfl (q2 (b := true) s1 (by simp) rfl ⟨rfl, _, rfl, neF rfl ?_⟩)
          exact body H1 ds fs a c xs ys s1 rfl rfl dc da short lens dep2 kk (.inr ⟨sa, sc⟩)
        | @lst c ys fs sc dc => exact q1 (b := true) s1 (by simp) rfl (q2 (b := false) s1 (by simp) rfl ⟨rfl, _, rfl, neT (by decide) (iteT (kk H1 s1))⟩)
        | non => exact q1 (b := false) s1 (by simp) rfl (q2 (b := false) s1 (by simp) rfl ⟨rfl, _, rfl, neF rfl (q1 (b := false) s1 (by simp) rfl (q2 (b := true) s1 (by simp) rfl ⟨rfl, _, rfl, neT (by decide) (kk H1 s1)⟩))⟩)
        | bl b => exact q1 (b := false) s1 (by simp) rfl (q2 (b := false) s1 (by simp) rfl ⟨rfl, _, rfl, neF rfl (q1 (b := false) s1 (by simp) rfl (q2 (b := true) s1 (by simp) rfl ⟨rfl, _, rfl, neT (by decide) (kk H1 s1)⟩))⟩)
        | int b => exact q1 (b := false) s1 (by simp) rfl (q2 (b := false) s1 (by simp) rfl ⟨rfl, _, rfl, neF rfl (q1 (b := false) s1 (by simp) rfl (q2 (b := true) s1 (by simp) rfl ⟨rfl, _, rfl, neT (by decide) (kk H1 s1)⟩))⟩)
        | str b => exact q1 (b := false) s1 (by simp) rfl (q2 (b := false) s1 (by simp) rfl ⟨rfl, _, rfl, neF rfl (q1 (b := false) s1 (by simp) rfl (q2 (b := true) s1 (by simp) rfl ⟨rfl, _, rfl, neT (by decide) (kk H1 s1)⟩))⟩)
      | non =>
        refine iteF (q2 (b := false) s1 (by simp) rfl ⟨_, rfl, iteF (q2 (b := false) s1 (by simp) rfl ⟨_, rfl, iteF ?_⟩)⟩)
        refine rd_isi4 rfl (dp_s s1 hf) (kd fo "int") (kd fo "list") (kd fo "tuple") (kd fo "dict") fun H2 s2 => ?_
        have s02 := Same.trans s1 s2
        cases hf with
        | non => exact ⟨_, rfl, _, rfl, iteT ⟨_, rfl, _, rfl, rfl, kk H2 s02⟩⟩
        | str b => exact ⟨_, rfl, _, rfl, iteT ⟨_, rfl, _, rfl, rfl, kk H2 s02⟩⟩
        | bl b => exact ⟨_, rfl, _, rfl, iteF (kk H2 s02)⟩
        | int b => exact ⟨_, rfl, _, rfl, iteF (kk H2 s02)⟩
        | lst _ _ => exact ⟨_, rfl, _, rfl, iteF (kk H2 s02)⟩
        | tup _ _ => exact ⟨_, rfl, _, rfl, iteF (kk H2 s02)⟩
      | str x =>
        refine iteF (q2 (b := false) s1 (by simp) rfl ⟨_, rfl, iteF (q2 (b := false) s1 (by simp) rfl ⟨_, rfl, iteF ?_⟩)⟩)
        refine rd_isi4 rfl (dp_s s1 hf) (kd fo "int") (kd fo "list") (kd fo "tuple") (kd fo "dict") fun H2 s2 => ?_
        have s02 := Same.trans s1 s2
        cases hf with
        | non => exact ⟨_, rfl, _, rfl, iteT ⟨_, rfl, _, rfl, rfl, kk H2 s02⟩⟩
        | str b => exact ⟨_, rfl, _, rfl, iteT ⟨_, rfl, _, rfl, rfl, dec_s ▸ kk H2 s02⟩⟩
        | bl b => exact ⟨_, rfl, _, rfl, iteF (kk H2 s02)⟩
        | int b => exact ⟨_, rfl, _, rfl, iteF (kk H2 s02)⟩
        | lst _ _ => exact ⟨_, rfl, _, rfl, iteF (kk H2 s02)⟩
        | tup _ _ => exact ⟨_, rfl, _, rfl, iteF (kk H2 s02)⟩
      | bl x =>
        refine iteF (q2 (b := false) s1 (by simp) rfl ⟨_, rfl, iteF (q2 (b := true) s1 (by simp) rfl ⟨_, rfl, iteT ?_⟩)⟩)
        cases hf with
        | bl b => exact q1 (b := true) s1 (by simp) rfl ⟨_, rfl, iteT (q1 (b := true) s1 (by simp) rfl (q2 (b := true) s1 (by simp) rfl ⟨rfl, _, rfl, eqT rfl ⟨_, rfl, _, rfl, rfl, dec_b ▸ kk H1 s1⟩⟩))⟩
        | int b => exact q1 (b := true) s1 (by simp) rfl ⟨_, rfl, iteT (q1 (b := false) s1 (by simp) rfl (q2 (b := true) s1 (by simp) rfl ⟨rfl, _, rfl, eqF (by decide) (kk H1 s1)⟩))⟩
        | non => exact q1 (b := false) s1 (by simp) rfl ⟨_, rfl, iteF (kk H1 s1)⟩
        | str b => exact q1 (b := false) s1 (by simp) rfl ⟨_, rfl, iteF (kk H1 s1)⟩
        | lst _ _ => exact q1 (b := false) s1 (by simp) rfl ⟨_, rfl, iteF (kk H1 s1)⟩
        | tup _ _ => exact q1 (b := false) s1 (by simp) rfl ⟨_, rfl, iteF (kk H1 s1)⟩
      | int x =>
        refine iteF (q2 (b := false) s1 (by simp) rfl ⟨_, rfl, iteF (q2 (b := true) s1 (by simp) rfl ⟨_, rfl, iteT ?_⟩)⟩)
        cases hf with
        | int b => exact q1 (b := true) s1 (by simp) rfl ⟨_, rfl, iteT (q1 (b := false) s1 (by simp) rfl (q2 (b := false) s1 (by simp) rfl ⟨rfl, _, rfl, eqT rfl ⟨_, rfl, _, rfl, rfl, dec_i ▸ kk H1 s1⟩⟩))⟩
        | bl b => exact q1 (b := true) s1 (by simp) rfl ⟨_, rfl, iteT (q1 (b := true) s1 (by simp) rfl (q2 (b := false) s1 (by simp) rfl ⟨rfl, _, rfl, eqF (by decide) (kk H1 s1)⟩))⟩
        | non => exact q1 (b := false) s1 (by simp) rfl ⟨_, rfl, iteF (kk H1 s1)⟩
        | str b => exact q1 (b := false) s1 (by simp) rfl ⟨_, rfl, iteF (kk H1 s1)⟩
        | lst _ _ => exact q1 (b := false) s1 (by simp) rfl ⟨_, rfl, iteF (kk H1 s1)⟩
        | tup _ _ => exact q1 (b := false) s1 (by simp) rfl ⟨_, rfl, iteF (kk H1 s1)⟩
end
end Mine
namespace Mine
open PySem L2 PySem.Spec PyProof.Rows
abbrev sStart : Stmt := top 32
abbrev sDraw : Stmt := top 33
abbrev sPick : Stmt := top 34
/-! ### the stream of draws: a list at a of a list of ints at q and three ints -/
structure Strm (H : Hp) (a q : Addr) (cs : List Int) (l n m : Int) : Prop where
  ha : H a = some (.lst [.ref q, .int l, .int n, .int m])
  hq : H q = some (.lst (cs.map V.int))
  l0 : 0 ≤ l
  n0 : 0 ≤ n
  m0 : 0 ≤ m
  m1 : m < 2147483647
theorem Strm.ne {H : Hp} {a q : Addr} {cs : List Int} {l n m : Int} (S : Strm H a q cs l n m) : a ≠ q := by
  intro e
  have h1 := S.ha
  rw [e, S.hq] at h1
  have h2 := HO.lst.inj (Option.some.inj h1)
  cases cs with
  | nil => cases h2
  | cons c cs => cases h2
theorem dp_ints (K : PySem.W.Frag) (H : Hp) : ∀ cs : List Int, DpAll K H (cs.map V.int) (cs.map PyData.int)
  | [] => .nil
  | c :: cs => .cons (.int c) (dp_ints K H cs)
theorem lay_ints : ∀ cs : List Int, PyData.canLayAll0 (cs.map PyData.int) = true
  | [] => rfl
  | c :: cs => by
    show (PyData.canLay0 (.int c) && PyData.canLayAll0 (cs.map PyData.int)) = true
    rw [lay_ints cs]
    rfl
theorem depth_ints : ∀ cs : List Int, PyData.depthAll (cs.map PyData.int) = 0
  | [] => rfl
  | c :: cs => by
    show max (PyData.depth (.int c)) (PyData.depthAll (cs.map PyData.int)) = 0
    rw [depth_ints cs]
    rfl
theorem shaped_ints (cs : List Int) : SeqAt.shaped (.list (cs.map PyData.int)) = true := by
  show (PyData.canLayAll0 (cs.map PyData.int) && decide (PyData.depth (.list (cs.map PyData.int)) ≤ 64)) = true
  rw [lay_ints cs]
  show decide (PyData.depthAll (cs.map PyData.int) + 1 ≤ 64) = true
  rw [depth_ints cs]
  rfl
theorem seq0 {n : Nat} (h : 0 < n) : seqIndex? 0 n = some 0 := by
  unfold seqIndex?
  simp
  omega
theorem eqv_nil (ds : List PyData) : PyData.eqv (.list ds) (.list []) = ds.isEmpty := by
  cases ds <;> rfl
abbrev rLenQ (K : PySem.W.Frag) : List V → Hp → VK → Prop := fun xs H Q => ∃ p ys, xs = [V.ref p] ∧ (SqL K H p ys ∨ SqT K H p ys) ∧ Q (V.int ys.length) H
def spStart (K : PySem.W.Frag) : Sp := fun vs H Q _ => ∃ (a : Addr) (ns : List Int), vs = [.ref a] ∧ SqL K H a (ns.map V.int) ∧ ∀ (p q : Addr) (H' : Hp), H p = none → Same H H' → Strm H' p q ns 0 0 11 → Q (.ref p) H'
def spDraw : Sp := fun vs H Q _ => ∃ (a q : Addr) (cs : List Int) (l n m k : Int), vs = [.ref a, .int k] ∧ 0 < k ∧ k < 1073741824 ∧ Strm H a q cs l n m ∧ n < 1000000000000 ∧
  ∀ (d : Int) (cs' : List Int) (l' m' : Int) (H' : Hp), 0 ≤ d → d < k → Strm H' a q cs' l' (n + 1) m' → (∀ b o, H b = some o → b ≠ a → b ≠ q → H' b = some o) → Q (.int d) H'
structure TxtD (K : PySem.W.Frag) (mg : Str → Option Value) : Prop where
  int : mg "int" = none
  list : mg "list" = none
  range : mg "range" = none
  len : mg "len" = none
section
variable {w : World} {P : Program} {base : Heap} {K : PySem.W.Frag} {mg : Str → Option Value}
theorem scD : FnScope ["_law_stream", "_law_many", "_law_cell", "_law_digit", "_law_mixed"] ["_law_stream", "_law_many"] (defScope sDraw) := ⟨rfl, rfl, rfl, by decide +kernel, rfl, by decide +kernel, by decide +kernel⟩
theorem ok_draw {f : Addr} {fd : FuncData} (F : Fun K "_law_draw" "_law_draw" sDraw f fd) (T : TxtD K mg) : FnOk P w K mg base CX0 1 f fd ["_law_stream", "_law_many"] spDraw := by
  refine F.ok scD (fun vs H Q E h => ?_) (fun cdv A outer s H vs Q E hr h => ?_)
  · obtain ⟨a, q, cs, l, n, m, k, rfl, _⟩ := h
    rfl
  · obtain ⟨a, q, cs, l, n, m, k, rfl, k0, k1', S, hn, kk⟩ := h
    have naq : a ≠ q := S.ne
    obtain ⟨tr, hR, rR⟩ : ∃ t, PSs (cxOf CX0 P w K mg base ["_law_stream", "_law_many", "_law_cell", "_law_digit", "_law_mixed"] "_law_draw" (defScope sDraw) f cdv A outer s H E).nox ((defBody sDraw).drop 2) t ∧
        ∀ (cs1 : List Int) (l1 m1' : Int) (v : Option V) (H1 : Hp), Strm H1 a q cs1 l1 (n + 1) m1' → (∀ b o, H b = some o → b ≠ a → b ≠ q → H1 b = some o) → t { nx := fun _ H' => Q .non H', rt := Q } [some (.ref a), some (.int k), v, none, none] H1 := by
      refine ⟨_, (pss_cons (ps_if (pt_cmpR op_gt (pe_ix ix_list (pv 0) pe_int (fun _ _ => rfl)) pe_int (nomark _))
        (pss_cons (ps_set (i := 3) scD.nd rfl (Or.inl rfl) (pe_op op_mod (pe_callTy call_int1 (by rfl) T.int (by decide +kernel) (pa_cons (pe_ix ix_list (pv 0) pe_int (fun _ _ => rfl)) pa_nil)) (pv 1)))
        (pss_cons (ps_asg (pe_op op_fdiv (pe_ix ix_list (pv 0) pe_int (fun _ _ => rfl)) (pv 1)) (pg_sub (pv 0) pe_int set_list))
        (pss_one (ps_ret (pv 3))))) pss_nil)
      (pss_cons (ps_set (i := 4) scD.nd rfl (Or.inl rfl) (pe_op op_mod (pe_callTy call_int1 (by rfl) T.int (by decide +kernel) (pa_cons (pe_op op_pow (pe_op op_add (pe_op op_add (pe_ix ix_list (pv 0) pe_int (fun _ _ => rfl)) (pe_op op_mul pe_int (pe_ix ix_list (pv 0) pe_int (fun _ _ => rfl)))) pe_int) pe_int) pa_nil)) pe_int))
      (pss_one (ps_ret (pe_op op_mod (pe_op op_mod (pe_callTy call_int1 (by rfl) T.int (by decide +kernel) (pa_cons (pe_op op_pow (pe_op op_add (pe_op op_add (pe_op op_mul (pv 4) pe_int) (pe_op op_mul pe_int (pe_ix ix_list (pv 0) pe_int (fun _ _ => rfl)))) pe_int) pe_int) pa_nil)) pe_int) (pv 1)))))), ?_⟩
      intro cs1 l1 m1' v H1 T1 k1
      obtain ⟨ta, tq, tl, tn, tm0, tm1⟩ := id T1
      refine ⟨_, rfl, a, _, _, _, rfl, rfl, SqL.of ta, atI_nat (j := 1) rfl, _, _, rfl, rfl, _, rfl, ?_⟩
      refine ite2 (fun c1 => ?_) (fun c1 => ?_)
      · have hl : 0 < l1 := of_decide_eq_true c1
        refine ⟨_, rfl, a, _, _, _, rfl, rfl, SqL.of ta, atI_nat (j := 1) rfl, .inl ⟨_, rfl, _, rfl, _, _, rfl, rfl, k0, ?_⟩⟩
        refine ⟨_, rfl, a, _, _, _, rfl, rfl, SqL.of ta, atI_nat (j := 1) rfl, _, rfl, _, _, rfl, rfl, ⟨k0, k1'⟩, _, rfl, a, _, _, 1, rfl, rfl, ta, rfl, _, rfl, ?_⟩
        exact kk _ cs1 (l1 / k) m1' _ (Int.emod_nonneg _ (by omega)) (Int.emod_lt_of_pos _ k0) ⟨upd_same, by rw [upd_ne naq.symm]; exact tq, Int.ediv_nonneg tl (by omega), tn, tm0, tm1⟩ (fun b o e h1 h2 => by rw [upd_ne h1]; exact k1 b o e h1 h2)
      · refine ⟨_, rfl, a, _, _, _, rfl, rfl, SqL.of ta, atI_nat (j := 3) rfl, _, rfl, a, _, _, _, rfl, rfl, SqL.of ta, atI_nat (j := 2) rfl, _, _, rfl, rfl, .inl ⟨by decide, by decide⟩, _, _, rfl, rfl, _, _, rfl, rfl, _, _, rfl, rfl, ⟨by decide, by decide, ?_⟩, .inl ⟨_, rfl, _, _, rfl, rfl, (by show (0 : Int) < 2147483629; decide), ?_⟩⟩
        · show (m1' + 7919 * (n + 1) + 104729).natAbs < 2 ^ 64
          omega
        · have z0 : 0 ≤ ((m1' + 7919 * (n + 1) + 104729) ^ (5 : Int).toNat) % 2147483629 := Int.emod_nonneg _ (by decide)
          have z1 : ((m1' + 7919 * (n + 1) + 104729) ^ (5 : Int).toNat) % 2147483629 < 2147483629 := Int.emod_lt_of_pos _ (by decide)
          dsimp only
          generalize ((m1' + 7919 * (n + 1) + 104729) ^ (5 : Int).toNat) % 2147483629 = z at z0 z1 ⊢
          refine ⟨_, rfl, _, _, rfl, rfl, .inr ⟨by decide, by decide⟩, _, rfl, a, _, _, _, rfl, rfl, SqL.of ta, atI_nat (j := 2) rfl, _, _, rfl, rfl, .inl ⟨by decide, by decide⟩, _, _, rfl, rfl, _, _, rfl, rfl, _, _, rfl, rfl, ⟨by decide, by decide, ?_⟩, .inl ⟨_, rfl, _, _, rfl, rfl, (by show (0 : Int) < 1000000007; decide), _, rfl, _, _, rfl, rfl, k0, ?_⟩⟩
          · show (z * 48271 + 30011 * (n + 1) + 29).natAbs < 2 ^ 64
            omega
          · exact kk _ cs1 l1 m1' _ (Int.emod_nonneg _ (by omega)) (Int.emod_lt_of_pos _ k0) T1 k1
    refine ⟨_, pss_cons (ps_asg (pe_op op_add (pe_ix ix_list (pv 0) pe_int (fun _ _ => rfl)) pe_int) (pg_sub (pv 0) pe_int set_list))
      (pss_cons (ps_while PassesOwn.never (PW.pt (pw_and (pt_cmpR op_eq (pe_ix ix_list (pv 0) pe_int (fun _ _ => rfl)) pe_int (nomark _)) (pw_and1 (pt_cmpR (op_neD hr.units) (pe_ix ix_list (pv 0) pe_int (fun _ _ => rfl)) (pe_lst pa_nil) (nomark _)))))
        (pss_cons (ps_set (i := 2) scD.nd rfl (Or.inl rfl) (pe_bm PySem.F.plainAttrs_list PySem.F.slot_list_pop PySem.F.type_list_pop mt_popAt (pe_ix ix_list (pv 0) pe_int (fun _ _ => rfl)) (pa_cons pe_int pa_nil)))
        (pss_cons (ps_asg (pe_op op_mod (pe_callTy call_int1 (by rfl) T.int (by decide +kernel) (pa_cons (pe_op op_add (pe_op op_add (pe_op op_mul (pe_ix ix_list (pv 0) pe_int (fun _ _ => rfl)) pe_int) (pv 2)) pe_int) pa_nil)) pe_int) (pg_sub (pv 0) pe_int set_list))
        (pss_one (ps_asg (pe_ifExp (pt_cmpR op_ge (pv 2) (pe_op op_pow pe_int pe_int) (nomark _)) (pv 2) pe_int) (pg_sub (pv 0) pe_int set_list)))))) hR), ?_⟩
    obtain ⟨ha, hq, l0, n0, m0, m1⟩ := id S
    have naq : a ≠ q := S.ne
    -- _law_stream[2] = _law_stream[2] + 1
    refine ⟨_, rfl, a, _, _, _, rfl, rfl, SqL.of ha, atI_nat (j := 2) rfl, _, _, rfl, rfl, _, rfl, a, _, _, 2, rfl, rfl, ha, rfl, ?_⟩
    show tSeq _ _ _ _ (upd H a (.lst [.ref q, .int l, .int (n + 1), .int m]))
    have S1 : Strm (upd H a (.lst [.ref q, .int l, .int (n + 1), .int m])) a q cs l (n + 1) m := ⟨upd_same, by rw [upd_ne naq.symm]; exact hq, l0, by omega, m0, m1⟩
    -- while
    refine while_by (fun σ H' => ∃ (cs' : List Int) (l' m' : Int) (v : Option V), σ = [some (.ref a), some (.int k), v, none, none] ∧ Strm H' a q cs' l' (n + 1) m' ∧ (∀ b o, H b = some o → b ≠ a → b ≠ q → H' b = some o)) (fun σ H' => match H' q with | some (.lst xs) => xs.length | _ => 0) ?_ ?_ ?_
    · exact ⟨cs, l, m, none, rfl, S1, fun b o e h1 _ => by rw [upd_ne h1]; exact e⟩
    · rintro σ H1 ⟨cs1, l1, m1', v, rfl, T1, k1⟩
      obtain ⟨ta, tq, tl, tn, tm0, tm1⟩ := id T1
      -- stream[1] == 0 and stream[0] != []
      refine ⟨_, rfl, a, _, _, _, rfl, rfl, SqL.of ta, atI_nat (j := 1) rfl, rfl, _, rfl, ?_⟩
      refine ite2 (fun c1 => ?_) (fun c1 => ?_)
      · refine ⟨_, rfl, a, _, _, _, rfl, rfl, SqL.of ta, atI_nat (j := 0) rfl, Nat.zero_le _, fun p hp => ?_⟩
        have nap : a ≠ p := ne_of_none ta hp
        have nqp : q ≠ p := ne_of_none tq hp
        refine ⟨.list (cs1.map PyData.int), .list [], .lst (SqL.of (by rw [upd_ne nqp]; exact tq)) (dp_ints _ _ _), .lst (SqL.of upd_same) .nil, shaped_ints _, by decide +kernel, _, rfl, ?_⟩
        rw [eqv_nil]
        have T2 : Strm (upd H1 p (.lst [])) a q cs1 l1 (n + 1) m1' := ⟨by rw [upd_ne nap]; exact ta, by rw [upd_ne nqp]; exact tq, tl, tn, tm0, tm1⟩
        have k2 : ∀ b o, H b = some o → b ≠ a → b ≠ q → upd H1 p (.lst []) b = some o := fun b o e h1 h2 => by
          have z := k1 b o e h1 h2
          rw [upd_ne (ne_of_none z hp)]
          exact z
        cases cs1 with
        | nil =>
          refine iteF ?_
          exact rR _ _ _ _ _ T2 k2
        | cons c cs2 =>
          refine iteT ?_
          -- cell = stream[0].pop(0)
          refine ⟨_, rfl, a, _, _, _, rfl, rfl, SqL.of T2.ha, atI_nat (j := 0) rfl, .inl ⟨rfl, _, SqL.of T2.hq⟩, q, _, 0, 0, .int c, rfl, rfl, T2.hq, by decide, by decide, seq0 (by simp), rfl, ?_⟩
          have T3 : Strm (upd (upd H1 p (.lst [])) q (.lst ((List.map V.int (c :: cs2)).eraseIdx 0))) a q cs2 l1 (n + 1) m1' := ⟨by rw [upd_ne naq]; exact T2.ha, upd_same, tl, tn, tm0, tm1⟩
          have k3 : ∀ b o, H b = some o → b ≠ a → b ≠ q → upd (upd H1 p (.lst [])) q (.lst ((List.map V.int (c :: cs2)).eraseIdx 0)) b = some o := fun b o e h1 h2 => by
            rw [upd_ne h2]
            exact k2 b o e h1 h2
          have len1 : (match H1 q with | some (.lst xs) => xs.length | _ => 0) = cs2.length + 1 := by
            rw [tq]
            simp
          rw [len1]
          generalize upd (upd H1 p (.lst [])) q (.lst ((List.map V.int (c :: cs2)).eraseIdx 0)) = H2 at T3 k3 ⊢
          -- stream[3] = int(stream[3] * 8191 + cell + 3) % 2147483647
          refine ⟨_, rfl, a, _, _, _, rfl, rfl, SqL.of T3.ha, atI_nat (j := 3) rfl, _, _, rfl, rfl, .inr ⟨by decide, by decide⟩, _, rfl, _, _, rfl, rfl, _, _, rfl, rfl, .inl ⟨_, rfl, ?_⟩⟩
          refine ⟨_, _, rfl, rfl, (by show (0 : Int) < 2147483647; decide), _, rfl, a, _, _, 3, rfl, rfl, T3.ha, rfl, ?_⟩
          dsimp only [List.set_cons_zero, List.set_cons_succ]
          have M0 : 0 ≤ (m1' * 8191 + c + 3) % 2147483647 := Int.emod_nonneg _ (by decide)
          have M1 : (m1' * 8191 + c + 3) % 2147483647 < 2147483647 := Int.emod_lt_of_pos _ (by decide)
          generalize (m1' * 8191 + c + 3) % 2147483647 = M at M0 M1 ⊢
          have T4 : Strm (upd H2 a (.lst [.ref q, .int l1, .int (n + 1), .int M])) a q cs2 l1 (n + 1) M := ⟨upd_same, by rw [upd_ne naq.symm]; exact T3.hq, tl, tn, M0, M1⟩
          have k4 : ∀ b o, H b = some o → b ≠ a → b ≠ q → upd H2 a (.lst [.ref q, .int l1, .int (n + 1), .int M]) b = some o := fun b o e h1 h2 => by
            rw [upd_ne h1]
            exact k3 b o e h1 h2
          generalize upd H2 a (.lst [.ref q, .int l1, .int (n + 1), .int M]) = H3 at T4 k4 ⊢
          -- stream[1] = cell if cell >= 10 ** 18 else 0
          refine ⟨_, rfl, _, _, rfl, rfl, ⟨by decide, by decide, by decide⟩, _, _, rfl, rfl, _, rfl, ?_⟩
          refine ite2 (fun c2 => ?_) (fun c2 => ?_)
          · refine ⟨_, rfl, _, rfl, a, _, _, 1, rfl, rfl, T4.ha, rfl, ?_⟩
            have c3 : (10 : Int) ^ (18 : Int).toNat ≤ c := of_decide_eq_true c2
            have T5 : Strm (upd H3 a (.lst [.ref q, .int c, .int (n + 1), .int M])) a q cs2 c (n + 1) M := ⟨upd_same, by rw [upd_ne naq.symm]; exact T4.hq, Int.le_trans (by decide) c3, tn, M0, M1⟩
            refine ⟨⟨cs2, c, M, _, rfl, T5, fun b o e h1 h2 => by rw [upd_ne h1]; exact k4 b o e h1 h2⟩, ?_⟩
            have z := T5.hq
            dsimp only [List.set_cons_zero, List.set_cons_succ]
            rw [z]
            simp
          · refine ⟨_, rfl, a, _, _, 1, rfl, rfl, T4.ha, rfl, ?_⟩
            have T5 : Strm (upd H3 a (.lst [.ref q, .int 0, .int (n + 1), .int M])) a q cs2 0 (n + 1) M := ⟨upd_same, by rw [upd_ne naq.symm]; exact T4.hq, by decide, tn, M0, M1⟩
            refine ⟨⟨cs2, 0, M, _, rfl, T5, fun b o e h1 h2 => by rw [upd_ne h1]; exact k4 b o e h1 h2⟩, ?_⟩
            have z := T5.hq
            dsimp only [List.set_cons_zero, List.set_cons_succ]
            rw [z]
            simp
      · exact rR _ _ _ _ _ T1 k1
    · intro σ1 H1 Q1 Q2 hQ hc
      obtain ⟨v1, e1, p1, xs1, i1, w1, r1, r2, r3, r4, r5, b1, r6, hc⟩ := hc
      refine ⟨v1, e1, p1, xs1, i1, w1, r1, r2, r3, r4, r5, b1, r6, ?_⟩
      cases b1 with
      | true =>
        rw [if_pos rfl] at hc
        refine iteT ?_
        obtain ⟨v2, e2, p2, xs2, i2, w2, s1, s2, s3, s4, z1, hc⟩ := hc
        refine ⟨v2, e2, p2, xs2, i2, w2, s1, s2, s3, s4, z1, fun l hl => ?_⟩
        obtain ⟨d1, d2, g1, g2, g3, g4, b2, g5, g6⟩ := hc l hl
        exact ⟨d1, d2, g1, g2, g3, g4, b2, g5, hQ _ _ g6⟩
      | false =>
        rw [if_neg Bool.false_ne_true] at hc
        exact iteF (hQ _ _ hc)

theorem scS : FnScope ["_law_script"] ["_law_script"] (defScope sStart) := ⟨rfl, rfl, rfl, by decide +kernel, rfl, by decide +kernel, by decide +kernel⟩
theorem ok_start {f : Addr} {fd : FuncData} (F : Fun K "_law_start" "_law_start" sStart f fd) (T : TxtD K mg) : FnOk P w K mg base CX0 1 f fd ["_law_script"] (spStart K) := by
  refine F.ok (k := 0) scS (fun vs H Q E h => ?_) (fun cdv A outer s H vs Q E hr h => ?_)
  · obtain ⟨a, ns, rfl, _⟩ := h
    rfl
  · obtain ⟨a, ns, rfl, hS, kk⟩ := h
    refine ⟨_, pss_one (ps_ret (pe_lst (pa_cons (pe_callTy call_list_of (by rfl) T.list (by decide +kernel) (pa_cons (pv 0) pa_nil)) (pa_cons pe_int (pa_cons pe_int (pa_cons pe_int pa_nil)))))), ?_⟩
    refine ⟨_, rfl, a, _, rfl, .inl hS, fun q hq => ?_⟩
    refine ⟨by show 4 ≤ sizeLine; decide, fun p hp => ?_⟩
    have hp0 : H p = none := by
      by_cases e : p = q
      · rw [e, upd_same] at hp
        cases hp
      · rw [upd_ne e] at hp
        exact hp
    refine kk p q _ hp0 (fun b o e => ?_) ⟨upd_same, ?_, by decide, by decide, by decide, by decide⟩
    · rw [upd_ne (ne_of_none e hp0), upd_ne (ne_of_none e hq)]
      exact e
    · rw [upd_ne (fun e => by rw [e] at hp; rw [upd_same] at hp; cases hp), upd_same]
theorem scPk : FnScope ["_law_stream", "_law_some"] ["_law_stream", "_law_some"] (defScope sPick) := ⟨rfl, rfl, rfl, by decide +kernel, rfl, by decide +kernel, by decide +kernel⟩
/-- what a draw leaves -/
def Drawn (H H' : Hp) (a q : Addr) (n : Int) : Prop := (∃ cs l m, Strm H' a q cs l n m) ∧ ∀ b o, H b = some o → b ≠ a → b ≠ q → H' b = some o
def spPick (K : PySem.W.Frag) : Sp := fun vs H Q _ => ∃ (a q b : Addr) (cs : List Int) (l n m : Int) (xs : List V), vs = [.ref a, .ref b] ∧ Strm H a q cs l n m ∧ n < 1000000000000 ∧ SqL K H b xs ∧ xs ≠ [] ∧ xs.length ≤ 1000000 ∧ b ≠ a ∧ b ≠ q ∧ ∀ x H', x ∈ xs → Drawn H H' a q (n + 1) → Q x H'
theorem sqL_at {K : PySem.W.Frag} {H H' : Hp} {a q b : Addr} {xs : List V} (h : SqL K H b xs) (n1 : b ≠ a) (n2 : b ≠ q) (k : ∀ b o, H b = some o → b ≠ a → b ≠ q → H' b = some o) : SqL K H' b xs := by
  rcases h with (h | ⟨o, h⟩) | h
  · exact .inl (.inl (k _ _ h n1 n2))
  · exact .inl (.inr ⟨o, k _ _ h n1 n2⟩)
  · exact .inr h
theorem ok_pick {f fD : Addr} {fd fdD : FuncData} (F : Fun K "_law_pick" "_law_pick" sPick f fd) (T : TxtD K mg) (FD : Fun K "_law_draw" "_law_draw" sDraw fD fdD) (bD : Binds K fdD ["_law_stream", "_law_many"] []) (gD : mg "_law_draw" = some (.ref fD)) : FnOk P w K mg base CX0 2 f fd ["_law_stream", "_law_some"] (spPick K) := by
  have GD : FnOk P w K mg base CX0 1 fD fdD ["_law_stream", "_law_many"] spDraw := ok_draw FD T
  refine F.ok scPk (fun vs H Q E h => ?_) (fun cdv A outer s H vs Q E hr h => ?_)
  · obtain ⟨a, q, b, cs, l, n, m, xs, rfl, _⟩ := h
    rfl
  · obtain ⟨a, q, b, cs, l, n, m, xs, rfl, S, hn, hb, ne, short, n1, n2, kk⟩ := h
    refine ⟨_, pss_one (ps_ret (pe_ix ix_list (pv 1) (pe_call GD hr (by rfl) gD FD.kp bD .nil pass0 (pa_cons (pv 0) (pa_cons (pe_callB call_len_seq (by rfl) T.len PySem.boot_len (pa_cons (pv 1) pa_nil)) pa_nil))) (fun _ _ => rfl))), ?_⟩
    have len0 : 0 < xs.length := List.length_pos_iff.mpr ne
    refine ⟨_, rfl, _, rfl, _, rfl, b, xs, rfl, .inl hb, a, q, cs, l, n, m, (xs.length : Int), rfl, by omega, by omega, S, hn, fun d cs' l' m' H' d0 d1 S' k => ?_⟩
    obtain ⟨j, rfl⟩ := Int.eq_ofNat_of_zero_le d0
    have lt : j < xs.length := by omega
    exact ⟨b, _, _, xs[j], rfl, rfl, sqL_at hb n1 n2 k, atI_nat (List.getElem?_eq_getElem lt), kk _ H' (List.getElem_mem lt) ⟨⟨cs', l', m', S'⟩, k⟩⟩
end
end Mine
namespace Mine
open PySem L2 PySem.Spec PyProof.Rows
/-! ### the heap without some objects -/
def Hd (bs : List Addr) (H : Hp) : Hp := fun b => if b ∈ bs then none else H b
theorem hd_off {bs : List Addr} {H : Hp} {b : Addr} (h : b ∉ bs) : Hd bs H b = H b := if_neg h
theorem hd_in {bs : List Addr} {H : Hp} {b : Addr} {o : HO} (e : Hd bs H b = some o) : b ∉ bs ∧ H b = some o := by
  unfold Hd at e
  by_cases h : b ∈ bs
  · rw [if_pos h] at e
    cases e
  · rw [if_neg h] at e
    exact ⟨h, e⟩
theorem hd_le {bs : List Addr} {H : Hp} : Same (Hd bs H) H := fun b o e => (hd_in e).2
theorem hd_same {bs cs : List Addr} {H H' : Hp} (k : ∀ b o, H b = some o → b ∉ bs → H' b = some o) (f : ∀ b o, H b = some o → b ∉ bs → b ∉ cs) : Same (Hd bs H) (Hd cs H') := fun b o e => by
  obtain ⟨h1, h2⟩ := hd_in e
  rw [hd_off (f b o h2 h1)]
  exact k b o h2 h1
/-! data alike but for lists and tuples -/
mutual
def core : PyData → PyData
  | .list ds => .list (coreAll ds)
  | .tuple ds => .list (coreAll ds)
  | .none => .none
  | .bool b => .bool b
  | .int i => .int i
  | .str x => .str x
  | d => d
def coreAll : List PyData → List PyData
  | [] => []
  | d :: ds => core d :: coreAll ds
end
mutual
def cnt : PyData → Nat
  | .list ds => cntAll ds + 1
  | .tuple ds => cntAll ds + 1
  | _ => 0
def cntAll : List PyData → Nat
  | [] => 0
  | d :: ds => cnt d + cntAll ds
end
theorem coreAll_app : ∀ (a b : List PyData), coreAll (a ++ b) = coreAll a ++ coreAll b
  | [], _ => rfl
  | d :: a, b => congrArg (core d :: ·) (coreAll_app a b)
theorem cntAll_app : ∀ (a b : List PyData), cntAll (a ++ b) = cntAll a + cntAll b
  | [], b => (Nat.zero_add _).symm
  | d :: a, b => by
    show cnt d + cntAll (a ++ b) = cnt d + cntAll a + cntAll b
    rw [cntAll_app a b, Nat.add_assoc]
theorem cntAll_take : ∀ (ds : List PyData) (i : Nat), cntAll (ds.take i) ≤ cntAll ds
  | [], _ => by rw [List.take_nil]; exact Nat.le_refl _
  | d :: ds, 0 => Nat.zero_le _
  | d :: ds, i + 1 => Nat.add_le_add_left (cntAll_take ds i) _
theorem cnt_get : ∀ {ds : List PyData} {i : Nat} {d : PyData}, ds[i]? = some d → cnt d ≤ cntAll ds
  | [], _, _, e => by
    rw [List.getElem?_nil] at e
    cases e
  | x :: ds, 0, _, e => by
    cases e
    exact Nat.le_add_right _ _
  | x :: ds, i + 1, _, e => Nat.le_trans (cnt_get (ds := ds) (i := i) e) (Nat.le_add_left _ _)
theorem dpAll_app {K : PySem.W.Frag} {H : Hp} : ∀ {vs us : List V} {ds es : List PyData}, DpAll K H vs ds → DpAll K H us es → DpAll K H (vs ++ us) (ds ++ es)
  | _, _, _, _, .nil, h => h
  | _, _, _, _, .cons a t, h => .cons a (dpAll_app t h)
def iSeq (K : PySem.W.Frag) (i : Nat) : TI := fun σ H R => ∃ a, σ[i]? = some (some (.ref a)) ∧ (((∃ xs, SqL K H a xs) ∧ R (Itl K a) H) ∨ ((∃ xs, SqT K H a xs) ∧ R (Itt K a) H))
theorem pi_seq {X : Cx} {tg e : Expr} {i : Nat} (he : PE X e (tVar i)) : PI X tg e (iSeq X.K i) := by
  refine ⟨fun pins s σ H R I h => ?_⟩
  obtain ⟨a, hs, ⟨x, r⟩ | ⟨x, r⟩⟩ := h
  · exact (pi_list he).run pins s σ H R I ⟨_, hs, a, rfl, x, r⟩
  · exact (pi_tup he).run pins s σ H R I ⟨_, hs, a, rfl, x, r⟩
abbrev sLoose : Stmt := top 36
theorem scLo : FnScope ["_law_stream", "_law_thing", "_law_found", "_law_part"] ["_law_stream", "_law_thing"] (defScope sLoose) := ⟨rfl, rfl, rfl, by decide +kernel, rfl, by decide +kernel, by decide +kernel⟩
def spLoose (K : PySem.W.Frag) (n : Nat) : Sp := fun vs H Q _ => ∃ (a q : Addr) (bs : List Addr) (cs : List Int) (l z m : Int) (v : V) (d : PyData), vs = [.ref a, v] ∧ Strm H a q cs l z m ∧ z + cnt d < 1000000000 ∧ (a ∈ bs ∧ q ∈ bs ∧ ∀ b ∈ bs, ∃ o, H b = some o) ∧ Dp K (Hd bs H) v d ∧ lenOk d = true ∧ d.depth < n ∧
  ∀ v' d' H' cs' l' m', Strm H' a q cs' l' (z + cnt d) m' → (∀ b o, H b = some o → b ≠ a → b ≠ q → H' b = some o) → Dp K (Hd bs H') v' d' → core d' = core d → Q v' H'
theorem Strm.s {H H' : Hp} {a q : Addr} {cs : List Int} {l n m : Int} (S : Strm H a q cs l n m) (k : Same H H') : Strm H' a q cs l n m := ⟨k _ _ S.ha, k _ _ S.hq, S.l0, S.n0, S.m0, S.m1⟩
theorem Strm.lo {H H' : Hp} {a q D : Addr} {cs : List Int} {l n m : Int} (S : Strm H a q cs l n m) (k : Same H H') : True := trivial
section
variable {w : World} {P : Program} {base : Heap} {K : PySem.W.Frag} {mg : Str → Option Value}
theorem ok_loose {f fD : Addr} {fd fdD : FuncData} (F : Fun K "_law_loose" "_law_loose" sLoose f fd) (T : TS4 mg) (TD : TxtD K mg) (g : mg "_law_loose" = some (.ref f)) (b : Binds K fd ["_law_stream", "_law_thing"] []) (FD : Fun K "_law_draw" "_law_draw" sDraw fD fdD) (bD : Binds K fdD ["_law_stream", "_law_many"] []) (gD : mg "_law_draw" = some (.ref fD)) :
    ∀ n, FnOk P w K mg base CX0 (n + 1) f fd ["_law_stream", "_law_thing"] (spLoose K n)
  | 0 => ⟨fun vs H Q E ⟨_, _, _, _, _, _, _, _, _, _, _, _, _, _, _, z, _⟩ => absurd z (Nat.not_lt_zero _), fun _ _ _ _ _ _ _ _ _ _ _ _ _ ⟨_, _, _, _, _, _, _, _, _, _, _, _, _, _, _, z, _⟩ => absurd z (Nat.not_lt_zero _)⟩
  | n + 1 => by
    have G := ok_loose F T TD g b FD bD gD n
    have GD : FnOk P w K mg base CX0 1 fD fdD ["_law_stream", "_law_many"] spDraw := ok_draw FD TD
    refine F.ok scLo (fun vs H Q E h => ?_) (fun cdv A outer s H vs Q E hr h => ?_)
    · obtain ⟨a, q, bs, cs, l, z, m, v, d, rfl, _⟩ := h
      rfl
    · obtain ⟨a, q, bs, cs, l, z, m, v, d, rfl, S, hz, ⟨ina, inq, inb⟩, hd, ln, dep, kk⟩ := h
      refine ⟨_, pss_cons (ps_if (pt_not (pt_val (pe_callB call_isiT (by rfl) T.isi (by decide +kernel) (pa_cons (pv 1) (pa_cons (pe_tup (pa_cons (pe_bltn (v := .ty "list") (by rfl) T.list (by decide +kernel) rfl) (pa_cons (pe_bltn (v := .ty "tuple") (by rfl) T.tuple (by decide +kernel) rfl) pa_nil))) pa_nil))))) (pss_one (ps_ret (pv 1))) pss_nil)
        (pss_cons (ps_setLc (i := 2) (own := [("_law_part", 3)]) (g := gName 3) (tt := tYes) (te := tCall (spLoose K n) [] E0 (tCons (tVar 0) (tCons (tVar 3) tNil))) rfl scLo.nd rfl rfl rfl (pi_seq (pv 1))
          (blkOk_by (own := [("_law_part", 3)]) (N := ["_law_stream", "_law_thing", "_law_found", "_law_part"]) (sc := defScope sLoose) (by decide +kernel)) (fun _ _ _ _ _ => pg_name (i := 3) scLo.nd rfl (Or.inl rfl)) (fun _ _ _ _ _ => pts_nil) (fun _ _ _ _ _ => pe_call G hr (by rfl) g F.kp b .nil pass0 (pa_cons (pv 0) (pa_cons (pv 3) pa_nil))))
        (pss_one (ps_ret (pe_ifExp (pt_cmpR op_eq (pe_call GD (hr.mono (by omega)) (by rfl) gD FD.kp bD .nil pass0 (pa_cons (pv 0) (pa_cons pe_int pa_nil))) pe_int (nomark _)) (pv 2) (pe_callTy call_tuple_of (by rfl) T.tuple (by decide +kernel) (pa_cons (pv 2) pa_nil)))))), ?_⟩
      have hd0 : Dp K H v d := dp_s hd_le hd
      have dl : ∀ {ds : List PyData} {e : PyData}, PyData.depthAll ds + 1 < n + 1 → e ∈ ds → e.depth < n := fun {ds e} lt he => by
        obtain ⟨i, hi⟩ := List.getElem?_of_mem he
        have y := depth_get hi
        omega
      refine rd_isi2 rfl hd0 (kd d "list") (kd d "tuple") fun H1 s1 => ⟨_, rfl, ?_⟩
      have k01 : ∀ b o, H b = some o → b ≠ a → b ≠ q → H1 b = some o := fun b o e _ _ => s1 b o e
      have h01 : Same (Hd bs H) (Hd bs H1) := hd_same (fun b o e _ => s1 b o e) (fun b o _ h => h)
      have S1 : Strm H1 a q cs l z m := S.s s1
      cases hd with
      | non => exact iteT ⟨_, rfl, kk _ _ H1 cs l m (by simpa [cnt] using S1) k01 .non rfl⟩
      | bl b => exact iteT ⟨_, rfl, kk _ _ H1 cs l m (by simpa [cnt] using S1) k01 (.bl b) rfl⟩
      | int b => exact iteT ⟨_, rfl, kk _ _ H1 cs l m (by simpa [cnt] using S1) k01 (.int b) rfl⟩
      | str b => exact iteT ⟨_, rfl, kk _ _ H1 cs l m (by simpa [cnt] using S1) k01 (.str b) rfl⟩
      | @lst p xs ds sp dp =>
        obtain ⟨short, lens⟩ := len_list ln
        have deep : ∀ e ∈ ds, e.depth < n := fun e he => dl (by simpa [PyData.depth] using dep) he
        have ec : cnt (.list ds) = cntAll ds + 1 := rfl
        rw [ec] at hz kk
        have lx := dpAll_len dp
        refine iteF ?_
        have sq : ∀ H2 : Hp, (∀ b o, H1 b = some o → b ≠ a → b ≠ q → H2 b = some o) → SqL K H2 p xs := fun H2 k => Same.seq (H := Hd bs H) (fun b o e => k b o (s1 b o (hd_in e).2) (fun w => (hd_in e).1 (w ▸ ina)) fun w => (hd_in e).1 (w ▸ inq)) sp
        refine ⟨p, rfl, .inl ⟨⟨xs, sq H1 fun b o e _ _ => e⟩, fun D hD => ?_⟩⟩
        have nD : H D = none := s1.free hD
        have aD : a ≠ D := ne_of_none S.ha nD
        have qD : q ≠ D := ne_of_none S.hq nD
        have bD2 : ∀ b ∈ bs, b ≠ D := fun b hb e => by
          obtain ⟨o, z⟩ := inb b hb
          rw [e, nD] at z
          cases z
        refine lc_any (n := xs.length) (fun i H2 => ∃ (cs2 : List Int) (l2 m2 : Int) (acc : List V) (es : List PyData), Strm H2 a q cs2 l2 (z + cntAll (ds.take i)) m2 ∧ (∀ b o, H1 b = some o → b ≠ a → b ≠ q → H2 b = some o) ∧ H2 D = some (.lst acc) ∧ acc.length = i ∧ DpAll K (Hd (D :: bs) H2) acc es ∧ coreAll es = coreAll (ds.take i)) ?_ ?_ ?_ ?_ ?_
        · refine ⟨cs, l, m, [], [], ?_, fun b o e _ _ => ?_, upd_same, rfl, .nil, rfl⟩
          · have y := S1.s (same_new (o := .lst []) hD)
            simpa [cntAll] using y
          · rw [upd_ne (ne_of_none e hD)]
            exact e
        · rintro i H2 lt ⟨_, _, _, _, _, _, k2, _⟩
          exact ⟨xs, xs[i], sq H2 k2, List.getElem?_eq_getElem lt⟩
        · rintro H2 ⟨_, _, _, _, _, _, k2, _⟩
          exact ⟨xs, sq H2 k2, Nat.le_refl _⟩
        · rintro i H2 x H3 lt ⟨cs2, l2, m2, acc, es, S2, k2, atD, la, da, ce⟩ ⟨rfl, y⟩
          obtain ⟨di, ed, ddi⟩ := dpAll_get dp (y xs (sq _ k2))
          have c1 : cntAll (ds.take (i + 1)) = cntAll (ds.take i) + cnt di := by
            rw [List.take_succ, ed, cntAll_app]
            show cntAll (ds.take i) + (cnt di + 0) = _
            omega
          have c2 := cntAll_take ds (i + 1)
          have h02 : Same (Hd bs H) (Hd (D :: bs) H3) := hd_same (fun b o e nb => k2 b o (s1 b o e) (fun w => nb (w ▸ ina)) fun w => nb (w ▸ inq)) fun b o e nb hb => by
            rcases List.mem_cons.1 hb with w | w
            · rw [w, nD] at e
              cases e
            · exact nb w
          refine ⟨rfl, ?_⟩
          refine ⟨_, rfl, _, rfl, a, q, D :: bs, cs2, l2, z + cntAll (ds.take i), m2, x, di, rfl, S2, by omega, ⟨List.mem_cons_of_mem _ ina, List.mem_cons_of_mem _ inq, fun b hb => ?_⟩, dp_s h02 ddi, lenAll_get lens di (List.mem_of_getElem? ed), deep di (List.mem_of_getElem? ed), fun v2 d2 H4 cs3 l3 m3 S3 k3 dv cd => ?_⟩
          · rcases List.mem_cons.1 hb with w | w
            · exact ⟨_, w ▸ atD⟩
            · by_cases wa : b = a
              · exact ⟨_, wa ▸ S2.ha⟩
              · by_cases wq : b = q
                · exact ⟨_, wq ▸ S2.hq⟩
                · obtain ⟨o, e⟩ := inb b w
                  exact ⟨o, k2 b o (s1 b o e) wa wq⟩
          · have atD4 := k3 D _ atD aD.symm qD.symm
            have big : 100000 ≤ sizeLine := by decide
            refine ⟨acc, atD4, by omega, cs3, l3, m3, acc ++ [v2], es ++ [d2], ?_, fun b o e n1 n2 => ?_, upd_same, by rw [List.length_append, la]; rfl, dpAll_app (dpAll_s ?_ da) (.cons (dp_s ?_ dv) .nil), ?_⟩
            · have ez : z + ((cntAll (ds.take (i + 1)) : Nat) : Int) = z + cntAll (ds.take i) + cnt di := by rw [c1]; omega
              rw [ez]
              exact ⟨by rw [upd_ne aD]; exact S3.ha, by rw [upd_ne qD]; exact S3.hq, S3.l0, S3.n0, S3.m0, S3.m1⟩
            · rw [upd_ne (ne_of_none e hD)]
              exact k3 b o (k2 b o e n1 n2) n1 n2
            · refine hd_same (fun b o e nb => ?_) fun b o _ h => h
              rw [upd_ne (fun w : b = D => nb (by rw [w]; exact List.mem_cons_self ..))]
              exact k3 b o e (fun w => nb (w ▸ List.mem_cons_of_mem _ ina)) fun w => nb (w ▸ List.mem_cons_of_mem _ inq)
            · refine hd_same (fun b o e nb => ?_) fun b o _ h => h
              rw [upd_ne (fun w : b = D => nb (by rw [w]; exact List.mem_cons_self ..))]
              exact e
            · rw [coreAll_app, ce, List.take_succ, ed, coreAll_app]
              show coreAll (ds.take i) ++ [core d2] = coreAll (ds.take i) ++ [core di]
              rw [cd]
        · rintro H2 ⟨cs2, l2, m2, acc, es, S2, k2, atD, la, da, ce⟩
          rw [List.take_of_length_le (by omega : ds.length ≤ xs.length)] at S2 ce
          refine ⟨_, rfl, a, q, cs2, l2, _, m2, 3, rfl, by decide, by decide, S2, by omega, fun r cs3 l3 m3 H3 r0 r1 S3 k3 => ?_⟩
          have k13 : ∀ b o, H b = some o → b ≠ a → b ≠ q → H3 b = some o := fun b o e n1 n2 => k3 b o (k2 b o (s1 b o e) n1 n2) n1 n2
          have atD3 := k3 D _ atD aD.symm qD.symm
          have ez : z + ((cntAll ds + 1 : Nat) : Int) = z + cntAll ds + 1 := by omega
          have items : DpAll K (Hd bs H3) acc es := dpAll_s (hd_same (fun b o e nb => k3 b o e (fun w => nb (w ▸ List.mem_cons_of_mem _ ina)) fun w => nb (w ▸ List.mem_cons_of_mem _ inq)) fun b o _ nb hb => nb (List.mem_cons_of_mem _ hb)) da
          refine ⟨rfl, _, rfl, ?_⟩
          refine ite2 (fun _ => ?_) fun _ => ?_
          · refine ⟨_, rfl, kk _ (.list es) H3 cs3 l3 m3 (by rw [ez]; exact S3) k13 (.lst (.inl (.inl ?_)) items) (congrArg PyData.list ce)⟩
            rw [hd_off (fun hb => bD2 D hb rfl)]
            exact atD3
          · refine ⟨_, rfl, D, acc, rfl, .inl ⟨SqL.of atD3, fun t nt => kk _ (.tuple es) _ cs3 l3 m3 (by rw [ez]; exact S3.s (same_new nt)) (fun b o e n1 n2 => same_new nt _ _ (k13 b o e n1 n2)) (.tup (.inl (.inl ?_)) (dpAll_s ?_ items)) (congrArg PyData.list ce)⟩⟩
            · rw [hd_off (fun hb => ?_)]
              · exact upd_same
              · by_cases wa : t = a
                · rw [wa, S3.ha] at nt
                  cases nt
                · by_cases wq : t = q
                  · rw [wq, S3.hq] at nt
                    cases nt
                  · obtain ⟨o, e⟩ := inb t hb
                    rw [k13 t o e wa wq] at nt
                    cases nt
            · exact hd_same (fun b o e _ => same_new nt _ _ e) fun b o _ h => h
      | @tup p xs ds sp dp =>
        obtain ⟨short, lens⟩ := len_tuple ln
        have deep : ∀ e ∈ ds, e.depth < n := fun e he => dl (by simpa [PyData.depth] using dep) he
        have ec : cnt (.tuple ds) = cntAll ds + 1 := rfl
        rw [ec] at hz kk
        have lx := dpAll_len dp
        refine iteF ?_
        have sq : ∀ H2 : Hp, (∀ b o, H1 b = some o → b ≠ a → b ≠ q → H2 b = some o) → SqT K H2 p xs := fun H2 k => sq_s (H := Hd bs H) (fun b o e => k b o (s1 b o (hd_in e).2) (fun w => (hd_in e).1 (w ▸ ina)) fun w => (hd_in e).1 (w ▸ inq)) sp
        refine ⟨p, rfl, .inr ⟨⟨xs, sq H1 fun b o e _ _ => e⟩, fun D hD => ?_⟩⟩
        have nD : H D = none := s1.free hD
        have aD : a ≠ D := ne_of_none S.ha nD
        have qD : q ≠ D := ne_of_none S.hq nD
        have bD2 : ∀ b ∈ bs, b ≠ D := fun b hb e => by
          obtain ⟨o, z⟩ := inb b hb
          rw [e, nD] at z
          cases z
        refine lc_any (n := xs.length) (fun i H2 => ∃ (cs2 : List Int) (l2 m2 : Int) (acc : List V) (es : List PyData), Strm H2 a q cs2 l2 (z + cntAll (ds.take i)) m2 ∧ (∀ b o, H1 b = some o → b ≠ a → b ≠ q → H2 b = some o) ∧ H2 D = some (.lst acc) ∧ acc.length = i ∧ DpAll K (Hd (D :: bs) H2) acc es ∧ coreAll es = coreAll (ds.take i)) ?_ ?_ ?_ ?_ ?_
        · refine ⟨cs, l, m, [], [], ?_, fun b o e _ _ => ?_, upd_same, rfl, .nil, rfl⟩
          · have y := S1.s (same_new (o := .lst []) hD)
            simpa [cntAll] using y
          · rw [upd_ne (ne_of_none e hD)]
            exact e
        · rintro i H2 lt ⟨_, _, _, _, _, _, k2, _⟩
          exact ⟨xs, xs[i], sq H2 k2, List.getElem?_eq_getElem lt⟩
        · rintro H2 ⟨_, _, _, _, _, _, k2, _⟩
          exact ⟨xs, sq H2 k2, Nat.le_refl _⟩
        · rintro i H2 x H3 lt ⟨cs2, l2, m2, acc, es, S2, k2, atD, la, da, ce⟩ ⟨rfl, y⟩
          obtain ⟨di, ed, ddi⟩ := dpAll_get dp (y xs (sq _ k2))
          have c1 : cntAll (ds.take (i + 1)) = cntAll (ds.take i) + cnt di := by
            rw [List.take_succ, ed, cntAll_app]
            show cntAll (ds.take i) + (cnt di + 0) = _
            omega
          have c2 := cntAll_take ds (i + 1)
          have h02 : Same (Hd bs H) (Hd (D :: bs) H3) := hd_same (fun b o e nb => k2 b o (s1 b o e) (fun w => nb (w ▸ ina)) fun w => nb (w ▸ inq)) fun b o e nb hb => by
            rcases List.mem_cons.1 hb with w | w
            · rw [w, nD] at e
              cases e
            · exact nb w
          refine ⟨rfl, ?_⟩
          refine ⟨_, rfl, _, rfl, a, q, D :: bs, cs2, l2, z + cntAll (ds.take i), m2, x, di, rfl, S2, by omega, ⟨List.mem_cons_of_mem _ ina, List.mem_cons_of_mem _ inq, fun b hb => ?_⟩, dp_s h02 ddi, lenAll_get lens di (List.mem_of_getElem? ed), deep di (List.mem_of_getElem? ed), fun v2 d2 H4 cs3 l3 m3 S3 k3 dv cd => ?_⟩
          · rcases List.mem_cons.1 hb with w | w
            · exact ⟨_, w ▸ atD⟩
            · by_cases wa : b = a
              · exact ⟨_, wa ▸ S2.ha⟩
              · by_cases wq : b = q
                · exact ⟨_, wq ▸ S2.hq⟩
                · obtain ⟨o, e⟩ := inb b w
                  exact ⟨o, k2 b o (s1 b o e) wa wq⟩
          · have atD4 := k3 D _ atD aD.symm qD.symm
            have big : 100000 ≤ sizeLine := by decide
            refine ⟨acc, atD4, by omega, cs3, l3, m3, acc ++ [v2], es ++ [d2], ?_, fun b o e n1 n2 => ?_, upd_same, by rw [List.length_append, la]; rfl, dpAll_app (dpAll_s ?_ da) (.cons (dp_s ?_ dv) .nil), ?_⟩
            · have ez : z + ((cntAll (ds.take (i + 1)) : Nat) : Int) = z + cntAll (ds.take i) + cnt di := by rw [c1]; omega
              rw [ez]
              exact ⟨by rw [upd_ne aD]; exact S3.ha, by rw [upd_ne qD]; exact S3.hq, S3.l0, S3.n0, S3.m0, S3.m1⟩
            · rw [upd_ne (ne_of_none e hD)]
              exact k3 b o (k2 b o e n1 n2) n1 n2
            · refine hd_same (fun b o e nb => ?_) fun b o _ h => h
              rw [upd_ne (fun w : b = D => nb (by rw [w]; exact List.mem_cons_self ..))]
              exact k3 b o e (fun w => nb (w ▸ List.mem_cons_of_mem _ ina)) fun w => nb (w ▸ List.mem_cons_of_mem _ inq)
            · refine hd_same (fun b o e nb => ?_) fun b o _ h => h
              rw [upd_ne (fun w : b = D => nb (by rw [w]; exact List.mem_cons_self ..))]
              exact e
            · rw [coreAll_app, ce, List.take_succ, ed, coreAll_app]
              show coreAll (ds.take i) ++ [core d2] = coreAll (ds.take i) ++ [core di]
              rw [cd]
        · rintro H2 ⟨cs2, l2, m2, acc, es, S2, k2, atD, la, da, ce⟩
          rw [List.take_of_length_le (by omega : ds.length ≤ xs.length)] at S2 ce
          refine ⟨_, rfl, a, q, cs2, l2, _, m2, 3, rfl, by decide, by decide, S2, by omega, fun r cs3 l3 m3 H3 r0 r1 S3 k3 => ?_⟩
          have k13 : ∀ b o, H b = some o → b ≠ a → b ≠ q → H3 b = some o := fun b o e n1 n2 => k3 b o (k2 b o (s1 b o e) n1 n2) n1 n2
          have atD3 := k3 D _ atD aD.symm qD.symm
          have ez : z + ((cntAll ds + 1 : Nat) : Int) = z + cntAll ds + 1 := by omega
          have items : DpAll K (Hd bs H3) acc es := dpAll_s (hd_same (fun b o e nb => k3 b o e (fun w => nb (w ▸ List.mem_cons_of_mem _ ina)) fun w => nb (w ▸ List.mem_cons_of_mem _ inq)) fun b o _ nb hb => nb (List.mem_cons_of_mem _ hb)) da
          refine ⟨rfl, _, rfl, ?_⟩
          refine ite2 (fun _ => ?_) fun _ => ?_
          · refine ⟨_, rfl, kk _ (.list es) H3 cs3 l3 m3 (by rw [ez]; exact S3) k13 (.lst (.inl (.inl ?_)) items) (congrArg PyData.list ce)⟩
            rw [hd_off (fun hb => bD2 D hb rfl)]
            exact atD3
          · refine ⟨_, rfl, D, acc, rfl, .inl ⟨SqL.of atD3, fun t nt => kk _ (.tuple es) _ cs3 l3 m3 (by rw [ez]; exact S3.s (same_new nt)) (fun b o e n1 n2 => same_new nt _ _ (k13 b o e n1 n2)) (.tup (.inl (.inl ?_)) (dpAll_s ?_ items)) (congrArg PyData.list ce)⟩⟩
            · rw [hd_off (fun hb => ?_)]
              · exact upd_same
              · by_cases wa : t = a
                · rw [wa, S3.ha] at nt
                  cases nt
                · by_cases wq : t = q
                  · rw [wq, S3.hq] at nt
                    cases nt
                  · obtain ⟨o, e⟩ := inb t hb
                    rw [k13 t o e wa wq] at nt
                    cases nt
            · exact hd_same (fun b o e _ => same_new nt _ _ e) fun b o _ h => h
end
end Mine
namespace Mine
open PySem L2 PySem.Spec PyProof.Rows
/-! ### the class Signs -/
def mth (j : Nat) : Stmt := match top 13 with
  | .ClassDef _ _ _ b .. => b.getD j (.Pass ⟨0, 0, 0, 0⟩)
  | _ => .Pass ⟨0, 0, 0, 0⟩
abbrev mEnded : Stmt := mth 1
abbrev mSeen : Stmt := mth 2
abbrev mSees : Stmt := mth 3
abbrev mWrong : Stmt := mth 4
abbrev mTake : Stmt := mth 5
abbrev mOneOf : Stmt := mth 6
/-- a reader of the text t: i signs are done, the next one is the g-th of the l-th line -/
def Sg (H : Hp) (x dx C : Addr) (t : Str) (i : Nat) (l g : Int) : Prop := H x = some (.ins C dx [("_text", .str t), ("_done", .int i), ("_at_line", .int l), ("_at_sign", .int g)])
structure SgT (K : PySem.W.Frag) (mg : Str → Option Value) (C : Addr) : Prop where
  cl : Cls K C
  nT : NoAttr K C "_text"
  nD : NoAttr K C "_done"
  nL : NoAttr K C "_at_line"
  nS : NoAttr K C "_at_sign"
  len : mg "len" = none
/-- the sign that comes next, as a text -/
def nextS (t : Str) (i : Nat) : Str := ⟨((t.cps.toList.drop i).take 1).toArray⟩
theorem cut_next (t : Str) (i : Nat) (h : i ≤ t.length) : cutS t (some (i : Int)) (some ((i : Int) + 1)) = nextS t i := by
  have e1 : HT.sIx t.length 0 (some (i : Int)) = i := by
    show (if (i : Int) < 0 then ((i : Int) + (t.length : Int)).toNat else min ((i : Int)).toNat t.length) = i
    rw [if_neg (by omega)]
    omega
  have e2 : HT.sIx t.length t.length (some ((i : Int) + 1)) = min (i + 1) t.length := by
    show (if (i : Int) + 1 < 0 then ((i : Int) + 1 + (t.length : Int)).toNat else min ((i : Int) + 1).toNat t.length) = min (i + 1) t.length
    rw [if_neg (by omega)]
    omega
  unfold cutS nextS
  rw [e1, e2]
  congr 2
  by_cases lt : i < t.length
  · congr 1
    omega
  · have z : t.cps.toList.drop i = [] := List.drop_of_length_le (by rw [Array.length_toList]; show t.length ≤ i; omega)
    rw [z, List.take_nil, List.take_nil]
section
variable {w : World} {P : Program} {base : Heap} {K : PySem.W.Frag} {mg : Str → Option Value} {C : Addr}
theorem sc1 (j : Nat) (n : List Str) (h : FnScope n ["self"] (defScope (mth j))) : FnScope n ["self"] (defScope (mth j)) := h
theorem scEn : FnScope ["self"] ["self"] (defScope mEnded) := ⟨rfl, rfl, rfl, by decide +kernel, rfl, by decide +kernel, by decide +kernel⟩
theorem scSn : FnScope ["self"] ["self"] (defScope mSeen) := ⟨rfl, rfl, rfl, by decide +kernel, rfl, by decide +kernel, by decide +kernel⟩
theorem scSs : FnScope ["self", "choices"] ["self", "choices"] (defScope mSees) := ⟨rfl, rfl, rfl, by decide +kernel, rfl, by decide +kernel, by decide +kernel⟩
def spEnded (C : Addr) : Sp := fun vs H Q _ => ∃ (x dx : Addr) (t : Str) (i : Nat) (l g : Int), vs = [.ref x] ∧ Sg H x dx C t i l g ∧ t.length ≤ sizeLine ∧ Q (.bl (decide (i = t.length))) H
def spSeen (C : Addr) : Sp := fun vs H Q _ => ∃ (x dx : Addr) (t : Str) (i : Nat) (l g : Int), vs = [.ref x] ∧ Sg H x dx C t i l g ∧ i ≤ t.length ∧ t.length ≤ sizeLine ∧ Q (.str (nextS t i)) H
theorem ok_ended {f : Addr} {fd : FuncData} (F : Fun K "ended" "Signs.ended" mEnded f fd) (T : SgT K mg C) : FnOk P w K mg base CX0 1 f fd ["self"] (spEnded C) := by
  refine F.ok scEn (fun vs H Q E h => ?_) (fun cdv A outer s H vs Q E hr h => ?_)
  · obtain ⟨x, dx, t, i, l, g, rfl, _⟩ := h
    rfl
  · obtain ⟨x, dx, t, i, l, g, rfl, S, len, kk⟩ := h
    refine ⟨_, pss_one (ps_ret (pe_cmpR op_eq (pe_fld (pv 0) rfl) (pe_callB call_len (by rfl) T.len PySem.boot_len (pa_cons (pe_fld (pv 0) rfl) pa_nil)) (nomark _))), ?_⟩
    refine ⟨_, rfl, x, C, dx, _, _, rfl, S, T.cl, T.nD, rfl, _, rfl, x, C, dx, _, _, rfl, S, T.cl, T.nT, rfl, _, _, rfl, ⟨len, rfl⟩, rfl, ?_⟩
    have e : decide (V.int (i : Int) = V.int (t.length : Int)) = decide (i = t.length) := by
      rw [dec_i]
      by_cases h : i = t.length
      · rw [decide_eq_true h, h, decide_eq_true rfl]
      · rw [decide_eq_false h, decide_eq_false (fun e => h (by omega))]
    rw [e]
    exact kk
theorem ok_seen {f : Addr} {fd : FuncData} (F : Fun K "seen" "Signs.seen" mSeen f fd) (T : SgT K mg C) : FnOk P w K mg base CX0 1 f fd ["self"] (spSeen C) := by
  refine F.ok scSn (fun vs H Q E h => ?_) (fun cdv A outer s H vs Q E hr h => ?_)
  · obtain ⟨x, dx, t, i, l, g, rfl, _⟩ := h
    rfl
  · obtain ⟨x, dx, t, i, l, g, rfl, S, le, len, kk⟩ := h
    refine ⟨_, pss_one (ps_ret (pe_slice sl_str (pe_fld (pv 0) rfl) (po_some (pe_fld (pv 0) rfl)) (po_some (pe_op op_add (pe_fld (pv 0) rfl) pe_int)))), ?_⟩
    refine ⟨_, rfl, x, C, dx, _, _, rfl, S, T.cl, T.nT, rfl, _, rfl, x, C, dx, _, _, rfl, S, T.cl, T.nD, rfl, _, rfl, _, rfl, x, C, dx, _, _, rfl, S, T.cl, T.nD, rfl, _, _, rfl, rfl, _, rfl, t, rfl, len, ?_⟩
    rw [cut_next t i le]
    exact kk
def seesB (t : Str) (i : Nat) (l : List Nat) : Bool := match t.cps.toList[i]? with
  | some c => decide (c ∈ l)
  | none => false
theorem next_some {t : Str} {i c : Nat} (h : t.cps.toList[i]? = some c) : nextS t i = ⟨#[c]⟩ := by
  unfold nextS
  obtain ⟨lt, e⟩ := List.getElem?_eq_some_iff.mp h
  rw [List.drop_eq_getElem_cons lt, e]
  rfl
theorem get_none {t : Str} {i : Nat} (h : i ≤ t.length) : (t.cps.toList[i]? = none) ↔ i = t.length := by
  have e : t.cps.toList.length = t.length := Array.length_toList
  rw [List.getElem?_eq_none_iff]
  omega
def spSees (C : Addr) (how : Hp → V → List Nat → Prop) : Sp := fun vs H Q _ => ∃ (x dx : Addr) (t : Str) (i : Nat) (l g : Int) (c : V) (ls : List Nat), vs = [.ref x, c] ∧ Sg H x dx C t i l g ∧ i ≤ t.length ∧ t.length ≤ sizeLine ∧ how H c ls ∧ Q (.bl (seesB t i ls)) H
/-- choices in a text, in a list of signs -/
def howS : Hp → V → List Nat → Prop := fun _ c ls => ∃ z : Str, c = .str z ∧ ls = z.cps.toList
def howL (K : PySem.W.Frag) : Hp → V → List Nat → Prop := fun H c ls => ∃ p, c = .ref p ∧ SqL K H p (ls.map fun d => V.str ⟨#[d]⟩)
theorem inV_signs (c : Nat) : ∀ ls : List Nat, inV (.str ⟨#[c]⟩) (ls.map fun d => V.str ⟨#[d]⟩) = decide (c ∈ ls)
  | [] => rfl
  | d :: ls => by
    show (eqV (.str ⟨#[d]⟩) (.str ⟨#[c]⟩) || inV (.str ⟨#[c]⟩) (ls.map fun d => V.str ⟨#[d]⟩)) = _
    rw [inV_signs c ls, Bool.eq_iff_iff]
    have e : eqV (.str ⟨#[d]⟩) (.str ⟨#[c]⟩) = true ↔ c = d := by
      show ((⟨#[d]⟩ : Str) == (⟨#[c]⟩ : Str)) = true ↔ c = d
      rw [beq_iff_eq]
      constructor
      · intro h
        have z : (#[d] : Array Nat) = #[c] := congrArg Str.cps h
        simpa using z.symm
      · rintro rfl
        rfl
    simp only [Bool.or_eq_true, decide_eq_true_eq, List.mem_cons, e]
structure MtT (P : Program) (w : World) (K : PySem.W.Frag) (mg : Str → Option Value) (base : Heap) (C : Addr) (CXx : CXT) (k : Nat) (m : Str) (ps : List Str) (sp : Sp) : Prop where
  ex : ∃ (f : Addr) (fd : FuncData), Meth K C m f ∧ FnOk P w K mg base CXx k f fd ps sp ∧ Binds K fd ps []
theorem ok_seesS {f fE fS : Addr} {fd fdE fdS : FuncData} (F : Fun K "sees" "Signs.sees" mSees f fd) (T : SgT K mg C) (mE : Meth K C "ended" fE) (GE : FnOk P w K mg base CX0 1 fE fdE ["self"] (spEnded C)) (bE : Binds K fdE ["self"] []) (mS : Meth K C "seen" fS) (GS : FnOk P w K mg base CX0 1 fS fdS ["self"] (spSeen C)) (bS : Binds K fdS ["self"] []) : FnOk P w K mg base CX0 2 f fd ["self", "choices"] (spSees C howS) := by
  refine F.ok scSs (fun vs H Q E h => ?_) (fun cdv A outer s H vs Q E hr h => ?_)
  · obtain ⟨x, dx, t, i, l, g, c, ls, rfl, _⟩ := h
    rfl
  · obtain ⟨x, dx, t, i, l, g, _, _, rfl, S, le, len, ⟨z, rfl, rfl⟩, kk⟩ := h
    refine ⟨_, pss_one (ps_ret (pe_and (pe_not (pe_meth0 (pv 0) T.cl mE GE hr bE .nil pass0)) (pe_one (pe_cmpR op_in_sign (pe_meth0 (pv 0) T.cl mS GS hr bS .nil pass0) (pv 1) rfl)))), ?_⟩
    refine ⟨_, rfl, x, dx, _, rfl, S, rfl, x, dx, t, i, l, g, rfl, S, len, _, rfl, _, rfl, ?_⟩
    by_cases e : i = t.length
    · rw [decide_eq_true e]
      refine iteF ?_
      unfold seesB at kk
      rw [(get_none le).mpr e] at kk
      exact kk
    · rw [decide_eq_false e]
      refine iteT ⟨_, rfl, x, dx, _, rfl, S, rfl, x, dx, t, i, l, g, rfl, S, le, len, _, rfl, ?_⟩
      cases hc : t.cps.toList[i]? with
      | none => exact absurd ((get_none le).mp hc) e
      | some c =>
        unfold seesB at kk
        rw [hc] at kk
        exact ⟨c, z, by rw [next_some hc], rfl, kk⟩
theorem ok_seesL {f fE fS : Addr} {fd fdE fdS : FuncData} (F : Fun K "sees" "Signs.sees" mSees f fd) (T : SgT K mg C) (mE : Meth K C "ended" fE) (GE : FnOk P w K mg base CX0 1 fE fdE ["self"] (spEnded C)) (bE : Binds K fdE ["self"] []) (mS : Meth K C "seen" fS) (GS : FnOk P w K mg base CX0 1 fS fdS ["self"] (spSeen C)) (bS : Binds K fdS ["self"] []) : FnOk P w K mg base CX0 2 f fd ["self", "choices"] (spSees C (howL K)) := by
  refine F.ok scSs (fun vs H Q E h => ?_) (fun cdv A outer s H vs Q E hr h => ?_)
  · obtain ⟨x, dx, t, i, l, g, c, ls, rfl, _⟩ := h
    rfl
  · obtain ⟨x, dx, t, i, l, g, _, ls, rfl, S, le, len, ⟨p, rfl, hp⟩, kk⟩ := h
    refine ⟨_, pss_one (ps_ret (pe_and (pe_not (pe_meth0 (pv 0) T.cl mE GE hr bE .nil pass0)) (pe_one (pe_cmpR op_in_seq (pe_meth0 (pv 0) T.cl mS GS hr bS .nil pass0) (pv 1) rfl)))), ?_⟩
    refine ⟨_, rfl, x, dx, _, rfl, S, rfl, x, dx, t, i, l, g, rfl, S, len, _, rfl, _, rfl, ?_⟩
    by_cases e : i = t.length
    · rw [decide_eq_true e]
      refine iteF ?_
      unfold seesB at kk
      rw [(get_none le).mpr e] at kk
      exact kk
    · rw [decide_eq_false e]
      refine iteT ⟨_, rfl, x, dx, _, rfl, S, rfl, x, dx, t, i, l, g, rfl, S, le, len, _, rfl, ?_⟩
      cases hc : t.cps.toList[i]? with
      | none => exact absurd ((get_none le).mp hc) e
      | some c =>
        unfold seesB at kk
        rw [hc] at kk
        refine ⟨p, _, rfl, .inl hp, rfl, List.all_eq_true.mpr fun y hy => ?_, ?_⟩
        · obtain ⟨d, _, rfl⟩ := List.mem_map.mp hy
          rfl
        · rw [next_some hc, inV_signs]
          exact kk
end
end Mine
namespace Mine
open PySem L2 PySem.Spec PyProof.Rows
/-! ### Signs.wrong, Signs.take -/
/-- what is told of BadText -/
structure BtT (P : Program) (w : World) (K : PySem.W.Frag) (mg : Str → Option Value) (base : Heap) (B : Addr) : Prop where
  gB : mg "BadText" = some (.ref B)
  x2 : XC2 P w K mg base "BadText" B "line" "sign" "line" "sign"
/-- BadText(l, g) is in flight, its dict at d, all else as it was -/
def Flies (E : XK) (B : Addr) (H : Hp) (l g : Int) : Prop := ∀ d H', H d = none → Same H H' → H' d = some (.xd [("sign", .int g), ("line", .int l)]) → E (.ref B) (some d) H'
section
variable {w : World} {P : Program} {base : Heap} {K : PySem.W.Frag} {mg : Str → Option Value} {C B : Addr}
theorem scWr : FnScope ["self"] ["self"] (defScope mWrong) := ⟨rfl, rfl, rfl, by decide +kernel, rfl, by decide +kernel, by decide +kernel⟩
theorem scTk : FnScope ["self", "choices", "sign"] ["self", "choices"] (defScope mTake) := ⟨rfl, rfl, rfl, by decide +kernel, rfl, by decide +kernel, by decide +kernel⟩
def spWrong (C B : Addr) : Sp := fun vs H _ E => ∃ (x dx : Addr) (t : Str) (i : Nat) (l g : Int), vs = [.ref x] ∧ Sg H x dx C t i l g ∧ Flies E B H l g
theorem ok_wrong {f : Addr} {fd : FuncData} (F : Fun K "wrong" "Signs.wrong" mWrong f fd) (T : SgT K mg C) (TB : BtT P w K mg base B) : FnOk P w K mg base (L2.CX P w) 3 f fd ["self"] (spWrong C B) := by
  refine F.okX scWr (fun vs H Q E h => ?_) (fun cdv A outer s H vs Q E hr h => ?_)
  · obtain ⟨x, dx, t, i, l, g, rfl, _⟩ := h
    rfl
  · obtain ⟨x, dx, t, i, l, g, rfl, S, fly⟩ := h
    obtain ⟨fI, fdI, iC, tI, FI, bI, _⟩ := TB.x2.ini
    refine ⟨_, pss_one (ps_raise rfl (takes_of rfl rfl rfl rfl) (pmk_oex TB.x2.oex iC tI FI hr bI .nil pass0 (by rfl) TB.gB (pa_cons (pe_fld (pv 0) rfl) (pa_cons (pe_fld (pv 0) rfl) pa_nil)))), ?_⟩
    refine ⟨_, rfl, x, C, dx, _, _, rfl, S, T.cl, T.nL, rfl, _, rfl, x, C, dx, _, _, rfl, S, T.cl, T.nS, rfl, (by show 2 ≤ 1000; decide), fun a na => ?_⟩
    refine ⟨a, .int l, .int g, rfl, TB.x2.oex, TB.x2.no1, TB.x2.no2, upd_same, fun d nd ne => ⟨rfl, d, [("sign", .int g), ("line", .int l)], ?_, upd_same, ?_, ?_⟩⟩
    · rw [upd_ne ne.symm, upd_same]
    · rw [upd_ne ne] at nd
      exact nd
    · rw [upd_ne ne] at nd
      refine fly d _ nd (fun b o e => ?_) upd_same
      have n1 := ne_of_none e nd
      have n2 := ne_of_none e na
      rw [upd_ne n1, del_ne n2, upd_ne n1, upd_ne n2, upd_ne n1, upd_ne n2]
      exact e
def spTake (C B : Addr) (how : Hp → V → List Nat → Prop) : Sp := fun vs H Q E => ∃ (x dx : Addr) (t : Str) (i : Nat) (l g : Int) (c : V) (ls : List Nat), vs = [.ref x, c] ∧ Sg H x dx C t i l g ∧ i ≤ t.length ∧ t.length ≤ sizeLine ∧ how H c ls ∧
  (∀ d H', t.cps.toList[i]? = some d → d ∈ ls → Sg H' x dx C t (i + 1) (if d = 10 then l + 1 else l) (if d = 10 then 1 else g + 1) → (∀ b o, H b = some o → b ≠ x → H' b = some o) → Q (.str ⟨#[d]⟩) H') ∧
  (seesB t i ls = false → Flies E B H l g)
theorem ok_take {how : Hp → V → List Nat → Prop} {f fS fW fN : Addr} {fd fdS fdW fdN : FuncData} (F : Fun K "take" "Signs.take" mTake f fd) (T : SgT K mg C) (mS : Meth K C "sees" fS) (GS : FnOk P w K mg base CX0 2 fS fdS ["self", "choices"] (spSees C how)) (bS : Binds K fdS ["self", "choices"] []) (mW : Meth K C "wrong" fW) (GW : FnOk P w K mg base (L2.CX P w) 3 fW fdW ["self"] (spWrong C B)) (bW : Binds K fdW ["self"] [])
    (mN : Meth K C "seen" fN) (GN : FnOk P w K mg base CX0 1 fN fdN ["self"] (spSeen C)) (bN : Binds K fdN ["self"] []) : FnOk P w K mg base (L2.CX P w) 4 f fd ["self", "choices"] (spTake C B how) := by
  refine F.okX scTk (fun vs H Q E h => ?_) (fun cdv A outer s H vs Q E hr h => ?_)
  · obtain ⟨x, dx, t, i, l, g, c, ls, rfl, _⟩ := h
    rfl
  · obtain ⟨x, dx, t, i, l, g, c, ls, rfl, S, le, len, hh, good, bad⟩ := h
    refine ⟨_, pss_cons (ps_if (pt_not (pt_val (pe_meth (pv 0) T.cl mS GS (hr.mono (by decide)) bS .nil pass0 (pa_cons (pv 1) pa_nil)))) (pss_one (ps_expr (pe_meth0 (pv 0) T.cl mW GW hr bW .nil (passes_call (takes_of rfl rfl rfl rfl) (fun _ _ _ _ h => h))))) pss_nil)
      (pss_cons (ps_set (i := 2) scTk.nd rfl (Or.inl rfl) (pe_meth0 (pv 0) T.cl mN GN (hr.mono (by decide)) bN .nil pass0))
      (pss_cons (ps_fldaug (pv 0) pe_int in_add)
      (pss_cons (ps_fldaug (pv 0) pe_int in_add)
      (pss_cons (ps_if (pt_cmpR op_eq (pv 2) pe_str (nomark _)) (pss_cons (ps_fldaug (pv 0) pe_int in_add) (pss_one (ps_fld (pv 0) pe_int rfl))) pss_nil)
      (pss_one (ps_ret (pv 2))))))), ?_⟩
    refine ⟨_, rfl, x, dx, _, rfl, S, rfl, _, rfl, x, dx, t, i, l, g, c, ls, rfl, S, le, len, hh, _, rfl, ?_⟩
    cases hs : seesB t i ls with
    | false => exact iteT ⟨_, rfl, x, dx, _, rfl, S, rfl, x, dx, t, i, l, g, rfl, S, bad hs⟩
    | true =>
      refine iteF ?_
      obtain ⟨d, hd, hin⟩ : ∃ d, t.cps.toList[i]? = some d ∧ d ∈ ls := by
        unfold seesB at hs
        cases hc : t.cps.toList[i]? with
        | none =>
          rw [hc] at hs
          cases hs
        | some d =>
          rw [hc] at hs
          exact ⟨d, rfl, of_decide_eq_true hs⟩
      refine ⟨_, rfl, x, dx, _, rfl, S, rfl, x, dx, t, i, l, g, rfl, S, le, len, ?_⟩
      rw [next_some hd]
      refine ⟨_, rfl, x, C, dx, _, _, rfl, S, T.cl, T.nD, rfl, _, _, rfl, rfl, dx, _, S, (by show 4 < 1000; decide), ?_⟩
      have S1 : Sg (upd H x (.ins C dx [("_text", .str t), ("_done", .int ((i + 1 : Nat) : Int)), ("_at_line", .int l), ("_at_sign", .int g)])) x dx C t (i + 1) l g := upd_same
      have k1 : ∀ b o, H b = some o → b ≠ x → (upd H x (.ins C dx [("_text", .str t), ("_done", .int ((i + 1 : Nat) : Int)), ("_at_line", .int l), ("_at_sign", .int g)])) b = some o := fun b o e n => by rw [upd_ne n]; exact e
      show tSeq _ _ _ _ (upd H x (.ins C dx [("_text", .str t), ("_done", .int ((i + 1 : Nat) : Int)), ("_at_line", .int l), ("_at_sign", .int g)]))
      generalize upd H x (.ins C dx [("_text", .str t), ("_done", .int ((i + 1 : Nat) : Int)), ("_at_line", .int l), ("_at_sign", .int g)]) = H1 at S1 k1 ⊢
      refine ⟨_, rfl, x, C, dx, _, _, rfl, S1, T.cl, T.nS, rfl, _, _, rfl, rfl, dx, _, S1, (by show 4 < 1000; decide), ?_⟩
      have S2 : Sg (upd H1 x (.ins C dx [("_text", .str t), ("_done", .int ((i + 1 : Nat) : Int)), ("_at_line", .int l), ("_at_sign", .int (g + 1))])) x dx C t (i + 1) l (g + 1) := upd_same
      have k2 : ∀ b o, H b = some o → b ≠ x → (upd H1 x (.ins C dx [("_text", .str t), ("_done", .int ((i + 1 : Nat) : Int)), ("_at_line", .int l), ("_at_sign", .int (g + 1))])) b = some o := fun b o e n => by rw [upd_ne n]; exact k1 b o e n
      show tSeq _ _ _ _ (upd H1 x (.ins C dx [("_text", .str t), ("_done", .int ((i + 1 : Nat) : Int)), ("_at_line", .int l), ("_at_sign", .int (g + 1))]))
      generalize upd H1 x (.ins C dx [("_text", .str t), ("_done", .int ((i + 1 : Nat) : Int)), ("_at_line", .int l), ("_at_sign", .int (g + 1))]) = H2 at S2 k2 ⊢
      refine ⟨_, rfl, rfl, _, rfl, ?_⟩
      have ec : decide (V.str ⟨#[d]⟩ = V.str "\n") = decide (d = 10) := by
        rw [dec_s]
        by_cases h : d = 10
        · rw [h]
          rfl
        · rw [decide_eq_false h, decide_eq_false (fun e => h (by
            have z : (#[d] : Array Nat) = #[10] := congrArg Str.cps e
            simpa using z))]
      rw [ec]
      by_cases h10 : d = 10
      · rw [decide_eq_true h10]
        refine iteT ⟨_, rfl, x, C, dx, _, _, rfl, S2, T.cl, T.nL, rfl, _, _, rfl, rfl, dx, _, S2, (by show 4 < 1000; decide), ?_⟩
        have S3 : Sg (upd H2 x (.ins C dx [("_text", .str t), ("_done", .int ((i + 1 : Nat) : Int)), ("_at_line", .int (l + 1)), ("_at_sign", .int (g + 1))])) x dx C t (i + 1) (l + 1) (g + 1) := upd_same
        refine ⟨_, rfl, x, C, dx, _, rfl, S3, T.cl, T.nS, (by show 4 < 1000; decide), _, rfl, good d _ hd hin ?_ fun b o e n => ?_⟩
        · rw [if_pos h10, if_pos h10]
          exact upd_same
        · rw [upd_ne n, upd_ne n]
          exact k2 b o e n
      · rw [decide_eq_false h10]
        refine iteF ⟨_, rfl, good d _ hd hin ?_ k2⟩
        rw [if_neg h10, if_neg h10]
        exact S2
end
end Mine
namespace Mine
open PySem L2 PySem.Spec PyProof.Rows
/-! ### a test as a monotone one -/
def cUp (c : TT) : TT := fun σ H Q => ∃ Q0 : Bool → Hp → Prop, (∀ b H1, Q0 b H1 → Q b H1) ∧ c σ H Q0
theorem pt_up {X : Cx} {e : Expr} {c : TT} (h : PT X e c) : PT X e (cUp c) := by
  refine ⟨fun pins s σ H Q I ⟨Q0, up, hw⟩ => ?_⟩
  exact thn (h.run pins s σ H Q0 I hw) fun d s1 ⟨H1, I1, q⟩ => ⟨H1, I1, up d H1 q⟩
theorem up_mono {c : TT} (σ : L2.St) (H : Hp) (Q Q' : Bool → Hp → Prop) (h : ∀ b H1, Q b H1 → Q' b H1) (q : cUp c σ H Q) : cUp c σ H Q' := by
  obtain ⟨Q0, up, hw⟩ := q
  exact ⟨Q0, fun b H1 z => h b H1 (up b H1 z), hw⟩
theorem up_of {c : TT} {σ : L2.St} {H : Hp} {Q : Bool → Hp → Prop} (q : c σ H Q) : cUp c σ H Q := ⟨Q, fun _ _ z => z, q⟩
/-! ### figures -/
open Pic
theorem figs_next : ∀ {k j : Nat} {L : List Nat}, j ≤ figs k L → (j < figs k L ↔ j < k ∧ ∃ c, L[j]? = some c ∧ dig c = true)
  | 0, j, L, h => ⟨fun z => absurd z (Nat.not_lt_zero _), fun z => absurd z.1 (Nat.not_lt_zero _)⟩
  | k + 1, j, [], h => by
    refine ⟨fun z => absurd z (Nat.not_lt_zero _), fun ⟨_, c, e, _⟩ => ?_⟩
    rw [List.getElem?_nil] at e
    cases e
  | k + 1, 0, c :: t, h => by
    show 0 < (if dig c then figs k t + 1 else 0) ↔ _
    by_cases hc : dig c = true
    · rw [if_pos hc]
      exact ⟨fun _ => ⟨Nat.succ_pos _, c, rfl, hc⟩, fun _ => Nat.succ_pos _⟩
    · rw [if_neg hc]
      refine ⟨fun z => absurd z (Nat.not_lt_zero _), fun ⟨_, d, e, hd⟩ => ?_⟩
      cases e
      exact absurd hd hc
  | k + 1, j + 1, c :: t, h => by
    have h' : j + 1 ≤ (if dig c then figs k t + 1 else 0) := h
    show j + 1 < (if dig c then figs k t + 1 else 0) ↔ j + 1 < k + 1 ∧ ∃ d, t[j]? = some d ∧ dig d = true
    by_cases hc : dig c = true
    · rw [if_pos hc] at h' ⊢
      have z := figs_next (k := k) (j := j) (L := t) (by omega)
      constructor
      · intro y
        obtain ⟨y1, y2⟩ := z.mp (by omega)
        exact ⟨by omega, y2⟩
      · rintro ⟨y1, y2⟩
        have := z.mpr ⟨by omega, y2⟩
        omega
    · rw [if_neg hc] at h'
      omega
theorem numLen_next {L : List Nat} {j : Nat} (h0 : 1 ≤ j) (h : j ≤ numLen L) : j < numLen L ↔ L.take j ≠ [48] ∧ j < 16 ∧ ∃ c, L[j]? = some c ∧ dig c = true := by
  cases L with
  | nil =>
    have z : numLen [] = 0 := rfl
    omega
  | cons c t =>
    rw [numLen_cons] at h ⊢
    by_cases hc : c = 48
    · rw [if_pos hc] at h ⊢
      have e : j = 1 := by omega
      subst e
      refine ⟨fun z => absurd z (by omega), fun z => absurd ?_ z.1⟩
      rw [hc]
      rfl
    · rw [if_neg hc] at h ⊢
      have ne : (c :: t).take j ≠ [48] := by
        cases j with
        | zero => omega
        | succ j =>
          intro z
          rw [List.take_succ_cons] at z
          exact hc (List.cons.inj z).1
      rw [figs_next h]
      exact ⟨fun z => ⟨ne, z⟩, fun z => z.2⟩
theorem numLen_dig {L : List Nat} {i : Nat} (h : i < numLen L) : ∃ c, L[i]? = some c ∧ dig c = true := by
  cases L with
  | nil => exact absurd h (Nat.not_lt_zero _)
  | cons c t =>
    rw [numLen_cons] at h
    by_cases hc : c = 48
    · rw [if_pos hc] at h
      have e : i = 0 := by omega
      subst e
      exact ⟨c, rfl, by rw [hc]; rfl⟩
    · rw [if_neg hc] at h
      exact figs_dig _ _ _ h
theorem numLen_pos {L : List Nat} : 0 < numLen L ↔ ∃ c, L[0]? = some c ∧ dig c = true := by
  constructor
  · exact fun h => numLen_dig h
  · rintro ⟨c, e, hd⟩
    cases L with
    | nil => cases e
    | cons d t =>
      cases e
      rw [numLen_cons]
      split
      · exact Nat.one_pos
      · exact (figs_next (Nat.zero_le _)).mpr ⟨by decide, c, rfl, hd⟩
theorem dig_mem (c : Nat) : c ∈ (("0123456789" : Str)).cps.toList ↔ dig c = true := by
  have e : (("0123456789" : Str)).cps.toList = [48, 49, 50, 51, 52, 53, 54, 55, 56, 57] := by decide +kernel
  rw [e]
  unfold dig
  simp only [List.mem_cons, List.not_mem_nil, or_false, Bool.and_eq_true, Nat.ble_eq]
  omega
theorem take_digits {L : List Nat} {j : Nat} (h : j ≤ numLen L) : NumText.AllDigits (L.take j) := by
  intro c hc
  obtain ⟨i, hi⟩ := List.getElem?_of_mem hc
  have lt : i < j := by
    have z := (List.getElem?_eq_some_iff.mp hi).1
    rw [List.length_take] at z
    omega
  rw [List.getElem?_take_of_lt lt] at hi
  obtain ⟨d, e, hd⟩ := numLen_dig (Nat.lt_of_lt_of_le lt h)
  rw [hi] at e
  cases e
  unfold dig at hd
  simp only [Bool.and_eq_true, Nat.ble_eq] at hd
  exact hd
/-- the number ahead -/
def numVal (L : List Nat) : Int := ((NumText.digitsVal (L.take (numLen L)) : Nat) : Int)
theorem num_text {L : List Nat} (h : 0 < numLen L) : intText? ⟨(L.take (numLen L)).toArray⟩ = some (numVal L) := by
  have le := numLen_le L
  refine PySem.intText_digits (x := ⟨(L.take (numLen L)).toArray⟩) (take_digits (Nat.le_refl _)) ?_ ?_
  · intro z
    have z2 : L.take (numLen L) = [] := z
    have l := congrArg List.length z2
    rw [List.length_take, List.length_nil] at l
    omega
  · show (L.take (numLen L)).toArray.size ≤ 4300
    rw [List.size_toArray, List.length_take]
    omega
end Mine
namespace Mine
open PySem L2 PySem.Spec PyProof.Rows Pic
abbrev sNum : Stmt := top 15
abbrev sInt : Stmt := top 16
/-- a method's promise, by its name -/
def MtP (P : Program) (w : World) (K : PySem.W.Frag) (mg : Str → Option Value) (base : Heap) (C : Addr) (CXx : CXT) (k : Nat) (m : Str) (ps : List Str) (sp : Sp) : Prop := ∃ (f : Addr) (fd : FuncData), Meth K C m f ∧ FnOk P w K mg base CXx k f fd ps sp ∧ Binds K fd ps []
structure ConT (mg : Str → Option Value) : Prop where
  figs : ∃ t, mg "FIGURES" = some (.str "0123456789" t)
  most : ∃ t, mg "MOST_FIGURES" = some (.int 16 t)
  int : mg "int" = none
  len : mg "len" = none
theorem Flies.more {E : XK} {B : Addr} {H H1 : Hp} {l g : Int} (f : Flies E B H l g) (s : Same H H1) : Flies E B H1 l g := fun d H2 nd s2 hd => f d H2 (s.free nd) (Same.trans s s2) hd
/-- the rest of the text from i on -/
abbrev tailOf (t : Str) (i : Nat) : List Nat := t.cps.toList.drop i
/-- nothing but the reader at x changes -/
def Keeps (H H' : Hp) (x : Addr) : Prop := ∀ b o, H b = some o → b ≠ x → H' b = some o
def FliesX (E : XK) (B : Addr) (H : Hp) (x : Addr) (l g : Int) : Prop := ∀ d H', H d = none → Keeps H H' x → H' d = some (.xd [("sign", .int g), ("line", .int l)]) → E (.ref B) (some d) H'
def spNum (C B : Addr) : Sp := fun vs H Q E => ∃ (x dx : Addr) (t : Str) (i : Nat) (l g : Int), vs = [.ref x] ∧ Sg H x dx C t i l g ∧ i ≤ t.length ∧ t.length ≤ sizeLine ∧
  (0 < numLen (tailOf t i) → ∀ H', Sg H' x dx C t (i + numLen (tailOf t i)) l (g + numLen (tailOf t i)) → Keeps H H' x → Q (.int (numVal (tailOf t i))) H') ∧ (numLen (tailOf t i) = 0 → Flies E B H l g)
section
variable {w : World} {P : Program} {base : Heap} {K : PySem.W.Frag} {mg : Str → Option Value} {C B : Addr}
theorem scNum : FnScope ["signs", "figures"] ["signs"] (defScope sNum) := ⟨rfl, rfl, rfl, by decide +kernel, rfl, by decide +kernel, by decide +kernel⟩
theorem ok_num {f : Addr} {fd : FuncData} (F : Fun K "read_number" "read_number" sNum f fd) (T : SgT K mg C) (CT : ConT mg) (MT : MtP P w K mg base C (L2.CX P w) 4 "take" ["self", "choices"] (spTake C B howS)) (MS : MtP P w K mg base C CX0 2 "sees" ["self", "choices"] (spSees C howS)) : FnOk P w K mg base (L2.CX P w) 5 f fd ["signs"] (spNum C B) := by
  obtain ⟨fT, fdT, mT, GT, bT⟩ := MT
  obtain ⟨fS, fdS, mS, GS, bS⟩ := MS
  obtain ⟨tf, gF⟩ := CT.figs
  obtain ⟨tm, gM⟩ := CT.most
  refine F.okX scNum (fun vs H Q E h => ?_) (fun cdv A outer s H vs Q E hr h => ?_)
  · obtain ⟨x, dx, t, i, l, g, rfl, _⟩ := h
    rfl
  · obtain ⟨x, dx, t, i, l, g, rfl, S, le, len, good, bad⟩ := h
    have tk := (takes_of (X := cxOf (L2.CX P w) P w K mg base ["signs", "figures"] "read_number" (defScope sNum) f cdv A outer s H E) (E := E) rfl rfl rfl rfl)
    have pass : Passes (L2.CX P w) (cxOf (L2.CX P w) P w K mg base ["signs", "figures"] "read_number" (defScope sNum) f cdv A outer s H E) E := passes_call tk (fun _ _ _ _ h => h)
    refine ⟨_, pss_cons (ps_set (i := 1) scNum.nd rfl (Or.inl rfl) (pe_meth (pv 0) T.cl mT GT hr bT .nil pass (pa_cons (pe_glob (v := .str "0123456789") (by rfl) gF ⟨_, rfl⟩) pa_nil)))
      (pss_cons (ps_while (passes_of rfl) (pt_up (PW.pt (pw_and (pt_cmpR op_ne (pv 1) pe_str (nomark _)) (pw_and (pt_cmpR op_lt (pe_callB call_len (by rfl) CT.len PySem.boot_len (pa_cons (pv 1) pa_nil)) (pe_glob (v := .int 16) (by rfl) gM ⟨_, rfl⟩) (nomark _)) (pw_and1 (pt_val (pe_meth (pv 0) T.cl mS GS (hr.mono (by decide)) bS .nil pass0 (pa_cons (pe_glob (v := .str "0123456789") (by rfl) gF ⟨_, rfl⟩) pa_nil))))))))
        (pss_one (ps_set (i := 1) scNum.nd rfl (Or.inl rfl) (pe_op op_add_str (pv 1) (pe_meth (pv 0) T.cl mT GT hr bT .nil pass (pa_cons (pe_glob (v := .str "0123456789") (by rfl) gF ⟨_, rfl⟩) pa_nil))))))
      (pss_one (ps_ret (pe_callTy call_int_str (by rfl) CT.int (by decide +kernel) (pa_cons (pv 1) pa_nil))))), ?_⟩
    have hd0 : (tailOf t i)[0]? = t.cps.toList[i]? := by rw [List.getElem?_drop, Nat.add_zero]
    have nle := numLen_le (tailOf t i)
    refine ⟨_, rfl, x, dx, _, rfl, S, rfl, x, dx, t, i, l, g, .str "0123456789", _, rfl, S, le, len, ⟨"0123456789", rfl, rfl⟩, fun d H1 hd hm S1 k1 => ?_, fun hs => bad ?_⟩
    · have dd := (dig_mem d).mp hm
      have n10 : d ≠ 10 := by
        rintro rfl
        cases dd
      rw [if_neg n10, if_neg n10] at S1
      have npos : 0 < numLen (tailOf t i) := numLen_pos.mpr ⟨d, by rw [hd0]; exact hd, dd⟩
      have t1 : (tailOf t i).take 1 = [d] := by
        rw [hd0.symm] at hd
        cases hl : tailOf t i with
        | nil =>
          rw [hl] at hd
          cases hd
        | cons a r =>
          rw [hl] at hd
          cases hd
          rfl
      refine while_by (fun σ H' => ∃ j, 1 ≤ j ∧ j ≤ numLen (tailOf t i) ∧ σ = [some (.ref x), some (.str ⟨((tailOf t i).take j).toArray⟩)] ∧ Sg H' x dx C t (i + j) l (g + j) ∧ Keeps H H' x) (fun σ _ => match σ with
        | [_, some (.str z)] => 100 - z.length
        | _ => 0) ?_ ?_ (fun σ H Q Q' h q => up_mono σ H Q Q' h q)
      · refine ⟨1, Nat.le_refl _, npos, ?_, S1, k1⟩
        rw [t1]
        rfl
      · rintro σ H' ⟨j, j1, jn, rfl, SS, KK⟩
        have nx := numLen_next j1 jn
        have ij : (tailOf t i)[j]? = t.cps.toList[i + j]? := List.getElem?_drop
        have lj : ((tailOf t i).take j).length = j := by
          rw [List.length_take]
          omega
        have lz : (⟨((tailOf t i).take j).toArray⟩ : Str).length = j := by
          show ((tailOf t i).take j).toArray.size = j
          rw [List.size_toArray, lj]
        have shortN : (⟨((tailOf t i).take (numLen (tailOf t i))).toArray⟩ : Str).length ≤ 640 := by
          show ((tailOf t i).take (numLen (tailOf t i))).toArray.size ≤ 640
          rw [List.size_toArray, List.length_take]
          omega
        have big : 640 ≤ sizeLine := by decide
        have le2 : i + j ≤ t.length := by
          have z : (tailOf t i).length = t.cps.toList.length - i := List.length_drop
          have y : t.cps.toList.length = t.length := Array.length_toList
          omega
        refine up_of ⟨_, rfl, rfl, _, rfl, ?_⟩
        by_cases h0 : (tailOf t i).take j = [48]
        · have e0 : decide (V.str ⟨((tailOf t i).take j).toArray⟩ = V.str "0") = true := decide_eq_true (by rw [h0]; rfl)
          rw [e0]
          have stop : ¬ j < numLen (tailOf t i) := fun z => (nx.mp z).1 h0
          have ej : j = numLen (tailOf t i) := by omega
          subst ej
          exact iteF (iteF ⟨_, rfl, _, _, rfl, num_text npos, shortN, good npos _ SS KK⟩)
        · have e0 : decide (V.str ⟨((tailOf t i).take j).toArray⟩ = V.str "0") = false := decide_eq_false (fun e => h0 (by
            have z : (((tailOf t i).take j).toArray : Array Nat) = #[48] := congrArg Str.cps (V.str.inj e)
            exact congrArg Array.toList z))
          rw [e0]
          refine iteT ?_
          refine ⟨_, rfl, _, _, rfl, ⟨by rw [lz]; omega, rfl⟩, _, _, rfl, rfl, _, rfl, ?_⟩
          rw [lz]
          by_cases h16 : j < 16
          · rw [decide_eq_true (show ((j : Nat) : Int) < 16 by omega)]
            refine iteT ?_
            refine ⟨_, rfl, x, dx, _, rfl, SS, rfl, x, dx, t, i + j, l, g + j, .str "0123456789", _, rfl, SS, ?_, len, ⟨"0123456789", rfl, rfl⟩, _, rfl, ?_⟩
            · exact le2
            · by_cases more : j < numLen (tailOf t i)
              · obtain ⟨_, _, c, hc, dc⟩ := nx.mp more
                have es : seesB t (i + j) (("0123456789" : Str)).cps.toList = true := by
                  unfold seesB
                  rw [← ij, hc]
                  exact decide_eq_true ((dig_mem c).mpr dc)
                rw [es]
                refine iteT ?_
                refine ⟨_, rfl, _, rfl, x, dx, _, rfl, SS, rfl, x, dx, t, i + j, l, g + j, .str "0123456789", _, rfl, SS, le2, len, ⟨"0123456789", rfl, rfl⟩, fun d2 H2 hd2 hm2 S2 k2 => ?_, fun hs => ?_⟩
                · have ed : d2 = c := by
                    rw [← ij, hc] at hd2
                    cases hd2
                    rfl
                  subst ed
                  have n2 : d2 ≠ 10 := by
                    rintro rfl
                    cases dc
                  rw [if_neg n2, if_neg n2] at S2
                  have tn : (tailOf t i).take (j + 1) = (tailOf t i).take j ++ [d2] := by
                    rw [List.take_succ, hc]
                    rfl
                  have lz2 : (⟨((tailOf t i).take (j + 1)).toArray⟩ : Str).length = j + 1 := by
                    show ((tailOf t i).take (j + 1)).toArray.size = j + 1
                    rw [List.size_toArray, tn, List.length_append, lj]
                    rfl
                  have ecat : (⟨((tailOf t i).take j).toArray⟩ : Str) ++ (⟨#[d2]⟩ : Str) = ⟨((tailOf t i).take (j + 1)).toArray⟩ := by
                    rw [tn]
                    show (⟨((tailOf t i).take j).toArray ++ #[d2]⟩ : Str) = _
                    congr 1
                    simp
                  refine ⟨_, _, rfl, rfl, ?_, ?_⟩
                  · rw [lz]
                    show j + 1 ≤ sizeLine
                    omega
                  · rw [ecat]
                    refine ⟨⟨j + 1, by omega, by omega, rfl, ?_, fun b o e n => k2 b o (KK b o e n) n⟩, ?_⟩
                    · have e1 : g + ((j + 1 : Nat) : Int) = g + j + 1 := by omega
                      rw [e1]
                      exact S2
                    · show 100 - (⟨((tailOf t i).take (j + 1)).toArray⟩ : Str).length < 100 - (⟨((tailOf t i).take j).toArray⟩ : Str).length
                      rw [lz, lz2]
                      omega
                · rw [es] at hs
                  cases hs
              · have ej : j = numLen (tailOf t i) := by omega
                have es : seesB t (i + j) (("0123456789" : Str)).cps.toList = false := by
                  unfold seesB
                  rw [← ij]
                  cases hc : (tailOf t i)[j]? with
                  | none => rfl
                  | some c => exact decide_eq_false fun m => more (nx.mpr ⟨h0, h16, c, hc, (dig_mem c).mp m⟩)
                rw [es]
                subst ej
                exact iteF ⟨_, rfl, _, _, rfl, num_text npos, shortN, good npos _ SS KK⟩
          · rw [decide_eq_false (show ¬ ((j : Nat) : Int) < 16 by omega)]
            have ej : j = numLen (tailOf t i) := by omega
            subst ej
            exact iteF (iteF ⟨_, rfl, _, _, rfl, num_text npos, shortN, good npos _ SS KK⟩)
    · have z : ¬ 0 < numLen (tailOf t i) := fun y => by
        obtain ⟨c, e, hc⟩ := numLen_pos.mp y
        rw [hd0] at e
        unfold seesB at hs
        rw [e] at hs
        have z := of_decide_eq_false hs
        exact z ((dig_mem c).mpr hc)
      omega
end
end Mine
namespace Mine
open PySem L2 PySem.Spec PyProof.Rows Pic
def intVal (L : List Nat) : Int := if L.head? = some 45 then - numVal (L.drop 1) else numVal L
theorem intRun_minus {t : List Nat} : intRun (45 :: t) = if t.head? = some 48 then (1, false) else (1 + numLen t, decide (0 < numLen t)) := rfl
theorem intRun_plain {L : List Nat} (h : L.head? ≠ some 45) : intRun L = (numLen L, decide (0 < numLen L)) := by
  cases L with
  | nil => rfl
  | cons c t =>
    rw [intRun_cons, if_neg (fun e => h (by rw [e]; rfl))]
theorem FliesX.at_ {E : XK} {B : Addr} {H H1 : Hp} {x : Addr} {l g : Int} (f : FliesX E B H x l g) (k : Keeps H H1 x) (hx : ∃ o, H1 x = some o) : Flies E B H1 l g := fun d H2 nd s hd => by
  refine f d H2 ?_ (fun b o e n => s b o (k b o e n)) hd
  cases e : H d with
  | none => rfl
  | some o =>
    by_cases hdx : d = x
    · obtain ⟨o2, z⟩ := hx
      rw [hdx, z] at nd
      cases nd
    · rw [k d o e hdx] at nd
      cases nd
theorem FliesX.of {E : XK} {B : Addr} {H : Hp} {x : Addr} {l g : Int} (f : FliesX E B H x l g) : Flies E B H l g := fun d H2 nd s hd => f d H2 nd (fun b o e _ => s b o e) hd
def spInt (C B : Addr) : Sp := fun vs H Q E => ∃ (x dx : Addr) (t : Str) (i : Nat) (l g : Int), vs = [.ref x] ∧ Sg H x dx C t i l g ∧ i ≤ t.length ∧ t.length ≤ sizeLine ∧
  ((intRun (tailOf t i)).2 = true → ∀ H', Sg H' x dx C t (i + (intRun (tailOf t i)).1) l (g + (intRun (tailOf t i)).1) → Keeps H H' x → Q (.int (intVal (tailOf t i))) H') ∧ ((intRun (tailOf t i)).2 = false → FliesX E B H x l (g + (intRun (tailOf t i)).1))
theorem head_at (t : Str) (i : Nat) : (tailOf t i).head? = t.cps.toList[i]? := by
  rw [List.head?_eq_getElem?, List.getElem?_drop, Nat.add_zero]
theorem sees_one {t : Str} {i d : Nat} {z : Str} (hz : z.cps.toList = [d]) : seesB t i z.cps.toList = decide ((tailOf t i).head? = some d) := by
  rw [head_at, hz]
  unfold seesB
  cases e : t.cps.toList[i]? with
  | none => rfl
  | some c =>
    show decide (c ∈ [d]) = decide (some c = some d)
    by_cases h : c = d
    · rw [h, decide_eq_true rfl, decide_eq_true (List.mem_singleton.2 rfl)]
    · rw [decide_eq_false (fun z => h (Option.some.inj z)), decide_eq_false (fun z => h (List.mem_singleton.1 z))]
section
variable {w : World} {P : Program} {base : Heap} {K : PySem.W.Frag} {mg : Str → Option Value} {C B : Addr}
theorem scInt : FnScope ["signs"] ["signs"] (defScope sInt) := ⟨rfl, rfl, rfl, by decide +kernel, rfl, by decide +kernel, by decide +kernel⟩
theorem ok_int {f fN : Addr} {fd fdN : FuncData} (F : Fun K "read_integer" "read_integer" sInt f fd) (T : SgT K mg C) (MT : MtP P w K mg base C (L2.CX P w) 4 "take" ["self", "choices"] (spTake C B howS)) (MS : MtP P w K mg base C CX0 2 "sees" ["self", "choices"] (spSees C howS)) (MW : MtP P w K mg base C (L2.CX P w) 3 "wrong" ["self"] (spWrong C B))
    (GN : FnOk P w K mg base (L2.CX P w) 5 fN fdN ["signs"] (spNum C B)) (gN : mg "read_number" = some (.ref fN)) (kN : PySem.W.keepIn K (.ref fN) = true) (bN : Binds K fdN ["signs"] []) : FnOk P w K mg base (L2.CX P w) 6 f fd ["signs"] (spInt C B) := by
  obtain ⟨fT, fdT, mT, GT, bT⟩ := MT
  obtain ⟨fS, fdS, mS, GS, bS⟩ := MS
  obtain ⟨fW, fdW, mW, GW, bW⟩ := MW
  refine F.okX scInt (fun vs H Q E h => ?_) (fun cdv A outer s H vs Q E hr h => ?_)
  · obtain ⟨x, dx, t, i, l, g, rfl, _⟩ := h
    rfl
  · obtain ⟨x, dx, t, i, l, g, rfl, S, le, len, good, bad⟩ := h
    have tk := (takes_of (X := cxOf (L2.CX P w) P w K mg base ["signs"] "read_integer" (defScope sInt) f cdv A outer s H E) (E := E) rfl rfl rfl rfl)
    have pass : Passes (L2.CX P w) (cxOf (L2.CX P w) P w K mg base ["signs"] "read_integer" (defScope sInt) f cdv A outer s H E) E := passes_call tk (fun _ _ _ _ h => h)
    refine ⟨_, pss_cons (ps_if (pt_not (pt_val (pe_meth (pv 0) T.cl mS GS (hr.mono (by decide)) bS .nil pass0 (pa_cons pe_str pa_nil)))) (pss_one (ps_ret (pe_call GN hr (by rfl) gN kN bN .nil pass (pa_cons (pv 0) pa_nil)))) pss_nil)
      (pss_cons (ps_expr (pe_meth (pv 0) T.cl mT GT (hr.mono (by decide)) bT .nil pass (pa_cons pe_str pa_nil)))
      (pss_cons (ps_if (pt_val (pe_meth (pv 0) T.cl mS GS (hr.mono (by decide)) bS .nil pass0 (pa_cons pe_str pa_nil))) (pss_one (ps_expr (pe_meth0 (pv 0) T.cl mW GW (hr.mono (by decide)) bW .nil pass))) pss_nil)
      (pss_one (ps_ret (pe_un un_neg (pe_call GN hr (by rfl) gN kN bN .nil pass (pa_cons (pv 0) pa_nil))))))), ?_⟩
    have zm : (("-" : Str)).cps.toList = [45] := by decide +kernel
    have z0 : (("0" : Str)).cps.toList = [48] := by decide +kernel
    refine ⟨_, rfl, x, dx, _, rfl, S, rfl, x, dx, t, i, l, g, .str "-", _, rfl, S, le, len, ⟨"-", rfl, rfl⟩, _, rfl, ?_⟩
    rw [sees_one zm]
    by_cases h45 : (tailOf t i).head? = some 45
    · rw [decide_eq_true h45]
      refine iteF ?_
      have cut : tailOf t i = 45 :: tailOf t (i + 1) := by
        rw [head_at] at h45
        obtain ⟨lt, e⟩ := List.getElem?_eq_some_iff.mp h45
        show t.cps.toList.drop i = 45 :: t.cps.toList.drop (i + 1)
        rw [List.drop_eq_getElem_cons lt, e]
      have lt : i + 1 ≤ t.length := by
        rw [head_at] at h45
        have z := (List.getElem?_eq_some_iff.mp h45).1
        have y : t.cps.toList.length = t.length := Array.length_toList
        omega
      refine ⟨_, rfl, x, dx, _, rfl, S, rfl, x, dx, t, i, l, g, .str "-", _, rfl, S, le, len, ⟨"-", rfl, rfl⟩, fun d H1 hd hm S1 k1 => ?_, fun hs => ?_⟩
      · have ed : d = 45 := by
          rw [zm] at hm
          exact List.mem_singleton.1 hm
        subst ed
        rw [if_neg (by decide), if_neg (by decide)] at S1
        refine ⟨_, rfl, x, dx, _, rfl, S1, rfl, x, dx, t, i + 1, l, g + 1, .str "0", _, rfl, S1, lt, len, ⟨"0", rfl, rfl⟩, _, rfl, ?_⟩
        rw [sees_one z0]
        by_cases h48 : (tailOf t (i + 1)).head? = some 48
        · rw [decide_eq_true h48]
          have er : intRun (tailOf t i) = (1, false) := by rw [cut, intRun_minus, if_pos h48]
          rw [er] at bad
          exact iteT ⟨_, rfl, x, dx, _, rfl, S1, rfl, x, dx, t, i + 1, l, g + 1, rfl, S1, (bad rfl).at_ k1 ⟨_, S1⟩⟩
        · rw [decide_eq_false h48]
          refine iteF ?_
          have er : intRun (tailOf t i) = (1 + numLen (tailOf t (i + 1)), decide (0 < numLen (tailOf t (i + 1)))) := by rw [cut, intRun_minus, if_neg h48]
          have ev : intVal (tailOf t i) = - numVal (tailOf t (i + 1)) := by
            unfold intVal
            rw [if_pos h45, cut]
            rfl
          rw [er] at good bad
          refine ⟨_, rfl, x, dx, t, i + 1, l, g + 1, rfl, S1, lt, len, fun np H2 S2 k2 => ?_, fun nz => ?_⟩
          · refine ⟨_, rfl, ?_⟩
            have z := good (decide_eq_true np) H2 (by
              have e1 : i + (1 + numLen (tailOf t (i + 1))) = i + 1 + numLen (tailOf t (i + 1)) := by omega
              have e2 : g + ((1 + numLen (tailOf t (i + 1)) : Nat) : Int) = g + 1 + numLen (tailOf t (i + 1)) := by omega
              show Sg H2 x dx C t (i + (1 + numLen (tailOf t (i + 1)))) l (g + ((1 + numLen (tailOf t (i + 1)) : Nat) : Int))
              rw [e1, e2]
              exact S2) (fun b o e n => k2 b o (k1 b o e n) n)
            rw [ev] at z
            exact z
          · have z := bad (decide_eq_false (by rw [nz]; exact Nat.lt_irrefl 0))
            rw [nz] at z
            exact z.at_ k1 ⟨_, S1⟩
      · rw [sees_one zm, decide_eq_true h45] at hs
        cases hs
    · rw [decide_eq_false h45]
      have er := intRun_plain h45
      have ev : intVal (tailOf t i) = numVal (tailOf t i) := by
        unfold intVal
        rw [if_neg h45]
      rw [er, ev] at good
      rw [er] at bad
      refine iteT ⟨_, rfl, x, dx, t, i, l, g, rfl, S, le, len, fun np H2 S2 k2 => good (decide_eq_true np) H2 S2 k2, fun nz => ?_⟩
      have z := bad (decide_eq_false (by rw [nz]; exact Nat.lt_irrefl 0))
      rw [nz] at z
      have e : g + ((0 : Nat) : Int) = g := by omega
      have z2 : FliesX E B H x l (g + ((0 : Nat) : Int)) := z
      rw [e] at z2
      exact z2.of
end
end Mine
namespace Mine
open PySem L2 PySem.Spec PyProof.Rows Pic
abbrev sBehind : Stmt := top 22
/-- the signs that can follow behind h integers of a row of w -/
def behind (w h : Nat) : List Nat := if w = 0 then [32, 10] else if h < w then [32] else [10]
abbrev sgn (d : Nat) : V := .str ⟨#[d]⟩
def spBehind : Sp := fun vs H Q _ => ∃ h w : Nat, vs = [.int h, .int w] ∧ ∀ p H', H p = none → Same H H' → H' p = some (.lst ((behind w h).map sgn)) → Q (.ref p) H'
section
variable {w : World} {P : Program} {base : Heap} {K : PySem.W.Frag} {mg : Str → Option Value} {C B : Addr}
theorem scBh : FnScope ["many", "width"] ["many", "width"] (defScope sBehind) := ⟨rfl, rfl, rfl, by decide +kernel, rfl, by decide +kernel, by decide +kernel⟩
theorem ok_behind {f : Addr} {fd : FuncData} (F : Fun K "signs_behind" "signs_behind" sBehind f fd) : FnOk P w K mg base CX0 1 f fd ["many", "width"] spBehind := by
  refine F.ok scBh (fun vs H Q E h => ?_) (fun cdv A outer s H vs Q E hr h => ?_)
  · obtain ⟨h, w, rfl, _⟩ := h
    rfl
  · obtain ⟨h, w, rfl, kk⟩ := h
    refine ⟨_, pss_cons (ps_if (pt_cmpR op_eq (pv 1) pe_int (nomark _)) (pss_one (ps_ret (pe_lst (pa_cons pe_str (pa_cons pe_str pa_nil))))) pss_nil)
      (pss_one (ps_ret (pe_ifExp (pt_cmpR op_lt (pv 0) (pv 1) (nomark _)) (pe_lst (pa_cons pe_str pa_nil)) (pe_lst (pa_cons pe_str pa_nil))))), ?_⟩
    refine ⟨_, rfl, rfl, _, rfl, ?_⟩
    rw [dec_i]
    by_cases w0 : w = 0
    · rw [decide_eq_true (show (w : Int) = 0 by omega)]
      refine iteT ⟨(by show 2 ≤ sizeLine; decide), fun p np => kk p _ np (same_new np) ?_⟩
      rw [upd_same]
      unfold behind
      rw [if_pos w0]
      rfl
    · rw [decide_eq_false (show ¬ (w : Int) = 0 by omega)]
      refine iteF ⟨_, rfl, _, rfl, _, _, rfl, rfl, _, rfl, ?_⟩
      by_cases lt : h < w
      · rw [decide_eq_true (show (h : Int) < (w : Int) by omega)]
        refine iteT ⟨(by show 1 ≤ sizeLine; decide), fun p np => kk p _ np (same_new np) ?_⟩
        rw [upd_same]
        unfold behind
        rw [if_neg w0, if_pos lt]
        rfl
      · rw [decide_eq_false (show ¬ (h : Int) < (w : Int) by omega)]
        refine iteF ⟨(by show 1 ≤ sizeLine; decide), fun p np => kk p _ np (same_new np) ?_⟩
        rw [upd_same]
        unfold behind
        rw [if_neg w0, if_neg lt]
        rfl
end
/-- the signs as data -/
abbrev sgD (cs : List Nat) : List PyData := cs.map fun d => PyData.str ⟨#[d]⟩
theorem dp_sgns {K : PySem.W.Frag} {H : Hp} : ∀ cs : List Nat, DpAll K H (cs.map sgn) (sgD cs)
  | [] => .nil
  | c :: cs => .cons (.str _) (dp_sgns cs)
theorem sg_facts : ∀ cs ∈ [[32, 10], [32], [10]], SeqAt.shaped (.list (sgD cs)) = true ∧ PyData.eqv (.list (sgD cs)) (.list [.str ""]) = false ∧ cs.length ≤ 2 ∧ ∀ d ∈ cs, (cs.filter fun c => decide (c = d)) = [d] ∧ SeqAt.shaped (.list [.str ⟨#[d]⟩]) = true ∧ PyData.eqv (.list [.str ⟨#[d]⟩]) (.list [.str ⟨#[d]⟩]) = true ∧ ∀ c ∈ cs, Txt.startswith ⟨#[c]⟩ ⟨#[d]⟩ = decide (c = d) := by decide +kernel
theorem shaped_e : SeqAt.shaped (.list [.str ""]) = true := by decide +kernel
section
variable {w : World} {P : Program} {base : Heap} {K : PySem.W.Frag} {mg : Str → Option Value} {C B : Addr}
theorem scOn : FnScope ["self", "words", "fits", "word", "other"] ["self", "words"] (defScope mOneOf) := ⟨rfl, rfl, rfl, by decide +kernel, rfl, by decide +kernel, by decide +kernel⟩
def spOne (C B : Addr) : Sp := fun vs H Q E => ∃ (x dx : Addr) (t : Str) (i : Nat) (l g : Int) (p : Addr) (cs : List Nat), vs = [.ref x, .ref p] ∧ Sg H x dx C t i l g ∧ i ≤ t.length ∧ t.length ≤ sizeLine ∧ H p = some (.lst (cs.map sgn)) ∧ (cs = [32, 10] ∨ cs = [32] ∨ cs = [10]) ∧
  (∀ d H', t.cps.toList[i]? = some d → d ∈ cs → Sg H' x dx C t (i + 1) (if d = 10 then l + 1 else l) (if d = 10 then 1 else g + 1) → Keeps H H' x → Q (sgn d) H') ∧ (seesB t i cs = false → Flies E B H l g)
theorem ok_one {f : Addr} {fd : FuncData} (F : Fun K "one_of" "Signs.one_of" mOneOf f fd) (T : SgT K mg C) (MT : MtP P w K mg base C (L2.CX P w) 4 "take" ["self", "choices"] (spTake C B (howL K))) : FnOk P w K mg base (L2.CX P w) 5 f fd ["self", "words"] (spOne C B) := by
  obtain ⟨fT, fdT, mT, GT, bT⟩ := MT
  refine F.okX scOn (fun vs H Q E h => ?_) (fun cdv A outer s H vs Q E hr h => ?_)
  · obtain ⟨x, dx, t, i, l, g, p, cs, rfl, _⟩ := h
    rfl
  · obtain ⟨x, dx, t, i, l, g, p, cs, rfl, S, le, len, hp, hcs, good, bad⟩ := h
    have pass : Passes (L2.CX P w) (cxOf (L2.CX P w) P w K mg base ["self", "words", "fits", "word", "other"] "Signs.one_of" (defScope mOneOf) f cdv A outer s H E) E := passes_call (takes_of rfl rfl rfl rfl) (fun _ _ _ _ h => h)
    refine ⟨_, pss_cons (ps_set (i := 2) scOn.nd rfl (Or.inl rfl) (pv 1))
      (pss_cons (ps_set (i := 3) scOn.nd rfl (Or.inr rfl) pe_str)
      (pss_cons (ps_while (passes_of rfl) (pt_up (pt_cmpR (op_neD hr.units) (pv 2) (pe_lst (pa_cons (pv 3) pa_nil)) (nomark _)))
        (pss_cons (ps_set (i := 3) scOn.nd rfl (Or.inr rfl) (pe_op op_add_str (pv 3) (pe_meth (pv 0) T.cl mT GT hr bT .nil pass (pa_cons
          (pe_lc (own := [("other", 4)]) (g := gName 4) (tt := tYes) (te := tOp rIxS (tVar 4) (tCB (fun xs H Q => ∃ x n, xs = [x] ∧ LenV K x H n ∧ Q (.int n) H) (tCons (tVar 3) tNil))) rfl scOn.nd (pi_list (pv 2)) (blkOk_by (own := [("other", 4)]) (N := ["self", "words", "fits", "word", "other"]) (sc := defScope mOneOf) (by decide +kernel)) (fun _ _ _ _ _ => pg_name (i := 4) scOn.nd rfl (Or.inl rfl)) (fun _ _ _ _ _ => pts_nil)
            (fun _ _ _ _ _ => pe_ix ix_str (pv 4) (pe_callB call_len (by rfl) T.len PySem.boot_len (pa_cons (pv 3) pa_nil)) (fun _ _ => rfl))) pa_nil))))
        (pss_one (ps_setLc (i := 2) (own := [("other", 4)]) (g := gName 4) (te := tVar 4) rfl scOn.nd rfl rfl rfl (pi_list (pv 2)) (blkOk_by (own := [("other", 4)]) (N := ["self", "words", "fits", "word", "other"]) (sc := defScope mOneOf) (by decide +kernel)) (fun _ _ _ _ _ => pg_name (i := 4) scOn.nd rfl (Or.inl rfl))
          (fun _ _ _ _ _ => pts_one (pt_val (pe_m1 PySem.F.slot_str_startswith PySem.F.type_str_startswith mt_startswith (pv 4) (pv 3)))) (fun _ _ _ _ _ => pv 4)))))
      (pss_one (ps_ret (pv 3))))), ?_⟩
    obtain ⟨f1, f2, f3, f4⟩ := sg_facts cs (by rcases hcs with rfl | rfl | rfl <;> simp)
    have nxp : x ≠ p := ne_of S hp fun z => nomatch z
    have big : 10 ≤ sizeLine := by decide
    refine ⟨_, rfl, ?_⟩
    refine while_by (fun σ H' => (σ = [some (.ref x), some (.ref p), some (.ref p), some (.str ""), none] ∧ Same H H') ∨ ∃ d p2, σ = [some (.ref x), some (.ref p), some (.ref p2), some (sgn d), none] ∧ H' p2 = some (.lst [sgn d]) ∧ t.cps.toList[i]? = some d ∧ d ∈ cs ∧ Sg H' x dx C t (i + 1) (if d = 10 then l + 1 else l) (if d = 10 then 1 else g + 1) ∧ Keeps H H' x)
      (fun σ _ => match σ with
        | [_, _, _, some (.str z), _] => 1 - z.length
        | _ => 0) (.inl ⟨rfl, Same.refl H⟩) ?_ (fun σ H Q Q' h q => up_mono σ H Q Q' h q)
    rintro σ H1 (⟨rfl, s1⟩ | ⟨d, p2, rfl, h2, hd, hm, S2, k2⟩)
    · refine up_of ⟨_, rfl, _, rfl, (by show 1 ≤ sizeLine; omega), fun q nq => ?_⟩
      have s2 : Same H (upd H1 q (.lst [.str ""])) := Same.trans s1 (same_new nq)
      refine ⟨.list (sgD cs), .list [.str ""], .lst (SqL.of (s2 _ _ hp)) (dp_sgns cs), .lst (SqL.of upd_same) (.cons (.str _) .nil), f1, shaped_e, _, rfl, ?_⟩
      rw [f2]
      refine iteT ?_
      generalize upd H1 q (.lst [.str ""]) = H2 at s2 ⊢
      refine ⟨_, rfl, _, rfl, x, dx, _, rfl, s2 _ _ S, rfl, _, rfl, p, rfl, ⟨_, SqL.of (s2 _ _ hp)⟩, fun D hD => ?_⟩
      refine lc_any (n := cs.length) (fun j H3 => H3 D = some (.lst ((cs.take j).map sgn)) ∧ Same H2 H3) ⟨upd_same, same_new hD⟩ ?_ ?_ ?_ ?_
      · rintro j H3 lt ⟨_, s3⟩
        exact ⟨_, sgn cs[j], SqL.of (s3 _ _ (s2 _ _ hp)), by rw [List.getElem?_map, List.getElem?_eq_getElem lt]; rfl⟩
      · rintro H3 ⟨_, s3⟩
        exact ⟨_, SqL.of (s3 _ _ (s2 _ _ hp)), by rw [List.length_map]; exact Nat.le_refl _⟩
      · rintro j H3 y H4 lt ⟨h3, s3⟩ ⟨rfl, hy⟩
        have ey := hy _ (SqL.of (s3 _ _ (s2 _ _ hp)))
        rw [List.getElem?_map, List.getElem?_eq_getElem lt] at ey
        have ey2 : sgn cs[j] = y := Option.some.inj ey
        subst ey2
        refine ⟨rfl, ?_⟩
        refine ⟨_, rfl, _, rfl, _, _, rfl, ⟨Nat.zero_le _, rfl⟩, ⟨#[cs[j]]⟩, _, cs[j], rfl, rfl, (by show 1 ≤ sizeLine; omega), rfl, _, h3, ?_, ?_, fun b o e => ?_⟩
        · rw [List.length_map, List.length_take]
          omega
        · rw [upd_same, List.take_succ, List.getElem?_eq_getElem lt, List.map_append]
          rfl
        · rw [upd_ne (ne_of_none e hD)]
          exact s3 _ _ e
      · rintro H3 ⟨h3, s3⟩
        rw [List.take_length] at h3
        have s03 := Same.trans s2 s3
        refine ⟨x, dx, t, i, l, g, .ref D, cs, rfl, s03 _ _ S, le, len, ⟨D, rfl, SqL.of h3⟩, fun d H4 hd hm S4 k4 => ?_, fun hs => (bad hs).more s03⟩
        obtain ⟨g1, g2, g3, g4⟩ := f4 d hm
        refine ⟨_, _, rfl, rfl, (by show 0 + 1 ≤ sizeLine; omega), ?_⟩
        have k04 : Keeps H H4 x := fun b o e n => k4 b o (s03 b o e) n
        have hp4 := k04 _ _ hp nxp.symm
        have ew : (("" : Str) ++ (⟨#[d]⟩ : Str)) = ⟨#[d]⟩ := by
          show (⟨#[] ++ #[d]⟩ : Str) = ⟨#[d]⟩
          congr 1
        rw [ew]
        refine ⟨_, rfl, p, rfl, ⟨_, SqL.of hp4⟩, fun D2 hD2 => ?_⟩
        refine lc_any (n := cs.length) (fun j H5 => H5 D2 = some (.lst (((cs.take j).filter fun c => decide (c = d)).map sgn)) ∧ Same H4 H5) ⟨upd_same, same_new hD2⟩ ?_ ?_ ?_ ?_
        · rintro j H5 lt ⟨_, s5⟩
          exact ⟨_, sgn cs[j], SqL.of (s5 _ _ hp4), by rw [List.getElem?_map, List.getElem?_eq_getElem lt]; rfl⟩
        · rintro H5 ⟨_, s5⟩
          exact ⟨_, SqL.of (s5 _ _ hp4), by rw [List.length_map]; exact Nat.le_refl _⟩
        · rintro j H5 y H6 lt ⟨h5, s5⟩ ⟨rfl, hy⟩
          have ey := hy _ (SqL.of (s5 _ _ hp4))
          rw [List.getElem?_map, List.getElem?_eq_getElem lt] at ey
          have ey2 : sgn cs[j] = y := Option.some.inj ey
          subst ey2
          have et : cs.take (j + 1) = cs.take j ++ [cs[j]] := by
            rw [List.take_succ, List.getElem?_eq_getElem lt]
            rfl
          refine ⟨rfl, ?_⟩
          refine ⟨_, rfl, ⟨_, rfl⟩, _, rfl, _, _, rfl, rfl, _, rfl, ?_⟩
          rw [g4 _ (List.getElem_mem lt)]
          by_cases e : cs[j] = d
          · rw [decide_eq_true e]
            refine iteT ⟨_, rfl, _, h5, ?_, ?_, fun b o eb => ?_⟩
            · have l1 := List.length_filter_le (fun c => decide (c = d)) (cs.take j)
              rw [List.length_map]
              rw [List.length_take] at l1
              omega
            · rw [upd_same, et, List.filter_append, List.filter_cons_of_pos (by simpa using e), List.map_append]
              rfl
            · rw [upd_ne (ne_of_none eb hD2)]
              exact s5 _ _ eb
          · rw [decide_eq_false e]
            refine iteF ⟨?_, s5⟩
            rw [et, List.filter_append, List.filter_cons_of_neg (by simpa using e)]
            simpa using h5
        · rintro H5 ⟨h5, s5⟩
          rw [List.take_length, g1] at h5
          refine ⟨.inr ⟨d, D2, rfl, h5, hd, hm, s5 _ _ S4, fun b o e n => s5 _ _ (k04 b o e n)⟩, ?_⟩
          show 1 - 1 < 1 - 0
          omega
    · refine up_of ⟨_, rfl, _, rfl, (by show 1 ≤ sizeLine; omega), fun q nq => ?_⟩
      have s2 := same_new (o := .lst [sgn d]) nq
      obtain ⟨g1, g2, g3, g4⟩ := f4 d hm
      refine ⟨.list [.str ⟨#[d]⟩], .list [.str ⟨#[d]⟩], .lst (SqL.of (s2 _ _ h2)) (.cons (.str _) .nil), .lst (SqL.of upd_same) (.cons (.str _) .nil), g2, g2, _, rfl, ?_⟩
      rw [g3]
      exact iteF ⟨_, rfl, good d _ hd hm (s2 _ _ S2) fun b o e n => s2 _ _ (k2 b o e n)⟩
end
end Mine
namespace Mine
open PySem L2 PySem.Spec PyProof.Rows Pic
/-! ### a row, read -/
/-- behind h integers of a row of w (0: any): how far it goes on, and the integers still to come if all is right -/
def rowRest : Nat → Nat → Nat → List Nat → Nat × Option (List Int)
  | 0, _, _, _ => (0, none)
  | f + 1, w, h, l => match l.head? with
    | none => (0, none)
    | some c => if c ∈ behind w h then (if c = 10 then (1, some []) else
        if (intRun (l.drop 1)).2 = true then (1 + (intRun (l.drop 1)).1 + (rowRest f w (h + 1) (l.drop (1 + (intRun (l.drop 1)).1))).1, (rowRest f w (h + 1) (l.drop (1 + (intRun (l.drop 1)).1))).2.map (intVal (l.drop 1) :: ·))
        else (1 + (intRun (l.drop 1)).1, none)) else (0, none)
def rowFull (w : Nat) (l : List Nat) : Nat × Option (List Int) :=
  if (intRun l).2 = true then ((intRun l).1 + (rowRest (l.length + 1) w 1 (l.drop (intRun l).1)).1, (rowRest (l.length + 1) w 1 (l.drop (intRun l).1)).2.map (intVal l :: ·)) else ((intRun l).1, none)
theorem behind_cases (w h : Nat) : behind w h = [32, 10] ∨ behind w h = [32] ∨ behind w h = [10] := by
  unfold behind
  split
  · exact .inl rfl
  · split
    · exact .inr (.inl rfl)
    · exact .inr (.inr rfl)
theorem rowRest_step {f w h c : Nat} {l : List Nat} (e : l.head? = some c) : rowRest (f + 1) w h l = if c ∈ behind w h then (if c = 10 then (1, some []) else
        if (intRun (l.drop 1)).2 = true then (1 + (intRun (l.drop 1)).1 + (rowRest f w (h + 1) (l.drop (1 + (intRun (l.drop 1)).1))).1, (rowRest f w (h + 1) (l.drop (1 + (intRun (l.drop 1)).1))).2.map (intVal (l.drop 1) :: ·))
        else (1 + (intRun (l.drop 1)).1, none)) else (0, none) := by
  rw [rowRest, e]
theorem rowRest_none {f w h : Nat} {l : List Nat} (e : l.head? = none) : rowRest (f + 1) w h l = (0, none) := by
  rw [rowRest, e]
abbrev sRow : Stmt := top 21
theorem FliesX.from_ {E : XK} {B : Addr} {H H1 : Hp} {x : Addr} {l g : Int} (f : FliesX E B H x l g) (k : Keeps H H1 x) (hx : ∃ o, H1 x = some o) : FliesX E B H1 x l g := fun d H2 nd k2 hd => by
  refine f d H2 ?_ (fun b o e n => k2 b o (k b o e n) n) hd
  cases e : H d with
  | none => rfl
  | some o =>
    by_cases hdx : d = x
    · obtain ⟨o2, z⟩ := hx
      rw [hdx, z] at nd
      cases nd
    · rw [k d o e hdx] at nd
      cases nd
def spRow (C B : Addr) : Sp := fun vs H Q E => ∃ (x dx : Addr) (t : Str) (i w : Nat) (l g : Int), vs = [.ref x, .int w] ∧ Sg H x dx C t i l g ∧ i ≤ t.length ∧ t.length ≤ 100000 ∧
  (∀ n vals p H', rowFull w (tailOf t i) = (n, some vals) → Sg H' x dx C t (i + n) (l + 1) 1 → H p = none → H' p = some (.lst (vals.map V.int)) → Keeps H H' x → Q (.ref p) H') ∧ (∀ n, rowFull w (tailOf t i) = (n, none) → FliesX E B H x l (g + n))
section
variable {w : World} {P : Program} {base : Heap} {K : PySem.W.Frag} {mg : Str → Option Value} {C B : Addr}
theorem scRow : FnScope ["signs", "width", "row"] ["signs", "width"] (defScope sRow) := ⟨rfl, rfl, rfl, by decide +kernel, rfl, by decide +kernel, by decide +kernel⟩
theorem ok_row {f fI fB : Addr} {fd fdI fdB : FuncData} (F : Fun K "read_row" "read_row" sRow f fd) (T : SgT K mg C) (MO : MtP P w K mg base C (L2.CX P w) 5 "one_of" ["self", "words"] (spOne C B))
    (GI : FnOk P w K mg base (L2.CX P w) 6 fI fdI ["signs"] (spInt C B)) (gI : mg "read_integer" = some (.ref fI)) (kI : PySem.W.keepIn K (.ref fI) = true) (bI : Binds K fdI ["signs"] [])
    (GB : FnOk P w K mg base CX0 1 fB fdB ["many", "width"] spBehind) (gB : mg "signs_behind" = some (.ref fB)) (kB : PySem.W.keepIn K (.ref fB) = true) (bB : Binds K fdB ["many", "width"] []) : FnOk P w K mg base (L2.CX P w) 7 f fd ["signs", "width"] (spRow C B) := by
  obtain ⟨fO, fdO, mO, GO, bO⟩ := MO
  refine F.okX scRow (fun vs H Q E h => ?_) (fun cdv A outer s H vs Q E hr h => ?_)
  · obtain ⟨x, dx, t, i, w, l, g, rfl, _⟩ := h
    rfl
  · obtain ⟨x, dx, t, i, wd, l, g, rfl, S, le, len, good, bad⟩ := h
    have pass : Passes (L2.CX P w) (cxOf (L2.CX P w) P w K mg base ["signs", "width", "row"] "read_row" (defScope sRow) f cdv A outer s H E) E := passes_call (takes_of rfl rfl rfl rfl) (fun _ _ _ _ h => h)
    refine ⟨_, pss_cons (ps_set (i := 2) scRow.nd rfl (Or.inl rfl) (pe_lst (pa_cons (pe_call GI hr (by rfl) gI kI bI .nil pass (pa_cons (pv 0) pa_nil)) pa_nil)))
      (pss_cons (ps_while (passes_of rfl) (pt_up (pt_cmpR op_eq (pe_meth (pv 0) T.cl mO GO (hr.mono (by decide)) bO .nil pass (pa_cons (pe_call GB (hr.mono (by decide)) (by rfl) gB kB bB .nil pass0 (pa_cons (pe_callB call_len_seq (by rfl) T.len PySem.boot_len (pa_cons (pv 2) pa_nil)) (pa_cons (pv 1) pa_nil))) pa_nil)) pe_str (nomark _)))
        (pss_one (ps_expr (pe_bm PySem.F.plainAttrs_list PySem.F.slot_list_append PySem.F.type_list_append mt_append (pv 2) (pa_cons (pe_call GI hr (by rfl) gI kI bI .nil pass (pa_cons (pv 0) pa_nil)) pa_nil)))))
      (pss_one (ps_ret (pv 2)))), ?_⟩
    have big : 100000 ≤ sizeLine := by decide
    have tl : (tailOf t i).length = t.length - i := List.length_drop
    have r1 := intRun_le (tailOf t i)
    refine ⟨_, rfl, x, dx, t, i, l, g, rfl, S, le, by omega, fun ok H1 S1 k1 => ?_, fun no => ?_⟩
    · refine ⟨(by show 1 ≤ sizeLine; omega), fun p np => ?_⟩
      have nxp : x ≠ p := ne_of_none S1 np
      refine while_by (fun σ H' => σ = [some (.ref x), some (.int wd), some (.ref p)] ∧ ∃ (i2 f : Nat) (vals : List Int), i ≤ i2 ∧ i2 ≤ t.length ∧ (tailOf t i2).length < f ∧ 1 ≤ vals.length ∧ vals.length ≤ i2 ∧ Sg H' x dx C t i2 l (g + ((i2 - i : Nat) : Int)) ∧ H' p = some (.lst (vals.map V.int)) ∧ (∀ b o, H b = some o → b ≠ x → H' b = some o) ∧
          rowFull wd (tailOf t i) = ((i2 - i) + (rowRest f wd vals.length (tailOf t i2)).1, (rowRest f wd vals.length (tailOf t i2)).2.map (vals ++ ·))) (fun σ H' => match H' x with
        | some (.ins _ _ [_, (_, .int k), _, _]) => t.length - k.toNat
        | _ => 0) ?_ ?_ (fun σ H Q Q' h q => up_mono σ H Q Q' h q)
      · refine ⟨rfl, i + (intRun (tailOf t i)).1, (tailOf t i).length + 1, [intVal (tailOf t i)], by omega, by omega, ?_, Nat.le_refl _, ?_, ?_, upd_same, fun b o e n => ?_, ?_⟩
        · show (t.cps.toList.drop _).length < _
          rw [List.length_drop, List.length_drop]
          omega
        · have z := intRun_pos ok
          show 1 ≤ i + (intRun (tailOf t i)).1
          omega
        · have e : g + ((i + (intRun (tailOf t i)).1 - i : Nat) : Int) = g + ((intRun (tailOf t i)).1 : Nat) := by omega
          rw [e]
          show upd H1 p _ x = _
          rw [upd_ne nxp]
          exact S1
        · have y := k1 b o e n
          rw [upd_ne (ne_of_none y np)]
          exact y
        · unfold rowFull
          rw [if_pos ok, List.drop_drop, Nat.add_sub_cancel_left]
          rfl
      · rintro σ H2 ⟨rfl, i2, f, vals, i12, i2t, lf, v1, vi, S2, h2, k2, full⟩
        obtain ⟨f, rfl⟩ : ∃ k, f = k + 1 := ⟨f - 1, by omega⟩
        have t2 : (tailOf t i2).length = t.length - i2 := List.length_drop
        refine up_of ⟨_, rfl, x, dx, _, rfl, S2, rfl, _, rfl, p, _, rfl, .inl (SqL.of h2), _, rfl, (vals.map V.int).length, wd, rfl, fun q H3 nq s3 hq => ?_⟩
        rw [List.length_map] at hq
        have k3 : Keeps H H3 x := fun b o e n => s3 _ _ (k2 b o e n)
        refine ⟨x, dx, t, i2, l, g + ((i2 - i : Nat) : Int), q, behind wd vals.length, rfl, s3 _ _ S2, i2t, by omega, hq, behind_cases _ _, fun d H4 hd hm S4 k4 => ?_, fun hs => ?_⟩
        · have hh : (tailOf t i2).head? = some d := by rw [head_at]; exact hd
          rw [rowRest_step hh, if_pos hm] at full
          have lt2 : i2 < t.length := by
            have z := (List.getElem?_eq_some_iff.mp hd).1
            have y : t.cps.toList.length = t.length := Array.length_toList
            omega
          have k4' : Keeps H H4 x := fun b o e n => k4 b o (k3 b o e n) n
          have h4 := k4 _ _ (s3 _ _ h2) nxp.symm
          refine ⟨rfl, _, rfl, ?_⟩
          by_cases h10 : d = 10
          · subst h10
            rw [if_pos rfl] at full
            rw [if_pos rfl, if_pos rfl] at S4
            have ec : decide (V.str ⟨#[10]⟩ = V.str " ") = false := by decide +kernel
            rw [ec]
            have full2 : rowFull wd (tailOf t i) = (i2 - i + 1, some vals) := by
              rw [full]
              show (_, some (vals ++ [])) = _
              rw [List.append_nil]
            refine iteF ⟨_, rfl, good _ _ p H4 full2 ?_ ?_ h4 k4'⟩
            · have e : i + (i2 - i + 1) = i2 + 1 := by omega
              rw [e]
              exact S4
            · cases e : H p with
              | none => rfl
              | some o =>
                rw [k1 p o e nxp.symm] at np
                cases np
          · have d32 : d = 32 := by
              rcases behind_cases wd vals.length with z | z | z <;> rw [z] at hm
              · rcases List.mem_cons.1 hm with y | y
                · exact y
                · exact absurd (List.mem_singleton.1 y) h10
              · exact List.mem_singleton.1 hm
              · exact absurd (List.mem_singleton.1 hm) h10
            subst d32
            rw [if_neg h10] at full
            rw [if_neg h10, if_neg h10] at S4
            have ec : decide (V.str ⟨#[32]⟩ = V.str " ") = true := by decide +kernel
            rw [ec]
            have ed : (tailOf t i2).drop 1 = tailOf t (i2 + 1) := List.drop_drop
            rw [ed] at full
            refine iteT ⟨_, rfl, .inl ⟨rfl, _, SqL.of h4⟩, _, rfl, x, dx, t, i2 + 1, l, g + ((i2 - i : Nat) : Int) + 1, rfl, S4, by omega, by omega, fun ok2 H5 S5 k5 => ?_, fun no => ?_⟩
            · have r2 := intRun_le (tailOf t (i2 + 1))
              have r3 := intRun_pos ok2
              have tl3 : (tailOf t (i2 + 1)).length = t.length - (i2 + 1) := List.length_drop
              have h5 := k5 _ _ h4 nxp.symm
              rw [if_pos ok2] at full
              refine ⟨p, _, _, rfl, rfl, h5, by rw [List.length_map]; omega, ?_⟩
              have edd : (tailOf t i2).drop (1 + (intRun (tailOf t (i2 + 1))).1) = tailOf t (i2 + 1 + (intRun (tailOf t (i2 + 1))).1) := by
                show (t.cps.toList.drop i2).drop _ = t.cps.toList.drop _
                rw [List.drop_drop]
                congr 1
                omega
              rw [edd] at full
              refine ⟨⟨rfl, i2 + 1 + (intRun (tailOf t (i2 + 1))).1, f, vals ++ [intVal (tailOf t (i2 + 1))], by omega, by omega, ?_, by rw [List.length_append]; omega, ?_, ?_, ?_, fun b o e n => ?_, ?_⟩, ?_⟩
              · have z : (tailOf t (i2 + 1 + (intRun (tailOf t (i2 + 1))).1)).length = t.length - (i2 + 1 + (intRun (tailOf t (i2 + 1))).1) := List.length_drop
                omega
              · rw [List.length_append]
                show vals.length + 1 ≤ _
                omega
              · have e : g + ((i2 + 1 + (intRun (tailOf t (i2 + 1))).1 - i : Nat) : Int) = g + ((i2 - i : Nat) : Int) + 1 + ((intRun (tailOf t (i2 + 1))).1 : Nat) := by omega
                rw [e]
                show upd H5 p _ x = _
                rw [upd_ne nxp]
                exact S5
              · rw [upd_same, List.map_append]
                rfl
              · have y := k5 b o (k4' b o e n) n
                have nb : b ≠ p := by
                  rintro rfl
                  rw [k1 b o e n] at np
                  cases np
                rw [upd_ne nb]
                exact y
              · rw [full, List.length_append, Option.map_map]
                have e1 : i2 - i + (1 + (intRun (tailOf t (i2 + 1))).1 + (rowRest f wd (vals.length + 1) (tailOf t (i2 + 1 + (intRun (tailOf t (i2 + 1))).1))).1) = i2 + 1 + (intRun (tailOf t (i2 + 1))).1 - i + (rowRest f wd (vals.length + 1) (tailOf t (i2 + 1 + (intRun (tailOf t (i2 + 1))).1))).1 := by omega
                show (i2 - i + (1 + (intRun (tailOf t (i2 + 1))).1 + (rowRest f wd (vals.length + 1) (tailOf t (i2 + 1 + (intRun (tailOf t (i2 + 1))).1))).1), _) = _
                rw [e1]
                congr 2
                funext r
                show vals ++ (intVal (tailOf t (i2 + 1)) :: r) = vals ++ [intVal (tailOf t (i2 + 1))] ++ r
                rw [List.append_assoc]
                rfl
              · have m1 : (upd H5 p (.lst (vals.map V.int ++ [V.int (intVal (tailOf t (i2 + 1)))]))) x = H5 x := upd_ne nxp
                rw [m1, S5, S2]
                show t.length - ((i2 + 1 + (intRun (tailOf t (i2 + 1))).1 : Nat) : Int).toNat < t.length - (i2 : Int).toNat
                omega
            · have no2 : ¬ (intRun (tailOf t (i2 + 1))).2 = true := by rw [no]; exact Bool.false_ne_true
              rw [if_neg no2] at full
              have z := bad _ full
              have e : g + ((i2 - i + (1 + (intRun (tailOf t (i2 + 1))).1) : Nat) : Int) = g + ((i2 - i : Nat) : Int) + 1 + ((intRun (tailOf t (i2 + 1))).1 : Nat) := by omega
              have z2 : FliesX E B H x l (g + ((i2 - i + (1 + (intRun (tailOf t (i2 + 1))).1) : Nat) : Int)) := z
              rw [e] at z2
              exact z2.from_ k4' ⟨_, S4⟩
        · have hb : rowRest (f + 1) wd vals.length (tailOf t i2) = (0, none) := by
            cases hh : (tailOf t i2).head? with
            | none => exact rowRest_none hh
            | some c =>
              rw [rowRest_step hh, if_neg]
              rw [head_at] at hh
              unfold seesB at hs
              rw [hh] at hs
              exact of_decide_eq_false hs
          rw [hb] at full
          have z := bad (i2 - i + 0) full
          rw [Nat.add_zero] at z
          exact (z.at_ k3 ⟨_, s3 _ _ S2⟩)
    · have z := bad _ (show rowFull wd (tailOf t i) = ((intRun (tailOf t i)).1, none) by unfold rowFull; rw [no]; rfl)
      exact z
end
end Mine
namespace Mine
open PySem L2 PySem.Spec PyProof.Rows Pic
abbrev mInit : Stmt := mth 0
abbrev sPicR : Stmt := top 20
/-- v is no text -/
def NoText (K : PySem.W.Frag) (H : Hp) (v : V) : Prop := ∃ ty, (∀ H', Same H H' → TyX K H' v ty) ∧ PySem.W.kitOne K ty (.type "str") = some false
def spIni (K : PySem.W.Frag) (C B : Addr) : Sp := fun vs H Q E => ∃ (x dx : Addr) (v : V), vs = [.ref x, v] ∧ H x = some (.ins C dx []) ∧ ((∃ t, v = .str t ∧ ∀ H', Sg H' x dx C t 0 1 1 → Keeps H H' x → Q .non H') ∨ (NoText K H v ∧ Flies E B H 0 0))
structure IniT (K : PySem.W.Frag) (mg : Str → Option Value) (C : Addr) : Prop where
  cl : Cls K C
  nT : NoAttr K C "_text"
  nD : NoAttr K C "_done"
  nL : NoAttr K C "_at_line"
  nS : NoAttr K C "_at_sign"
  isi : mg "isinstance" = none
  str : mg "str" = none
section
variable {w : World} {P : Program} {base : Heap} {K : PySem.W.Frag} {mg : Str → Option Value} {C B : Addr}
theorem scIn : FnScope ["self", "text"] ["self", "text"] (defScope mInit) := ⟨rfl, rfl, rfl, by decide +kernel, rfl, by decide +kernel, by decide +kernel⟩
theorem ok_ini {f : Addr} {fd : FuncData} (F : Fun K "__init__" "Signs.__init__" mInit f fd) (T : IniT K mg C) (TB : BtT P w K mg base B) : FnOk P w K mg base (L2.CX P w) 3 f fd ["self", "text"] (spIni K C B) := by
  refine F.okX scIn (fun vs H Q E h => ?_) (fun cdv A outer s H vs Q E hr h => ?_)
  · obtain ⟨x, dx, v, rfl, _⟩ := h
    rfl
  · obtain ⟨x, dx, v, rfl, S, h⟩ := h
    obtain ⟨fI, fdI, iC, tI, FI, bI, _⟩ := TB.x2.ini
    refine ⟨_, pss_cons (ps_if (pt_not (pt_val (pe_callB call_isi (by rfl) T.isi (by decide +kernel) (pa_cons (pv 1) (pa_cons (pe_bltn (v := .ty "str") (by rfl) T.str (by decide +kernel) rfl) pa_nil)))))
        (pss_one (ps_raise rfl (takes_of rfl rfl rfl rfl) (pmk_oex TB.x2.oex iC tI FI hr bI .nil pass0 (by rfl) TB.gB (pa_cons pe_int (pa_cons pe_int pa_nil))))) pss_nil)
      (pss_cons (ps_fld (pv 0) (pv 1) rfl) (pss_cons (ps_fld (pv 0) pe_int rfl) (pss_cons (ps_fld (pv 0) pe_int rfl) (pss_one (ps_fld (pv 0) pe_int rfl))))), ?_⟩
    rcases h with ⟨t, rfl, kk⟩ | ⟨⟨ty, hty, hk⟩, fly⟩
    · refine ⟨_, rfl, .str t, .ty "str", _, _, true, rfl, .ty "str", .base (.str t), kit_ty (by decide +kernel), _, rfl, iteF ?_⟩
      refine ⟨_, rfl, _, rfl, x, C, dx, _, rfl, S, T.cl, T.nT, (by show 0 < 1000; decide), ?_⟩
      refine ⟨_, rfl, x, C, dx, _, rfl, upd_same, T.cl, T.nD, (by show 1 < 1000; decide), ?_⟩
      refine ⟨_, rfl, x, C, dx, _, rfl, upd_same, T.cl, T.nL, (by show 2 < 1000; decide), ?_⟩
      refine ⟨_, rfl, x, C, dx, _, rfl, upd_same, T.cl, T.nS, (by show 3 < 1000; decide), ?_⟩
      refine kk _ upd_same fun b o e n => ?_
      rw [upd_ne n, upd_ne n, upd_ne n, upd_ne n]
      exact e
    · refine ⟨_, rfl, v, .ty "str", _, _, false, rfl, .ty "str", hty H (Same.refl H), hk, _, rfl, iteT ?_⟩
      refine ⟨(by show 2 ≤ 1000; decide), fun a na => ?_⟩
      refine ⟨a, .int 0, .int 0, rfl, TB.x2.oex, TB.x2.no1, TB.x2.no2, upd_same, fun d nd ne => ⟨rfl, d, [("sign", .int 0), ("line", .int 0)], ?_, upd_same, ?_, ?_⟩⟩
      · rw [upd_ne ne.symm, upd_same]
      · rw [upd_ne ne] at nd
        exact nd
      · rw [upd_ne ne] at nd
        refine fly d _ nd (fun b o e => ?_) upd_same
        have n1 := ne_of_none e nd
        have n2 := ne_of_none e na
        rw [upd_ne n1, del_ne n2, upd_ne n1, upd_ne n2, upd_ne n1, upd_ne n2]
        exact e
end
/-! ### a picture, read -/
/-- f the fuel, w the width, ln the line -/
def picRest : Nat → Option Nat → Int → List Nat → Except (Int × Int) (List (List Int))
  | 0, _, _, _ => .ok []
  | f + 1, w, ln, l => if l = [] then .ok [] else match rowFull (w.getD 0) l with
    | (n, none) => .error (ln, 1 + (n : Int))
    | (n, some vals) => match picRest f (some (w.getD vals.length)) (ln + 1) (l.drop n) with
      | .ok rs => .ok (vals :: rs)
      | .error e => .error e
def picOf (t : Str) : Except (Int × Int) (List (List Int)) := picRest (t.length + 1) none 1 t.cps.toList
/-- rows of ints at the addresses -/
def RowsAt (H : Hp) (qs : List Addr) (rows : List (List Int)) : Prop := Paired (fun (q : Addr) (r : List Int) => H q = some (.lst (r.map V.int))) qs rows
def spPicR (K : PySem.W.Frag) (B : Addr) : Sp := fun vs H Q E => ∃ v : V, vs = [v] ∧ ((∃ t : Str, v = .str t ∧ t.length ≤ 100000 ∧
    (∀ rows p qs H', picOf t = .ok rows → Same H H' → H' p = some (.lst (qs.map V.ref)) → RowsAt H' qs rows → (p :: qs).Nodup → (∀ b ∈ p :: qs, H b = none) → Q (.ref p) H') ∧ ∀ ln sg, picOf t = .error (ln, sg) → Flies E B H ln sg) ∨ (NoText K H v ∧ Flies E B H 0 0))
theorem rowRest_le : ∀ (f w h : Nat) (l : List Nat), (rowRest f w h l).1 ≤ l.length
  | 0, _, _, _ => Nat.zero_le _
  | f + 1, w, h, l => by
    cases e : l.head? with
    | none =>
      rw [rowRest_none e]
      exact Nat.zero_le _
    | some c =>
      have l1 : 1 ≤ l.length := by
        cases l with
        | nil => cases e
        | cons a r => exact Nat.succ_le_succ (Nat.zero_le _)
      rw [rowRest_step e]
      have i1 := (intRun_le (l.drop 1)).1
      rw [List.length_drop] at i1
      by_cases h1 : c ∈ behind w h
      · rw [if_pos h1]
        by_cases h2 : c = 10
        · rw [if_pos h2]
          exact l1
        · rw [if_neg h2]
          by_cases h3 : (intRun (l.drop 1)).2 = true
          · rw [if_pos h3]
            have r1 := rowRest_le f w (h + 1) (l.drop (1 + (intRun (l.drop 1)).1))
            rw [List.length_drop] at r1
            show 1 + (intRun (l.drop 1)).1 + _ ≤ l.length
            omega
          · rw [if_neg h3]
            show 1 + (intRun (l.drop 1)).1 ≤ l.length
            omega
      · rw [if_neg h1]
        exact Nat.zero_le _
theorem rowFull_pos {w n : Nat} {l : List Nat} {vals : List Int} (h : rowFull w l = (n, some vals)) : 1 ≤ n ∧ n ≤ l.length := by
  unfold rowFull at h
  by_cases ok : (intRun l).2 = true
  · rw [if_pos ok] at h
    have e := congrArg Prod.fst h
    have i1 := (intRun_le l).1
    have i2 := intRun_pos ok
    have r1 := rowRest_le (l.length + 1) w 1 (l.drop (intRun l).1)
    rw [List.length_drop] at r1
    have e' : (intRun l).1 + (rowRest (l.length + 1) w 1 (l.drop (intRun l).1)).1 = n := e
    omega
  · rw [if_neg ok] at h
    cases h
theorem picRest_ok {f n : Nat} {w : Option Nat} {ln : Int} {l : List Nat} {vals : List Int} (h : rowFull (w.getD 0) l = (n, some vals)) (ne : l ≠ []) : picRest (f + 1) w ln l = (match picRest f (some (w.getD vals.length)) (ln + 1) (l.drop n) with
    | .ok rs => .ok (vals :: rs)
    | .error e => .error e) := by
  rw [picRest, if_neg ne, h]
theorem picRest_bad {f n : Nat} {w : Option Nat} {ln : Int} {l : List Nat} (h : rowFull (w.getD 0) l = (n, none)) (ne : l ≠ []) : picRest (f + 1) w ln l = .error (ln, 1 + (n : Int)) := by
  rw [picRest, if_neg ne, h]
/-- the rows ahead, put before what comes -/
def glue (rows : List (List Int)) : Except (Int × Int) (List (List Int)) → Except (Int × Int) (List (List Int))
  | .ok rs => .ok (rows ++ rs)
  | .error e => .error e
theorem glue_nil (r : Except (Int × Int) (List (List Int))) : glue [] r = r := by cases r <;> rfl
theorem glue_cons (rows : List (List Int)) (v : List Int) (r : Except (Int × Int) (List (List Int))) : glue (rows ++ [v]) r = glue rows (match r with
    | .ok rs => .ok (v :: rs)
    | .error e => .error e) := by
  cases r with
  | error e => rfl
  | ok rs =>
    show Except.ok (rows ++ [v] ++ rs) = Except.ok (rows ++ (v :: rs))
    rw [List.append_assoc]
    rfl
theorem paired_app {α β : Type} {R : α → β → Prop} : ∀ {as : List α} {bs : List β} {a : α} {b : β}, Paired R as bs → R a b → Paired R (as ++ [a]) (bs ++ [b])
  | _, _, _, _, .nil, h => .cons h .nil
  | _, _, _, _, .cons r t, h => .cons r (paired_app t h)
theorem paired_left {α β : Type} {R : α → β → Prop} : ∀ {as : List α} {bs : List β} {a : α}, Paired R as bs → a ∈ as → ∃ b, b ∈ bs ∧ R a b
  | _, _, _, .nil, h => nomatch h
  | _, _, _, .cons r t, h => by
    rcases List.mem_cons.1 h with rfl | h
    · exact ⟨_, List.mem_cons_self .., r⟩
    · obtain ⟨b, h1, h2⟩ := paired_left t h
      exact ⟨b, List.mem_cons_of_mem _ h1, h2⟩
theorem paired_mem {α β : Type} {R S : α → β → Prop} : ∀ {as : List α} {bs : List β}, Paired R as bs → (∀ a b, a ∈ as → R a b → S a b) → Paired S as bs
  | _, _, .nil, _ => .nil
  | _, _, .cons r t, h => .cons (h _ _ (List.mem_cons_self ..) r) (paired_mem t fun a b m => h a b (List.mem_cons_of_mem _ m))
section
variable {w : World} {P : Program} {base : Heap} {K : PySem.W.Frag} {mg : Str → Option Value} {C B : Addr}
theorem scPr : FnScope ["text", "signs", "rows", "width"] ["text"] (defScope sPicR) := ⟨rfl, rfl, rfl, by decide +kernel, rfl, by decide +kernel, by decide +kernel⟩
theorem ok_picR {f fI fR : Addr} {fd fdI fdR : FuncData} (F : Fun K "read_picture" "read_picture" sPicR f fd) (T : SgT K mg C) (M : Mk K C fI) (gC : mg "Signs" = some (.ref C)) (GI : FnOk P w K mg base (L2.CX P w) 3 fI fdI ["self", "text"] (spIni K C B)) (bI : Binds K fdI ["self", "text"] [])
    (ME : MtP P w K mg base C CX0 1 "ended" ["self"] (spEnded C)) (GR : FnOk P w K mg base (L2.CX P w) 7 fR fdR ["signs", "width"] (spRow C B)) (gR : mg "read_row" = some (.ref fR)) (kR : PySem.W.keepIn K (.ref fR) = true) (bR : Binds K fdR ["signs", "width"] []) : FnOk P w K mg base (L2.CX P w) 8 f fd ["text"] (spPicR K B) := by
  obtain ⟨fE, fdE, mE, GE, bE⟩ := ME
  refine F.okX scPr (fun vs H Q E h => ?_) (fun cdv A outer s H vs Q E hr h => ?_)
  · obtain ⟨v, rfl, _⟩ := h
    rfl
  · obtain ⟨v, rfl, hv⟩ := h
    have pass : Passes (L2.CX P w) (cxOf (L2.CX P w) P w K mg base ["text", "signs", "rows", "width"] "read_picture" (defScope sPicR) f cdv A outer s H E) E := passes_call (takes_of rfl rfl rfl rfl) (fun _ _ _ _ h => h)
    refine ⟨_, pss_cons (ps_set (i := 1) scPr.nd rfl (Or.inl rfl) (pe_make M GI (hr.mono (by decide)) (by rfl) gC bI .nil pass (pa_cons (pv 0) pa_nil)))
      (pss_cons (ps_set (i := 2) scPr.nd rfl (Or.inl rfl) (pe_lst pa_nil))
      (pss_cons (ps_while (passes_of rfl) (pt_up (pt_not (pt_val (pe_meth0 (pv 1) T.cl mE GE (hr.mono (by decide)) bE .nil pass0))))
        (pss_cons (ps_set (i := 3) scPr.nd rfl (Or.inl rfl) (pe_ifExp (pt_cmpR op_gt (pe_callB call_len_seq (by rfl) T.len PySem.boot_len (pa_cons (pv 2) pa_nil)) pe_int (nomark _)) (pe_callB call_len_seq (by rfl) T.len PySem.boot_len (pa_cons (pe_ix ix_list (pv 2) pe_int (fun _ _ => rfl)) pa_nil)) pe_int))
        (pss_one (ps_expr (pe_bm PySem.F.plainAttrs_list PySem.F.slot_list_append PySem.F.type_list_append mt_append (pv 2) (pa_cons (pe_call GR hr (by rfl) gR kR bR .nil pass (pa_cons (pv 1) (pa_cons (pv 3) pa_nil))) pa_nil))))))
      (pss_one (ps_ret (pv 2))))), ?_⟩
    refine ⟨_, rfl, fun x dx nx ndx nd => ?_⟩
    have same0 : ∀ {H1 : Hp} {o1 o2 : HO}, Keeps (upd (upd H dx o1) x o2) H1 x → Same H H1 := fun {H1 o1 o2} k b o e => k b o (by
      rw [upd_ne (ne_of_none e nx), upd_ne (ne_of_none e ndx)]
      exact e) (ne_of_none e nx)
    rcases hv with ⟨t, rfl, len, good, bad⟩ | ⟨nt, fly⟩
    · refine ⟨x, dx, .str t, rfl, upd_same, .inl ⟨t, rfl, fun H1 S1 k1 => ⟨rfl, ?_⟩⟩⟩
      have s1 := same0 k1
      refine ⟨Nat.zero_le _, fun p np => ?_⟩
      have nxp : x ≠ p := ne_of_none S1 np
      have big : 100000 ≤ sizeLine := by decide
      have Hp0 : H p = none := s1.free np
      refine while_by (fun σ H' => ∃ (wd : Option V) (i f : Nat) (qs : List Addr) (rows : List (List Int)), σ = [some (.str t), some (.ref x), some (.ref p), wd] ∧ i ≤ t.length ∧ (tailOf t i).length < f ∧ Sg H' x dx C t i (1 + (rows.length : Int)) 1 ∧ H' p = some (.lst (qs.map V.ref)) ∧ RowsAt H' qs rows ∧ (p :: qs).Nodup ∧ (∀ b ∈ p :: qs, H b = none) ∧ x ∉ p :: qs ∧ Same H H' ∧ qs.length ≤ i ∧
          picOf t = glue rows (picRest f (rows.head?.map List.length) (1 + (rows.length : Int)) (tailOf t i))) (fun σ H' => match H' x with
        | some (.ins _ _ [_, (_, .int k), _, _]) => t.length - k.toNat
        | _ => 0) ?_ ?_ (fun σ H Q Q' h q => up_mono σ H Q Q' h q)
      · refine ⟨none, 0, t.length + 1, [], [], rfl, Nat.zero_le _, ?_, ?_, upd_same, .nil, by simp, fun b hb => ?_, by simpa using nxp, fun b o e => ?_, Nat.zero_le _, ?_⟩
        · show (t.cps.toList.drop 0).length < t.length + 1
          rw [List.drop_zero]
          exact Nat.lt_succ_of_le (Nat.le_of_eq Array.length_toList)
        · show upd H1 p _ x = _
          rw [upd_ne nxp]
          exact S1
        · rw [List.mem_singleton.1 hb]
          exact Hp0
        · have z := s1 b o e
          rw [upd_ne (ne_of_none z np)]
          exact z
        · rw [glue_nil]
          rfl
      · rintro σ H2 ⟨wd, i, f, qs, rows, rfl, it, lf, S2, h2, hr2, nod, fresh, nx2, s2, qi, full⟩
        obtain ⟨f, rfl⟩ : ∃ k, f = k + 1 := ⟨f - 1, by omega⟩
        have t2 : (tailOf t i).length = t.length - i := List.length_drop
        refine up_of ⟨_, rfl, x, dx, _, rfl, S2, rfl, x, dx, t, i, _, _, rfl, S2, by omega, _, rfl, ?_⟩
        by_cases e : i = t.length
        · rw [decide_eq_true e]
          have tn : tailOf t i = [] := List.eq_nil_of_length_eq_zero (by omega)
          refine iteF ⟨_, rfl, good rows p qs H2 ?_ s2 h2 hr2 nod fresh⟩
          rw [full, tn]
          show Except.ok (rows ++ []) = _
          rw [List.append_nil]
        · rw [decide_eq_false e]
          refine iteT ?_
          have tne : tailOf t i ≠ [] := fun z => by
            rw [z] at t2
            simp at t2
            omega
          have hr2c := hr2
          cases hr2 with
          | nil =>
            refine ⟨_, rfl, p, _, rfl, .inl (SqL.of h2), _, _, rfl, rfl, _, rfl, iteF ?_⟩
            refine ⟨_, rfl, .inl ⟨rfl, _, SqL.of h2⟩, _, rfl, _, rfl, x, dx, t, i, 0, 1 + ((([] : List (List Int))).length : Int), 1, rfl, S2, it, len, fun n vals q H3 rf S3 nq hq k3 => ?_, fun n rf => ?_⟩
            · have h3 := k3 _ _ h2 nxp.symm
              have rp := rowFull_pos rf
              have qp : q ≠ p := fun e => by rw [e, h2] at nq; cases nq
              have qx : q ≠ x := fun e => by rw [e, S2] at nq; cases nq
              have Hq : H q = none := s2.free nq
              have tl2 : (tailOf t (i + n)).length = t.length - (i + n) := List.length_drop
              have tr2 : (tailOf t i).drop n = tailOf t (i + n) := List.drop_drop
              have nqs : q ∉ ([] : List Addr) := fun hm => by
                obtain ⟨r, hr, er⟩ := paired_left hr2c hm
                rw [er] at nq
                cases nq
              have xqs : ∀ b ∈ ([] : List Addr), b ≠ x ∧ b ≠ p := fun b hb => ⟨fun e => nx2 (e ▸ List.mem_cons_of_mem _ hb), fun e => (List.nodup_cons.mp nod).1 (e ▸ hb)⟩
              refine ⟨p, _, _, rfl, rfl, h3, by rw [List.length_map]; omega, ⟨_, i + n, f, ([] : List Addr) ++ [q], ([] : List (List Int)) ++ [vals], rfl, by omega, by omega, ?_, ?_, ?_, ?_, fun b hb => ?_, fun hb => ?_, fun b o eb => ?_, ?_, ?_⟩, ?_⟩
              · have e1 : 1 + ((([] : List (List Int)) ++ [vals]).length : Int) = 1 + ((([] : List (List Int))).length : Int) + 1 := by rw [List.length_append]; simp only [List.length_cons, List.length_nil]; omega
                rw [e1]
                show upd H3 p _ x = _
                rw [upd_ne nxp]
                exact S3
              · rw [upd_same, List.map_append]
                rfl
              · refine paired_app (paired_mem hr2c fun a r ha er => ?_) ?_
                · rw [upd_ne (xqs a ha).2]
                  exact k3 _ _ er (xqs a ha).1
                · rw [upd_ne qp]
                  exact hq
              · rw [← List.cons_append]
                refine List.nodup_append.mpr ⟨nod, by simp, fun a ha c hc e => ?_⟩
                rw [List.mem_singleton.1 hc] at e
                rcases List.mem_cons.1 ha with z | z
                · exact qp (e.symm.trans z)
                · exact nqs (e ▸ z)
              · rcases List.mem_cons.1 hb with z | z
                · exact z ▸ fresh p (List.mem_cons_self ..)
                · rcases List.mem_append.1 z with y | y
                  · exact fresh b (List.mem_cons_of_mem _ y)
                  · rw [List.mem_singleton.1 y]
                    exact Hq
              · rcases List.mem_cons.1 hb with z | z
                · exact nxp z
                · rcases List.mem_append.1 z with y | y
                  · exact nx2 (List.mem_cons_of_mem _ y)
                  · exact qx (List.mem_singleton.1 y).symm
              · have y := s2 _ _ eb
                have n1 : b ≠ x := ne_of_none eb nx
                have n2 : b ≠ p := ne_of_none eb Hp0
                rw [upd_ne n2]
                exact k3 _ _ y n1
              · rw [List.length_append]
                show (([] : List Addr)).length + 1 ≤ i + n
                omega
              · rw [full, picRest_ok (w := Option.map List.length ([] : List (List Int)).head?) (show rowFull ((Option.map List.length ([] : List (List Int)).head?).getD 0) (tailOf t i) = _ from rf) tne, tr2, glue_cons]
                have e1 : 1 + ((([] : List (List Int)) ++ [vals]).length : Int) = 1 + ((([] : List (List Int))).length : Int) + 1 := by rw [List.length_append]; simp only [List.length_cons, List.length_nil]; omega
                rw [e1]
                rfl
              · have m1 : (upd H3 p (.lst ((([] : List Addr)).map V.ref ++ [V.ref q]))) x = H3 x := upd_ne nxp
                rw [m1, S3, S2]
                show t.length - ((i + n : Nat) : Int).toNat < t.length - (i : Int).toNat
                omega
            · have z := picRest_bad (f := f) (w := Option.map List.length ([] : List (List Int)).head?) (ln := 1 + ((([] : List (List Int))).length : Int)) rf tne
              rw [z] at full
              have y := bad _ _ full
              intro d H3 nd3 k3 hd3
              refine y d H3 ?_ (fun b o eb => k3 _ _ (s2 _ _ eb) (ne_of_none eb nx)) hd3
              cases ed : H d with
              | none => rfl
              | some o =>
                rw [s2 _ _ ed] at nd3
                cases nd3
          | @cons q0 r0 qs rows e0 er =>
            refine ⟨_, rfl, p, _, rfl, .inl (SqL.of h2), _, _, rfl, rfl, _, rfl, ?_⟩
            rw [decide_eq_true (show ((((q0 :: qs).map V.ref).length : Nat) : Int) > 0 by rw [List.length_map, List.length_cons]; omega)]
            refine iteT ?_
            refine ⟨_, rfl, p, _, _, _, rfl, rfl, SqL.of h2, atI_nat (j := 0) rfl, q0, _, rfl, .inl (SqL.of e0), ?_⟩
            rw [List.length_map]
            refine ⟨_, rfl, .inl ⟨rfl, _, SqL.of h2⟩, _, rfl, _, rfl, x, dx, t, i, r0.length, 1 + ((r0 :: rows).length : Int), 1, rfl, S2, it, len, fun n vals q H3 rf S3 nq hq k3 => ?_, fun n rf => ?_⟩
            · have h3 := k3 _ _ h2 nxp.symm
              have rp := rowFull_pos rf
              have qp : q ≠ p := fun e => by rw [e, h2] at nq; cases nq
              have qx : q ≠ x := fun e => by rw [e, S2] at nq; cases nq
              have Hq : H q = none := s2.free nq
              have tl2 : (tailOf t (i + n)).length = t.length - (i + n) := List.length_drop
              have tr2 : (tailOf t i).drop n = tailOf t (i + n) := List.drop_drop
              have nqs : q ∉ (q0 :: qs) := fun hm => by
                obtain ⟨r, hr, er⟩ := paired_left hr2c hm
                rw [er] at nq
                cases nq
              have xqs : ∀ b ∈ (q0 :: qs), b ≠ x ∧ b ≠ p := fun b hb => ⟨fun e => nx2 (e ▸ List.mem_cons_of_mem _ hb), fun e => (List.nodup_cons.mp nod).1 (e ▸ hb)⟩
              refine ⟨p, _, _, rfl, rfl, h3, by rw [List.length_map]; omega, ⟨_, i + n, f, (q0 :: qs) ++ [q], (r0 :: rows) ++ [vals], rfl, by omega, by omega, ?_, ?_, ?_, ?_, fun b hb => ?_, fun hb => ?_, fun b o eb => ?_, ?_, ?_⟩, ?_⟩
              · have e1 : 1 + (((r0 :: rows) ++ [vals]).length : Int) = 1 + ((r0 :: rows).length : Int) + 1 := by rw [List.length_append]; simp only [List.length_cons, List.length_nil]; omega
                rw [e1]
                show upd H3 p _ x = _
                rw [upd_ne nxp]
                exact S3
              · rw [upd_same, List.map_append]
                rfl
              · refine paired_app (paired_mem hr2c fun a r ha er => ?_) ?_
                · rw [upd_ne (xqs a ha).2]
                  exact k3 _ _ er (xqs a ha).1
                · rw [upd_ne qp]
                  exact hq
              · rw [← List.cons_append]
                refine List.nodup_append.mpr ⟨nod, by simp, fun a ha c hc e => ?_⟩
                rw [List.mem_singleton.1 hc] at e
                rcases List.mem_cons.1 ha with z | z
                · exact qp (e.symm.trans z)
                · exact nqs (e ▸ z)
              · rcases List.mem_cons.1 hb with z | z
                · exact z ▸ fresh p (List.mem_cons_self ..)
                · rcases List.mem_append.1 z with y | y
                  · exact fresh b (List.mem_cons_of_mem _ y)
                  · rw [List.mem_singleton.1 y]
                    exact Hq
              · rcases List.mem_cons.1 hb with z | z
                · exact nxp z
                · rcases List.mem_append.1 z with y | y
                  · exact nx2 (List.mem_cons_of_mem _ y)
                  · exact qx (List.mem_singleton.1 y).symm
              · have y := s2 _ _ eb
                have n1 : b ≠ x := ne_of_none eb nx
                have n2 : b ≠ p := ne_of_none eb Hp0
                rw [upd_ne n2]
                exact k3 _ _ y n1
              · rw [List.length_append]
                show ((q0 :: qs)).length + 1 ≤ i + n
                omega
              · rw [full, picRest_ok (w := Option.map List.length (r0 :: rows).head?) (show rowFull ((Option.map List.length (r0 :: rows).head?).getD 0) (tailOf t i) = _ from rf) tne, tr2, glue_cons]
                have e1 : 1 + (((r0 :: rows) ++ [vals]).length : Int) = 1 + ((r0 :: rows).length : Int) + 1 := by rw [List.length_append]; simp only [List.length_cons, List.length_nil]; omega
                rw [e1]
                rfl
              · have m1 : (upd H3 p (.lst (((q0 :: qs)).map V.ref ++ [V.ref q]))) x = H3 x := upd_ne nxp
                rw [m1, S3, S2]
                show t.length - ((i + n : Nat) : Int).toNat < t.length - (i : Int).toNat
                omega
            · have z := picRest_bad (f := f) (w := Option.map List.length (r0 :: rows).head?) (ln := 1 + ((r0 :: rows).length : Int)) rf tne
              rw [z] at full
              have y := bad _ _ full
              intro d H3 nd3 k3 hd3
              refine y d H3 ?_ (fun b o eb => k3 _ _ (s2 _ _ eb) (ne_of_none eb nx)) hd3
              cases ed : H d with
              | none => rfl
              | some o =>
                rw [s2 _ _ ed] at nd3
                cases nd3
    · refine ⟨x, dx, v, rfl, upd_same, .inr ⟨?_, fun d H2 nd2 s2 hd => ?_⟩⟩
      · obtain ⟨ty, a1, a2⟩ := nt
        refine ⟨ty, fun H2 s2 => a1 H2 fun b o e => s2 b o ?_, a2⟩
        rw [upd_ne (ne_of_none e nx), upd_ne (ne_of_none e ndx)]
        exact e
      · have z : Same H H2 := fun b o e => s2 b o (by
          rw [upd_ne (ne_of_none e nx), upd_ne (ne_of_none e ndx)]
          exact e)
        refine fly d H2 ?_ z hd
        cases e : H d with
        | none => rfl
        | some o =>
          have y : (upd (upd H dx (.own x)) x (.ins C dx [])) d = some o := by
            rw [upd_ne (ne_of_none e nx), upd_ne (ne_of_none e ndx)]
            exact e
          rw [y] at nd2
          cases nd2
end
end Mine
namespace Mine
open PySem L2 PySem.Spec PyProof.Rows Pic
/-! ### a local name that holds a def which may raise, called within a try -/
def tCallLS (i : Nat) (f : Addr) (sp : Sp) (E : L2.St → XK) (t : TA) : TE := fun σ H Q => σ[i]? = some (some (.ref f)) ∧ t σ H fun vs H1 => sp vs H1 Q (E σ)
theorem pe_callLS {X : Cx} {CX : CXT} {k i : Nat} {f : Addr} {fd : FuncData} {ps : List Str} {sp : Sp} {E : L2.St → XK} {x : Str} {p pos : Pos} {e : Expr} {es : List Expr} {t : TA} (G : FnOk X.prog X.w X.K X.mg X.base CX k f fd ps sp) (room : Room k X.A) (nm : X.N[i]? = some x) (vis : Vis X.env.scope x) (kept : PySem.W.keepIn X.K (.ref f) = true) (bnd : Binds X.K fd ps []) (out : ∀ σ, PassesAt CX X σ (E σ)) (args : PA X (e :: es) t)
    (nd : (x == ("__debug__" : Str)) = false := by decide) (nc : (x == ("__classdict__" : Str)) = false := by decide) (line : starEach (e :: es) X.env = (false, eval e X.env) :: starEach es X.env := by rfl) (none2 : (backTo pos (starEach es X.env)).any (·.1) = false := by rfl) : PE X (.Call (.Name x p) (e :: es) [] pos) (tCallLS i f sp E t) := by
  refine ⟨fun pins s0 σ H Q I0 ⟨at_, go⟩ => wpAny_Call_Name_kw (thn ((pe_var (pos := p) nm vis nd nc).run pins s0 σ H (fun v H1 => v = .ref f ∧ H1 = H) I0 ⟨.ref f, at_, rfl, rfl⟩) fun u s1 ⟨v, H1, I1, r1, q1⟩ => ?_)⟩
  obtain ⟨rfl, rfl⟩ := q1
  cases r1
  exact PySem.W.callWith_K (h₀ := X.base) I1.ok.mod.kin kept (thn (args.run pos pins s1 σ _ _ I1 go) fun us s2 ⟨vs, H2, I2, r, q⟩ => ⟨I2.kIn, run_fnS G room bnd (out σ) I2 r q⟩) line none2
abbrev sFault : Stmt := top 14
abbrev sPicF : Stmt := top 23
section
variable {w : World} {P : Program} {base : Heap} {K : PySem.W.Frag} {mg : Str → Option Value} {C B : Addr}
theorem scFo : FnScope ["read", "text", "bad"] ["read", "text"] (defScope sFault) := ⟨rfl, rfl, rfl, by decide +kernel, rfl, by decide +kernel, by decide +kernel⟩
/-- what read_picture's fault is, told as a pair -/
def spFault (K : PySem.W.Frag) (fR : Addr) : Sp := fun vs H Q _ => ∃ v : V, vs = [.ref fR, v] ∧ ((∃ t : Str, v = .str t ∧ t.length ≤ 100000 ∧ (∀ rows H', picOf t = .ok rows → Same H H' → Q .non H') ∧
    ∀ ln sg p H', picOf t = .error (ln, sg) → Same H H' → H' p = some (.tup [.int ln, .int sg]) → Q (.ref p) H') ∨ (NoText K H v ∧ ∀ p H', Same H H' → H' p = some (.tup [.int 0, .int 0]) → Q (.ref p) H'))
structure BxT (K : PySem.W.Frag) (mg : Str → Option Value) (B : Addr) : Prop where
  gB : mg "BadText" = some (.ref B)
  xf : XfC K B
  nl : PySem.W.findIn K (.ref B) "line" = some none
  ns : PySem.W.findIn K (.ref B) "sign" = some none
  ex : PySem.W.exmOne K (.ref B) (.ref B) = some true
theorem ok_fault {f fR : Addr} {fd fdR : FuncData} (F : Fun K "fault_of" "fault_of" sFault f fd) (X : BxT K mg B) (GR : FnOk P w K mg base (L2.CX P w) 8 fR fdR ["text"] (spPicR K B)) (kR : PySem.W.keepIn K (.ref fR) = true) (bR : Binds K fdR ["text"] []) : FnOk P w K mg base CX0 9 f fd ["read", "text"] (spFault K fR) := by
  refine F.ok scFo (fun vs H Q E h => ?_) (fun cdv A outer s H vs Q E hr h => ?_)
  · obtain ⟨v, rfl, _⟩ := h
    rfl
  · obtain ⟨v, rfl, hv⟩ := h
    refine ⟨_, pss_cons (ps_try_as (i := 2) rfl rfl scFo.nd rfl rfl ⟨rfl, by decide, .inl X.gB⟩ takes0 (fun W pn xe tk _ => pss_one (ps_expr (pe_callLS (i := 0) GR hr rfl (.inl rfl) kR bR (fun σ => passAt tk σ) (pa_cons (pv 1) pa_nil))))
        (fun a oe cls d pn hz hf => pss_one (ps_ret (pe_tup (pa_cons (pe_xf X.xf X.nl hz hf (pv 2)) (pa_cons (pe_xf X.xf X.ns hz hf (pv 2)) pa_nil))))))
      (pss_one (ps_ret pe_non)), ?_⟩
    refine ⟨rfl, _, rfl, v, rfl, ?_⟩
    rcases hv with ⟨t, rfl, len, good, bad⟩ | ⟨nt, bad⟩
    · exact .inl ⟨t, rfl, len, fun rows p qs H1 ok s1 _ _ _ _ => good rows H1 ok s1, fun ln sg er => fun d H1 nd s1 hd => ⟨true, X.ex, fun _ a na => ⟨_, rfl, rfl, rfl, d, _, _, rfl, hd, rfl, _, rfl, rfl, rfl, d, _, _, rfl, hd, rfl, (by show 2 ≤ sizeLine; decide), fun p np => bad ln sg p _ er (Same.trans s1 (same_new np)) upd_same⟩, fun z => nomatch z⟩⟩
    · exact .inr ⟨nt, fun d H1 nd s1 hd => ⟨true, X.ex, fun _ a na => ⟨_, rfl, rfl, rfl, d, _, _, rfl, hd, rfl, _, rfl, rfl, rfl, d, _, _, rfl, hd, rfl, (by show 2 ≤ sizeLine; decide), fun p np => bad p _ (Same.trans s1 (same_new np)) upd_same⟩, fun z => nomatch z⟩⟩
theorem scPf : FnScope ["text"] ["text"] (defScope sPicF) := ⟨rfl, rfl, rfl, by decide +kernel, rfl, by decide +kernel, by decide +kernel⟩
/-- picture_fault(text) -/
def spPicF (K : PySem.W.Frag) : Sp := fun vs H Q _ => ∃ v : V, vs = [v] ∧ ((∃ t : Str, v = .str t ∧ t.length ≤ 100000 ∧ (∀ rows H', picOf t = .ok rows → Same H H' → Q .non H') ∧
    ∀ ln sg p H', picOf t = .error (ln, sg) → Same H H' → H' p = some (.tup [.int ln, .int sg]) → Q (.ref p) H') ∨ (NoText K H v ∧ ∀ p H', Same H H' → H' p = some (.tup [.int 0, .int 0]) → Q (.ref p) H'))
theorem ok_picF {f fF fR : Addr} {fd fdF : FuncData} (F : Fun K "picture_fault" "picture_fault" sPicF f fd) (GF : FnOk P w K mg base CX0 9 fF fdF ["read", "text"] (spFault K fR)) (gF : mg "fault_of" = some (.ref fF)) (kF : PySem.W.keepIn K (.ref fF) = true) (bF : Binds K fdF ["read", "text"] []) (gR : mg "read_picture" = some (.ref fR)) : FnOk P w K mg base CX0 10 f fd ["text"] (spPicF K) := by
  refine F.ok scPf (fun vs H Q E h => ?_) (fun cdv A outer s H vs Q E hr h => ?_)
  · obtain ⟨v, rfl, _⟩ := h
    rfl
  · obtain ⟨v, rfl, hv⟩ := h
    refine ⟨_, pss_one (ps_ret (pe_call GF hr (by rfl) gF kF bF .nil pass0 (pa_cons (pe_glob (v := .ref fR) (by rfl) gR rfl) (pa_cons (pv 0) pa_nil)))), ?_⟩
    exact ⟨_, rfl, v, rfl, hv⟩
end
end Mine
/-! The texts of pictures, without Python: line by line, and what is written. -/
namespace Mine
open PySem Pic
theorem figs_app : ∀ (k : Nat) (r : List Nat), 10 ∈ r → ∀ x, figs k (r ++ x) = figs k r
  | 0, _, _, _ => rfl
  | _ + 1, [], h, _ => nomatch h
  | k + 1, c :: t, h, x => by
    show (if dig c then figs k (t ++ x) + 1 else 0) = (if dig c then figs k t + 1 else 0)
    by_cases hc : dig c = true
    · rw [if_pos hc, if_pos hc]
      rcases List.mem_cons.1 h with e | h
      · rw [← e] at hc
        exact absurd hc (by decide)
      · rw [figs_app k t h x]
    · rw [if_neg hc, if_neg hc]
theorem numLen_app {r : List Nat} (h : 10 ∈ r) (x : List Nat) : numLen (r ++ x) = numLen r := by
  cases r with
  | nil => nomatch h
  | cons c t =>
    rw [List.cons_append, numLen_cons, numLen_cons]
    by_cases e : c = 48
    · rw [if_pos e, if_pos e]
    · rw [if_neg e, if_neg e]
      exact figs_app 16 (c :: t) h x
theorem tail10 {c : Nat} {t : List Nat} (h : 10 ∈ c :: t) (n : c ≠ 10) : 10 ∈ t := by
  rcases List.mem_cons.1 h with e | h
  · exact absurd e.symm n
  · exact h
theorem intRun_app {r : List Nat} (h : 10 ∈ r) (x : List Nat) : intRun (r ++ x) = intRun r := by
  cases r with
  | nil => nomatch h
  | cons c t =>
    rw [List.cons_append, intRun_cons, intRun_cons]
    by_cases e : c = 45
    · rw [if_pos e, if_pos e]
      have ht := tail10 h (by rw [e]; decide)
      rw [numLen_app ht]
      cases t with
      | nil => nomatch ht
      | cons d t => rfl
    · rw [if_neg e, if_neg e]
      have z : numLen (c :: (t ++ x)) = numLen (c :: t) := numLen_app h x
      rw [z]
theorem numVal_app {r : List Nat} (h : 10 ∈ r) (x : List Nat) : numVal (r ++ x) = numVal r := by
  unfold numVal
  rw [numLen_app h, List.take_append_of_le_length (numLen_le r).2]
theorem intVal_app {r : List Nat} (h : 10 ∈ r) (x : List Nat) : intVal (r ++ x) = intVal r := by
  cases r with
  | nil => nomatch h
  | cons c t =>
    unfold intVal
    by_cases e : c = 45
    · have ht := tail10 h (by rw [e]; decide)
      rw [if_pos (show (c :: t ++ x).head? = some 45 by rw [e]; rfl), if_pos (show (c :: t).head? = some 45 by rw [e]; rfl)]
      show - numVal (t ++ x) = - numVal t
      rw [numVal_app ht]
    · rw [if_neg (show ¬ (c :: t ++ x).head? = some 45 from fun z => e (Option.some.inj z)), if_neg (show ¬ (c :: t).head? = some 45 from fun z => e (Option.some.inj z)), numVal_app h]
theorem num_no10 (l : List Nat) : 10 ∉ l.take (numLen l) := fun h => by
  have z := take_digits (L := l) (Nat.le_refl _) 10 h
  omega
theorem intRun_no10 (l : List Nat) : 10 ∉ l.take (intRun l).1 := by
  cases l with
  | nil => exact fun h => nomatch h
  | cons c t =>
    rw [intRun_cons]
    by_cases e : c = 45
    · rw [if_pos e]
      by_cases e2 : t.head? = some 48
      · rw [if_pos e2, e]
        show 10 ∉ [45]
        decide
      · rw [if_neg e2]
        show 10 ∉ (c :: t).take (1 + numLen t)
        rw [Nat.add_comm, List.take_succ_cons]
        intro h
        rcases List.mem_cons.1 h with z | z
        · rw [e] at z
          cases z
        · exact num_no10 t z
    · rw [if_neg e]
      exact num_no10 (c :: t)
theorem drop10 {l : List Nat} (h : 10 ∈ l) : 10 ∈ l.drop (intRun l).1 := by
  rw [← List.take_append_drop (intRun l).1 l] at h
  rcases List.mem_append.1 h with z | z
  · exact absurd z (intRun_no10 l)
  · exact z
/-- what a row's rest is does not hang on the fuel, nor on what stands behind its line feed -/
theorem rowRest_app : ∀ (f f' w h : Nat) (r x : List Nat), 10 ∈ r → r.length < f → (r ++ x).length < f' → rowRest f' w h (r ++ x) = rowRest f w h r
  | 0, _, _, _, _, _, _, l, _ => absurd l (Nat.not_lt_zero _)
  | _ + 1, 0, _, _, _, _, _, _, l => absurd l (Nat.not_lt_zero _)
  | f + 1, f' + 1, w, h, r, x, h10, l1, l2 => by
    cases r with
    | nil => nomatch h10
    | cons c t =>
      have hd : (c :: t).head? = some c := rfl
      have hd' : (c :: t ++ x).head? = some c := rfl
      rw [rowRest_step hd, rowRest_step hd']
      by_cases h1 : c ∈ behind w h
      · rw [if_pos h1, if_pos h1]
        by_cases h2 : c = 10
        · rw [if_pos h2, if_pos h2]
        · rw [if_neg h2, if_neg h2]
          have ht := tail10 h10 h2
          have e1 : (c :: t ++ x).drop 1 = t ++ x := rfl
          have e2 : (c :: t).drop 1 = t := rfl
          rw [e1, e2, intRun_app ht, intVal_app ht]
          by_cases h3 : (intRun t).2 = true
          · rw [if_pos h3, if_pos h3]
            have d1 : (c :: t ++ x).drop (1 + (intRun t).1) = t.drop (intRun t).1 ++ x := by
              rw [Nat.add_comm]
              show (t ++ x).drop (intRun t).1 = _
              rw [List.drop_append_of_le_length (intRun_le t).1]
            have d2 : (c :: t).drop (1 + (intRun t).1) = t.drop (intRun t).1 := by
              rw [Nat.add_comm]
              rfl
            rw [List.length_cons] at l1
            have l2' : (t ++ x).length + 1 < f' + 1 := l2
            rw [List.length_append] at l2'
            have ih := rowRest_app f f' w (h + 1) (t.drop (intRun t).1) x (drop10 ht) (by rw [List.length_drop]; omega) (by rw [List.length_append, List.length_drop]; omega)
            rw [d1, d2, ih]
          · rw [if_neg h3, if_neg h3]
      · rw [if_neg h1, if_neg h1]
theorem rowFull_app {r : List Nat} (h : 10 ∈ r) (w : Nat) (x : List Nat) : rowFull w (r ++ x) = rowFull w r := by
  have i1 := (intRun_le r).1
  unfold rowFull
  rw [intRun_app h, intVal_app h, List.drop_append_of_le_length i1, rowRest_app (r.length + 1) ((r ++ x).length + 1) w 1 (r.drop (intRun r).1) x (drop10 h) (by rw [List.length_drop]; omega) (by rw [List.length_append, List.length_append, List.length_drop]; omega)]
/-- a row that is right ends with a line feed, and has its width -/
theorem rowRest_end : ∀ {f w h n : Nat} {l : List Nat} {vals : List Int}, rowRest f w h l = (n, some vals) → 1 ≤ n ∧ l[n - 1]? = some 10 ∧ (0 < w → h ≤ w → h + vals.length = w)
  | 0, _, _, _, _, _, e => by
    cases e
  | f + 1, w, h, n, l, vals, e => by
    cases hd : l.head? with
    | none =>
      rw [rowRest_none hd] at e
      cases e
    | some c =>
      rw [rowRest_step hd] at e
      by_cases h1 : c ∈ behind w h
      · rw [if_pos h1] at e
        by_cases h2 : c = 10
        · rw [if_pos h2] at e
          cases e
          refine ⟨Nat.le_refl _, ?_, fun w0 hw => ?_⟩
          · rw [← h2, ← hd, List.head?_eq_getElem?]
          · subst h2
            unfold behind at h1
            rw [if_neg (by omega)] at h1
            by_cases lt : h < w
            · rw [if_pos lt] at h1
              cases List.mem_singleton.1 h1
            · show h + 0 = w
              omega
        · rw [if_neg h2] at e
          by_cases h3 : (intRun (l.drop 1)).2 = true
          · rw [if_pos h3] at e
            cases hr : rowRest f w (h + 1) (l.drop (1 + (intRun (l.drop 1)).1)) with
            | mk m o =>
              rw [hr] at e
              cases o with
              | none => cases e
              | some vs =>
                obtain ⟨m1, m2, m3⟩ := rowRest_end hr
                cases e
                refine ⟨by omega, ?_, fun w0 hw => ?_⟩
                · rw [List.getElem?_drop] at m2
                  rw [← m2]
                  congr 1
                  omega
                · have lt : h < w := by
                    unfold behind at h1
                    rw [if_neg (by omega)] at h1
                    by_cases lt : h < w
                    · exact lt
                    · rw [if_neg lt] at h1
                      exact absurd (List.mem_singleton.1 h1) h2
                  have z := m3 w0 lt
                  show h + (vs.length + 1) = w
                  omega
          · rw [if_neg h3] at e
            cases e
      · rw [if_neg h1] at e
        cases e
theorem rowFull_end {w n : Nat} {l : List Nat} {vals : List Int} (e : rowFull w l = (n, some vals)) : 1 ≤ n ∧ l[n - 1]? = some 10 ∧ 1 ≤ vals.length ∧ (0 < w → vals.length = w) := by
  unfold rowFull at e
  by_cases h : (intRun l).2 = true
  · rw [if_pos h] at e
    cases hr : rowRest (l.length + 1) w 1 (l.drop (intRun l).1) with
    | mk m o =>
      rw [hr] at e
      cases o with
      | none => cases e
      | some vs =>
        obtain ⟨m1, m2, m3⟩ := rowRest_end hr
        cases e
        refine ⟨by omega, ?_, Nat.succ_le_succ (Nat.zero_le _), fun w0 => ?_⟩
        · rw [List.getElem?_drop] at m2
          rw [← m2]
          congr 1
          omega
        · have z := m3 w0 w0
          show vs.length + 1 = w
          omega
  · rw [if_neg h] at e
    cases e
/-! ### lines -/
/-- the lines of a text, each with its line feed, but a last one that has none; acc: what stands of the first one -/
def linesOf : List Nat → List Nat → List (List Nat)
  | acc, [] => if acc = [] then [] else [acc]
  | acc, c :: r => if c = 10 then (acc ++ [10]) :: linesOf [] r else linesOf (acc ++ [c]) r
/-- what a picture's lines tell -/
def picLines : Option Nat → Int → List (List Nat) → Except (Int × Int) (List (List Int))
  | _, _, [] => .ok []
  | w, ln, r :: rs => match rowFull (w.getD 0) r with
    | (n, none) => .error (ln, 1 + (n : Int))
    | (_, some vals) => match picLines (some (w.getD vals.length)) (ln + 1) rs with
      | .ok vs => .ok (vals :: vs)
      | .error e => .error e
theorem lines_cut : ∀ (l acc : List Nat), 10 ∉ acc → (10 ∉ acc ++ l ∧ linesOf acc l = if acc ++ l = [] then [] else [acc ++ l]) ∨ ∃ m x, acc ++ l = m ++ 10 :: x ∧ 10 ∉ m ∧ linesOf acc l = (m ++ [10]) :: linesOf [] x
  | [], acc, h => by
    rw [List.append_nil]
    exact .inl ⟨h, rfl⟩
  | c :: r, acc, h => by
    by_cases e : c = 10
    · subst e
      exact .inr ⟨acc, r, rfl, h, by rw [linesOf, if_pos rfl]⟩
    · have h' : 10 ∉ acc ++ [c] := fun z => by
        rcases List.mem_append.1 z with z | z
        · exact h z
        · exact e (List.mem_singleton.1 z).symm
      have z := lines_cut r (acc ++ [c]) h'
      rw [List.append_assoc] at z
      have e2 : linesOf acc (c :: r) = linesOf (acc ++ [c]) r := by rw [linesOf, if_neg e]
      rw [e2]
      exact z
theorem picLines_eq : ∀ (f : Nat) (w : Option Nat) (ln : Int) (l : List Nat), l.length < f → picRest f w ln l = picLines w ln (linesOf [] l)
  | 0, _, _, _, h => absurd h (Nat.not_lt_zero _)
  | f + 1, w, ln, l, h => by
    by_cases e : l = []
    · subst e
      rw [picRest, if_pos rfl]
      rfl
    · have cut := lines_cut l [] (fun z => nomatch z)
      rw [List.nil_append] at cut
      rcases cut with ⟨no, e2⟩ | ⟨m, x, e1, no, e2⟩
      · rw [if_neg e] at e2
        rw [e2]
        cases hr : rowFull (w.getD 0) l with
        | mk n o =>
          cases o with
          | some vals =>
            obtain ⟨_, z, _⟩ := rowFull_end hr
            exact absurd (List.mem_of_getElem? z) no
          | none =>
            rw [picRest_bad hr e, picLines, hr]
      · rw [e2]
        have in10 : 10 ∈ m ++ [10] := List.mem_append_right _ (List.mem_singleton.2 rfl)
        have e3 : l = (m ++ [10]) ++ x := by rw [e1, List.append_assoc]; rfl
        have ra := rowFull_app in10 (w.getD 0) x
        rw [← e3] at ra
        cases hr : rowFull (w.getD 0) (m ++ [10]) with
        | mk n o =>
          rw [hr] at ra
          cases o with
          | none => rw [picRest_bad ra e, picLines, hr]
          | some vals =>
            obtain ⟨n1, z, _⟩ := rowFull_end hr
            have en : n = (m ++ [10]).length := by
              have lt := (List.getElem?_eq_some_iff.mp z).1
              rw [List.length_append] at lt ⊢
              simp only [List.length_cons, List.length_nil] at lt ⊢
              by_cases q : n - 1 < m.length
              · rw [List.getElem?_append_left q] at z
                exact absurd (List.mem_of_getElem? z) no
              · omega
            have ed : l.drop n = x := by rw [e3, en, List.drop_left]
            rw [picRest_ok ra e, picLines, hr, ed]
            have lx : x.length < f := by
              have z2 := congrArg List.length e3
              rw [List.length_append, List.length_append] at z2
              simp only [List.length_cons, List.length_nil] at z2
              omega
            rw [picLines_eq f _ _ x lx]
            all_goals
              dsimp only
              generalize picLines (some (w.getD vals.length)) (ln + 1) (linesOf [] x) = y
              cases y <;> rfl
/-! ### what is written -/
/-- an integer as it is written -/
def natL (n : Nat) : List Nat := (Nat.toDigits 10 n).map Char.toNat
def intL (i : Int) : List Nat := if i < 0 then 45 :: natL i.natAbs else natL i.natAbs
theorem natL_ne (n : Nat) : natL n ≠ [] := fun h => Nat.toDigits_ne_nil (List.map_eq_nil_iff.mp h)
theorem natL_dig (n : Nat) : ∀ c ∈ natL n, dig c = true := by
  intro c hc
  obtain ⟨ch, h1, rfl⟩ := List.mem_map.1 hc
  have z := Nat.isDigit_of_mem_toDigits (b := 10) (by decide) (by decide) h1
  unfold Char.isDigit at z
  unfold dig
  simp only [Bool.and_eq_true, decide_eq_true_eq, Nat.ble_eq] at z ⊢
  exact ⟨z.1, z.2⟩
theorem natL_len {n : Nat} (h : n < 10 ^ 16) : (natL n).length ≤ 16 := by
  unfold natL
  rw [List.length_map]
  exact (Nat.length_toDigits_le_iff (by decide) (by decide)).mpr h
theorem natL_split (n : Nat) : natL n = if n < 10 then [48 + n] else natL (n / 10) ++ [48 + n % 10] := by
  unfold natL
  rw [Nat.toDigits_eq_if (by decide)]
  have dc : ∀ d, d < 10 → (Nat.digitChar d).toNat = 48 + d := by decide
  by_cases h : n < 10
  · rw [if_pos h, if_pos h]
    show [(Nat.digitChar n).toNat] = _
    rw [dc n h]
  · rw [if_neg h, if_neg h, List.map_append]
    show _ ++ [(Nat.digitChar (n % 10)).toNat] = _
    rw [dc _ (Nat.mod_lt _ (by decide))]
theorem natL_val (n : Nat) : NumText.digitsVal (natL n) = n := by
  induction n using Nat.strongRecOn with
  | _ n ih =>
    rw [natL_split]
    by_cases h : n < 10
    · rw [if_pos h]
      show 0 * 10 + (48 + n - 48) = n
      omega
    · rw [if_neg h]
      have e : NumText.digitsVal (natL (n / 10) ++ [48 + n % 10]) = NumText.digitsVal (natL (n / 10)) * 10 + (48 + n % 10 - 48) := by
        unfold NumText.digitsVal
        rw [List.foldl_append]
        rfl
      rw [e, ih (n / 10) (by omega)]
      omega
theorem natL_head (n : Nat) : n = 0 ∨ ∃ c t, natL n = c :: t ∧ c ≠ 48 ∧ c ≠ 45 := by
  induction n using Nat.strongRecOn with
  | _ n ih =>
    by_cases h0 : n = 0
    · exact .inl h0
    · refine .inr ?_
      rw [natL_split]
      by_cases h : n < 10
      · rw [if_pos h]
        exact ⟨48 + n, [], rfl, by omega, by omega⟩
      · rw [if_neg h]
        rcases ih (n / 10) (by omega) with z | ⟨c, t, e, h1, h2⟩
        · omega
        · exact ⟨c, t ++ [48 + n % 10], by rw [e]; rfl, h1, h2⟩
theorem figs_all : ∀ (k : Nat) (l : List Nat) (c : Nat) (x : List Nat), (∀ d ∈ l, dig d = true) → l.length ≤ k → dig c = false → figs k (l ++ c :: x) = l.length
  | 0, [], _, _, _, _, _ => rfl
  | 0, _ :: _, _, _, _, h, _ => absurd h (Nat.not_succ_le_zero _)
  | k + 1, [], c, x, _, _, hc => by
    show (if dig c then figs k x + 1 else 0) = 0
    rw [if_neg (by rw [hc]; exact Bool.false_ne_true)]
  | k + 1, d :: l, c, x, hd, hl, hc => by
    show (if dig d then figs k (l ++ c :: x) + 1 else 0) = l.length + 1
    rw [if_pos (hd d (List.mem_cons_self ..)), figs_all k l c x (fun e h => hd e (List.mem_cons_of_mem _ h)) (Nat.le_of_succ_le_succ hl) hc]
theorem numLen_natL {n c : Nat} (h : n < 10 ^ 16) (hc : dig c = false) (x : List Nat) : numLen (natL n ++ c :: x) = (natL n).length := by
  rcases natL_head n with rfl | ⟨d, t, e, h1, _⟩
  · have z : natL 0 = [48] := by decide
    rw [z]
    rfl
  · have al := natL_dig n
    have len := natL_len h
    rw [e] at al len ⊢
    rw [List.cons_append, numLen_cons, if_neg h1]
    exact figs_all 16 (d :: t) c x al len hc
theorem numVal_natL {n c : Nat} (h : n < 10 ^ 16) (hc : dig c = false) (x : List Nat) : numVal (natL n ++ c :: x) = n := by
  unfold numVal
  rw [numLen_natL h hc, List.take_left, natL_val]
theorem intRun_intL {i : Int} {c : Nat} (h : i.natAbs < 10 ^ 16) (hc : dig c = false) (x : List Nat) : intRun (intL i ++ c :: x) = ((intL i).length, true) ∧ intVal (intL i ++ c :: x) = i := by
  have pos : 0 < (natL i.natAbs).length := List.length_pos_iff.mpr (natL_ne _)
  unfold intL
  by_cases neg : i < 0
  · rw [if_pos neg]
    have nz : i.natAbs ≠ 0 := by omega
    have e48 : (natL i.natAbs ++ c :: x).head? ≠ some 48 := by
      rcases natL_head i.natAbs with z | ⟨d, t, e, h1, _⟩
      · exact absurd z nz
      · rw [e]
        exact fun z => h1 (Option.some.inj z)
    constructor
    · rw [List.cons_append, intRun_cons, if_pos rfl, if_neg e48, numLen_natL h hc, decide_eq_true pos, List.length_cons, Nat.add_comm]
    · unfold intVal
      rw [List.cons_append, if_pos (show (45 :: (natL i.natAbs ++ c :: x)).head? = some 45 from rfl)]
      show - numVal (natL i.natAbs ++ c :: x) = i
      rw [numVal_natL h hc]
      omega
  · rw [if_neg neg]
    have h45 : (natL i.natAbs ++ c :: x).head? ≠ some 45 := by
      rcases natL_head i.natAbs with z | ⟨d, t, e, _, h2⟩
      · rw [z]
        exact fun z => by cases z
      · rw [e]
        exact fun z => h2 (Option.some.inj z)
    constructor
    · rw [intRun_plain h45, numLen_natL h hc, decide_eq_true pos]
    · unfold intVal
      rw [if_neg h45, numVal_natL h hc]
      omega
/-- a row as it is written, what stands behind its first integer -/
def moreL : List Int → List Nat
  | [] => [10]
  | i :: r => 32 :: (intL i ++ moreL r)
def rowL : List Int → List Nat
  | [] => [10]
  | i :: r => intL i ++ moreL r
theorem moreL_head (r : List Int) : ∃ c x, moreL r = c :: x ∧ dig c = false := by
  cases r with
  | nil => exact ⟨10, [], rfl, rfl⟩
  | cons i r => exact ⟨32, _, rfl, rfl⟩
theorem rest_written : ∀ (r : List Int) (f w h : Nat), (∀ i ∈ r, i.natAbs < 10 ^ 16) → (moreL r).length < f → (w = 0 ∨ h + r.length = w) → rowRest f w h (moreL r) = ((moreL r).length, some r)
  | _, 0, _, _, _, l, _ => absurd l (Nat.not_lt_zero _)
  | [], f + 1, w, h, _, _, hw => by
    have hd : (moreL []).head? = some 10 := rfl
    rw [rowRest_step hd, if_pos, if_pos rfl]
    · rfl
    · unfold behind
      rcases hw with e | e
      · rw [if_pos e]
        exact List.mem_cons_of_mem _ (List.mem_cons_self ..)
      · by_cases w0 : w = 0
        · rw [if_pos w0]
          exact List.mem_cons_of_mem _ (List.mem_cons_self ..)
        · rw [if_neg w0, if_neg (by have e' : h + 0 = w := e; omega)]
          exact List.mem_cons_self ..
  | i :: r, f + 1, w, h, hi, l, hw => by
    have hd : (moreL (i :: r)).head? = some 32 := rfl
    obtain ⟨c, x, ec, hc⟩ := moreL_head r
    obtain ⟨r1, r2⟩ := intRun_intL (hi i (List.mem_cons_self ..)) hc x
    rw [← ec] at r1 r2
    have ed : (moreL (i :: r)).drop 1 = intL i ++ moreL r := rfl
    have mem : 32 ∈ behind w h := by
      unfold behind
      rcases hw with e | e
      · rw [if_pos e]
        exact List.mem_cons_self ..
      · by_cases w0 : w = 0
        · rw [if_pos w0]
          exact List.mem_cons_self ..
        · rw [if_neg w0, if_pos (by rw [List.length_cons] at e; omega)]
          exact List.mem_cons_self ..
    have len : (moreL (i :: r)).length = 1 + (intL i).length + (moreL r).length := by
      show (intL i ++ moreL r).length + 1 = _
      rw [List.length_append]
      omega
    have edd : (moreL (i :: r)).drop (1 + (intL i).length) = moreL r := by
      rw [Nat.add_comm]
      show (intL i ++ moreL r).drop (intL i).length = _
      rw [List.drop_left]
    have ih := rest_written r f w (h + 1) (fun j hj => hi j (List.mem_cons_of_mem _ hj)) (by omega) (by
      rcases hw with e | e
      · exact .inl e
      · exact .inr (by rw [List.length_cons] at e; omega))
    rw [rowRest_step hd, if_pos mem, if_neg (by decide), ed, r1, if_pos rfl, r2, edd, ih, len]
    rfl
theorem row_written {r : List Int} {w : Nat} (hr : r ≠ []) (hi : ∀ i ∈ r, i.natAbs < 10 ^ 16) (hw : w = 0 ∨ r.length = w) : rowFull w (rowL r) = ((rowL r).length, some r) := by
  cases r with
  | nil => exact absurd rfl hr
  | cons i r =>
    obtain ⟨c, x, ec, hc⟩ := moreL_head r
    obtain ⟨r1, r2⟩ := intRun_intL (hi i (List.mem_cons_self ..)) hc x
    rw [← ec] at r1 r2
    have len : (rowL (i :: r)).length = (intL i).length + (moreL r).length := List.length_append
    have r1' : intRun (rowL (i :: r)) = ((intL i).length, true) := r1
    have r2' : intVal (rowL (i :: r)) = i := r2
    unfold rowFull
    have edd : (rowL (i :: r)).drop (intL i).length = moreL r := List.drop_left
    rw [r1', if_pos rfl]
    dsimp only
    rw [edd, r2', rest_written r _ w 1 (fun j hj => hi j (List.mem_cons_of_mem _ hj)) (by omega) (by
      rcases hw with e | e
      · exact .inl e
      · exact .inr (by rw [List.length_cons] at e; omega)), len]
    rfl
theorem moreL_10 (r : List Int) : 10 ∈ moreL r := by
  induction r with
  | nil => exact List.mem_cons_self ..
  | cons i r ih => exact List.mem_cons_of_mem _ (List.mem_append_right _ ih)
theorem rowL_10 (r : List Int) : 10 ∈ rowL r := by
  cases r with
  | nil => exact List.mem_cons_self ..
  | cons i r => exact List.mem_append_right _ (moreL_10 r)
def picL (rows : List (List Int)) : List Nat := (rows.map rowL).flatten
/-- a picture: rows of one width, none empty, no shade of more than sixteen figures -/
def PicOk (rows : List (List Int)) : Prop := ∃ w, 0 < w ∧ ∀ r ∈ rows, r.length = w ∧ ∀ i ∈ r, i.natAbs < 10 ^ 16
theorem pic_rest : ∀ (rows : List (List Int)) (f : Nat) (w : Option Nat) (ln : Int) (k : Nat), 0 < k → (∀ r ∈ rows, r.length = k ∧ ∀ i ∈ r, i.natAbs < 10 ^ 16) → (w = none ∨ w = some k) → (picL rows).length < f → picRest f w ln (picL rows) = .ok rows
  | _, 0, _, _, _, _, _, _, l => absurd l (Nat.not_lt_zero _)
  | [], f + 1, w, ln, k, _, _, _, _ => by
    rw [picRest, if_pos (show picL [] = [] from rfl)]
  | r :: rows, f + 1, w, ln, k, k0, hr, hw, l => by
    obtain ⟨h1, h2⟩ := hr r (List.mem_cons_self ..)
    have ne : r ≠ [] := fun e => by
      rw [e] at h1
      have z : 0 = k := h1
      omega
    have el : picL (r :: rows) = rowL r ++ picL rows := by
      unfold picL
      rw [List.map_cons, List.flatten_cons]
    have ff : rowFull (w.getD 0) (picL (r :: rows)) = ((rowL r).length, some r) := by
      rw [el, rowFull_app (rowL_10 r), row_written ne h2]
      rcases hw with rfl | rfl
      · exact .inl rfl
      · exact .inr h1
    have nn : picL (r :: rows) ≠ [] := fun e => by
      rw [el] at e
      have z := rowL_10 r
      rw [(List.append_eq_nil_iff.mp e).1] at z
      nomatch z
    have pos : 1 ≤ (rowL r).length := List.length_pos_of_mem (rowL_10 r)
    have ed : (picL (r :: rows)).drop (rowL r).length = picL rows := by
      rw [el, List.drop_left]
    have ih := pic_rest rows f (some (w.getD r.length)) (ln + 1) k k0 (fun q hq => hr q (List.mem_cons_of_mem _ hq)) (by
      rcases hw with rfl | rfl
      · exact .inr (congrArg some h1)
      · exact .inr rfl) (by rw [el, List.length_append] at l; omega)
    rw [picRest_ok ff nn, ed, ih]
theorem pic_written {rows : List (List Int)} (h : PicOk rows) : picOf ⟨(picL rows).toArray⟩ = .ok rows := by
  obtain ⟨w, w0, hr⟩ := h
  unfold picOf
  refine pic_rest rows _ none 1 w w0 hr (.inl rfl) ?_
  show (picL rows).length < (picL rows).toArray.size + 1
  rw [List.size_toArray]
  exact Nat.lt_succ_self _
end Mine
namespace Mine
open PySem L2 PySem.Spec PyProof.Rows Pic
abbrev sSees4 : Stmt := top 30
abbrev sDue4 : Stmt := top 28
/-- the law's walk over a row: its place and whether all was right so far -/
def Wk (H : Hp) (k : Addr) (r : Str) (i : Nat) (b : Bool) : Prop := H k = some (.lst [.str r, .int i, .bl b])
section
variable {w : World} {P : Program} {base : Heap} {K : PySem.W.Frag} {mg : Str → Option Value}
theorem sc30 : FnScope ["_law_walk", "_law_sign"] ["_law_walk", "_law_sign"] (defScope sSees4) := ⟨rfl, rfl, rfl, by decide +kernel, rfl, by decide +kernel, by decide +kernel⟩
def spSees4 : Sp := fun vs H Q _ => ∃ (k : Addr) (r : Str) (i d : Nat) (b : Bool), vs = [.ref k, sgn d] ∧ Wk H k r i b ∧ i ≤ r.length ∧ r.length ≤ sizeLine ∧ Q (.bl (b && decide ((tailOf r i).head? = some d))) H
theorem next_is {r : Str} {i d : Nat} : decide (V.str (nextS r i) = sgn d) = decide ((tailOf r i).head? = some d) := by
  rw [dec_s, head_at]
  cases e : r.cps.toList[i]? with
  | none =>
    have z : nextS r i = ⟨#[]⟩ := by
      unfold nextS
      rw [List.drop_of_length_le (List.getElem?_eq_none_iff.mp e)]
      rfl
    rw [z, decide_eq_false (fun h => by
      have y : (#[] : Array Nat) = #[d] := congrArg Str.cps h
      exact absurd (congrArg Array.size y) (by show ¬ (0 = 1); decide)), decide_eq_false (fun h => nomatch h)]
  | some c =>
    rw [next_some e]
    by_cases h : c = d
    · rw [h, decide_eq_true rfl, decide_eq_true rfl]
    · rw [decide_eq_false (fun z => h (by
        have y : (#[c] : Array Nat) = #[d] := congrArg Str.cps z
        simpa using y)), decide_eq_false (fun z => h (Option.some.inj z))]
theorem ok_sees4 {f : Addr} {fd : FuncData} (F : Fun K "_law_a_sees" "_law_a_sees" sSees4 f fd) : FnOk P w K mg base CX0 1 f fd ["_law_walk", "_law_sign"] spSees4 := by
  refine F.ok sc30 (fun vs H Q E h => ?_) (fun cdv A outer s H vs Q E hr h => ?_)
  · obtain ⟨k, r, i, d, b, rfl, _⟩ := h
    rfl
  · obtain ⟨k, r, i, d, b, rfl, W, le, len, kk⟩ := h
    refine ⟨_, pss_one (ps_ret (pe_and (pe_ix ix_list (pv 0) pe_int (fun _ _ => rfl)) (pe_one (pe_cmpR op_eq (pe_slice sl_str (pe_ix ix_list (pv 0) pe_int (fun _ _ => rfl)) (po_some (pe_ix ix_list (pv 0) pe_int (fun _ _ => rfl))) (po_some (pe_op op_add (pe_ix ix_list (pv 0) pe_int (fun _ _ => rfl)) pe_int))) (pv 1) (nomark _))))), ?_⟩
    refine ⟨_, rfl, k, _, _, _, rfl, rfl, SqL.of W, atI_nat (j := 2) rfl, b, rfl, ?_⟩
    cases b with
    | false => exact iteF kk
    | true =>
      refine iteT ⟨_, rfl, k, _, _, _, rfl, rfl, SqL.of W, atI_nat (j := 0) rfl, _, rfl, k, _, _, _, rfl, rfl, SqL.of W, atI_nat (j := 1) rfl, _, rfl, _, rfl, k, _, _, _, rfl, rfl, SqL.of W, atI_nat (j := 1) rfl, _, _, rfl, rfl, _, rfl, r, rfl, len, _, rfl, rfl, ?_⟩
      rw [cut_next r i le, next_is]
      exact kk
end
end Mine
namespace Mine
open PySem L2 PySem.Spec PyProof.Rows Pic
theorem for_any {J : It} {n : Nat} {g : TG} {tb : TS} {D : Ends} {σ : L2.St} {H : Hp} (Pv : Nat → L2.St → Hp → Prop) (h0 : Pv 0 σ H) (go : ∀ i σ H, i < n → Pv i σ H → J.go i H) (stop : ∀ σ H, Pv n σ H → J.stop n H)
    (turn : ∀ i σ H x H', i < n → Pv i σ H → J.yld i H x H' → g x σ H' fun σ2 H2 => tb { D with nx := Pv (i + 1), ct := Pv (i + 1), bk := D.nx } σ2 H2) (hd : ∀ σ H, Pv n σ H → D.nx σ H) :
    ∃ W : Nat → Nat → L2.St → Hp → Prop, (∃ m, W 0 m σ H) ∧
      ∀ i m σ H, W i m σ H → (J.stop i H ∧ D.nx σ H) ∨ (J.go i H ∧ ∃ N : L2.St → Hp → Prop, (∀ σ' H', N σ' H' → ∃ m', m' < m ∧ W (i + 1) m' σ' H') ∧ ∀ x H', J.yld i H x H' → g x σ H' fun σ2 H2 => tb { D with nx := N, ct := N, bk := D.nx } σ2 H2) := by
  refine ⟨fun i m σ H => m + i = n ∧ Pv i σ H, ⟨n, rfl, h0⟩, fun i m σ H hw => ?_⟩
  obtain ⟨le, p⟩ := hw
  match m, le with
  | 0, le =>
    have e : i = n := (Nat.zero_add i).symm.trans le
    subst e
    exact .inl ⟨stop σ H p, hd σ H p⟩
  | m + 1, le => exact .inr ⟨go i σ H (by omega) p, Pv (i + 1), fun σ2 H2 p2 => ⟨m, Nat.lt_succ_self m, by omega, p2⟩, fun x H2 y => turn i σ H x H2 (by omega) p y⟩
section
variable {w : World} {P : Program} {base : Heap} {K : PySem.W.Frag} {mg : Str → Option Value}
theorem sc28 : FnScope ["_law_walk", "_law_due", "_law_sign"] ["_law_walk", "_law_due"] (defScope sDue4) := ⟨rfl, rfl, rfl, by decide +kernel, rfl, by decide +kernel, by decide +kernel⟩
/-- the walk behind the signs due -/
def dueTo (r : Str) : Nat × Bool → List Nat → Nat × Bool
  | s, [] => s
  | (i, b), d :: ds => if (b && decide ((tailOf r i).head? = some d)) = true then dueTo r (i + 1, b) ds else dueTo r (i, false) ds
def spDue4 : Sp := fun vs H Q _ => ∃ (k : Addr) (r z : Str) (i : Nat) (b : Bool), vs = [.ref k, .str z] ∧ Wk H k r i b ∧ i ≤ r.length ∧ r.length ≤ sizeLine ∧ z.length ≤ 10 ∧ ∀ H', Wk H' k r (dueTo r (i, b) z.cps.toList).1 (dueTo r (i, b) z.cps.toList).2 → (∀ a o, H a = some o → a ≠ k → H' a = some o) → Q .non H'
theorem ok_due4 {f : Addr} {fd : FuncData} (F : Fun K "_law_a_due" "_law_a_due" sDue4 f fd) : FnOk P w K mg base CX0 1 f fd ["_law_walk", "_law_due"] spDue4 := by
  refine F.ok sc28 (fun vs H Q E h => ?_) (fun cdv A outer s H vs Q E hr h => ?_)
  · obtain ⟨k, r, z, i, b, rfl, _⟩ := h
    rfl
  · obtain ⟨k, r, z, i, b, rfl, W, le, len, lz, kk⟩ := h
    refine ⟨_, pss_one (ps_for PassesOwn.never rfl (pi_str (pv 1)) (pg_name (i := 2) sc28.nd rfl (Or.inl rfl))
      (pss_one (ps_if (PW.pt (pw_and (pt_val (pe_ix ix_list (pv 0) pe_int (fun _ _ => rfl))) (pw_and1 (pt_cmpR op_eq (pe_slice sl_str (pe_ix ix_list (pv 0) pe_int (fun _ _ => rfl)) (po_some (pe_ix ix_list (pv 0) pe_int (fun _ _ => rfl))) (po_some (pe_op op_add (pe_ix ix_list (pv 0) pe_int (fun _ _ => rfl)) pe_int))) (pv 2) (nomark _)))))
        (pss_one (ps_asg (pe_op op_add (pe_ix ix_list (pv 0) pe_int (fun _ _ => rfl)) pe_int) (pg_sub (pv 0) pe_int set_list)))
        (pss_one (ps_asg pe_bl (pg_sub (pv 0) pe_int set_list)))))), ?_⟩
    refine ⟨_, rfl, z, rfl, ?_⟩
    refine for_any (n := z.cps.size) (fun j σ H' => ∃ (sl : Option V) (i2 : Nat) (b2 : Bool), σ = [some (.ref k), some (.str z), sl] ∧ Wk H' k r i2 b2 ∧ i2 ≤ r.length ∧ (∀ a o, H a = some o → a ≠ k → H' a = some o) ∧ dueTo r (i, b) z.cps.toList = dueTo r (i2, b2) (z.cps.toList.drop j)) ?_ ?_ ?_ ?_ ?_
    · exact ⟨none, i, b, rfl, W, le, fun a o e _ => e, rfl⟩
    · exact fun j _ _ lt _ => lt
    · exact fun _ _ _ => Nat.le_refl _
    · rintro j σ H1 x H2 lt ⟨sl, i2, b2, rfl, W2, le2, k2, e2⟩ ⟨rfl, c, hc, rfl⟩
      have ec : z.cps.toList.drop j = c :: z.cps.toList.drop (j + 1) := by
        have hl : z.cps.toList[j]? = some c := by rw [Array.getElem?_toList]; exact hc
        obtain ⟨l2, e⟩ := List.getElem?_eq_some_iff.mp hl
        rw [List.drop_eq_getElem_cons l2, e]
      rw [ec] at e2
      have no : ∀ b2', (b2' && decide ((tailOf r i2).head? = some c)) = false → b2 = b2' → ∃ (sl : Option V) (i3 : Nat) (b3 : Bool), [some (V.ref k), some (V.str z), some (sgn c)] = [some (.ref k), some (.str z), sl] ∧ Wk (upd H2 k (.lst [.str r, .int i2, .bl false])) k r i3 b3 ∧ i3 ≤ r.length ∧ (∀ a o, H a = some o → a ≠ k → upd H2 k (.lst [.str r, .int i2, .bl false]) a = some o) ∧ dueTo r (i, b) z.cps.toList = dueTo r (i3, b3) (z.cps.toList.drop (j + 1)) := by
        rintro b2' h rfl
        refine ⟨_, i2, false, rfl, upd_same, le2, fun a o e n => by rw [upd_ne n]; exact k2 a o e n, ?_⟩
        rw [e2, dueTo, h, if_neg Bool.false_ne_true]
      refine ⟨_, rfl, k, _, _, _, rfl, rfl, SqL.of W2, atI_nat (j := 2) rfl, b2, rfl, ?_⟩
      cases b2 with
      | false => exact iteF ⟨_, rfl, k, _, _, 2, rfl, rfl, W2, rfl, no false rfl rfl⟩
      | true =>
        refine iteT ⟨_, rfl, k, _, _, _, rfl, rfl, SqL.of W2, atI_nat (j := 0) rfl, _, rfl, k, _, _, _, rfl, rfl, SqL.of W2, atI_nat (j := 1) rfl, _, rfl, _, rfl, k, _, _, _, rfl, rfl, SqL.of W2, atI_nat (j := 1) rfl, _, _, rfl, rfl, _, rfl, r, rfl, len, _, rfl, rfl, _, rfl, ?_⟩
        rw [cut_next r i2 le2, next_is]
        by_cases hh : (tailOf r i2).head? = some c
        · rw [decide_eq_true hh]
          have lt3 : i2 + 1 ≤ r.length := by
            rw [head_at] at hh
            have y := (List.getElem?_eq_some_iff.mp hh).1
            have y2 : r.cps.toList.length = r.length := Array.length_toList
            omega
          refine iteT ⟨_, rfl, k, _, _, _, rfl, rfl, SqL.of W2, atI_nat (j := 1) rfl, _, _, rfl, rfl, _, rfl, k, _, _, 1, rfl, rfl, W2, rfl, _, i2 + 1, true, rfl, upd_same, lt3, fun a o e n => by rw [upd_ne n]; exact k2 a o e n, ?_⟩
          rw [e2, dueTo, decide_eq_true hh]
          exact if_pos rfl
        · rw [decide_eq_false hh]
          exact iteF ⟨_, rfl, k, _, _, 2, rfl, rfl, W2, rfl, no true (by rw [decide_eq_false hh]; rfl) rfl⟩
    · rintro σ H2 ⟨sl, i2, b2, rfl, W2, le2, k2, e2⟩
      have ed : z.cps.toList.drop z.cps.size = [] := List.drop_of_length_le (Nat.le_of_eq Array.length_toList)
      rw [ed] at e2
      have e3 : dueTo r (i, b) z.cps.toList = (i2, b2) := by rw [e2, dueTo]
      refine kk H2 ?_ k2
      rw [e3]
      exact W2
end
end Mine
namespace Mine
open PySem L2 PySem.Spec PyProof.Rows
/-! ### data with empty dicts -/
mutual
inductive De (K : PySem.W.Frag) (H : Hp) : V → PyData → Prop
  | non : De K H .non .none
  | bl (b : Bool) : De K H (.bl b) (.bool b)
  | int (i : Int) : De K H (.int i) (.int i)
  | str (x : Str) : De K H (.str x) (.str x)
  | lst {a : Addr} {xs : List V} {ds : List PyData} : SqL K H a xs → DeAll K H xs ds → De K H (.ref a) (.list ds)
  | tup {a : Addr} {xs : List V} {ds : List PyData} : SqT K H a xs → DeAll K H xs ds → De K H (.ref a) (.tuple ds)
  | dct {a : Addr} : H a = some (.dK []) → De K H (.ref a) (.dict [])
inductive DeAll (K : PySem.W.Frag) (H : Hp) : List V → List PyData → Prop
  | nil : DeAll K H [] []
  | cons {v : V} {vs : List V} {d : PyData} {ds : List PyData} : De K H v d → DeAll K H vs ds → DeAll K H (v :: vs) (d :: ds)
end
mutual
theorem De.of {K : PySem.W.Frag} {H : Hp} : ∀ {v : V} {d : PyData}, Dp K H v d → De K H v d
  | _, _, .non => .non
  | _, _, .bl b => .bl b
  | _, _, .int i => .int i
  | _, _, .str x => .str x
  | _, _, .lst s t => .lst s (DeAll.of t)
  | _, _, .tup s t => .tup s (DeAll.of t)
theorem DeAll.of {K : PySem.W.Frag} {H : Hp} : ∀ {vs : List V} {ds : List PyData}, DpAll K H vs ds → DeAll K H vs ds
  | _, _, .nil => .nil
  | _, _, .cons a t => .cons (De.of a) (DeAll.of t)
end
mutual
def sameE : PyData → PyData → Bool
  | .list ds, .list fs => sameEAll ds fs
  | .tuple ds, .tuple fs => sameEAll ds fs
  | .int i, .int j => decide (j = i)
  | .bool b, .bool c => decide (c = b)
  | .none, .none => true
  | .str x, .str y => decide (y = x)
  | .dict _, .dict _ => true
  | _, _ => false
def sameEAll : List PyData → List PyData → Bool
  | [], [] => true
  | d :: ds, f :: fs => sameE d f && sameEAll ds fs
  | _, _ => false
end
mutual
def deepE : PyData → Nat
  | .list ds => deepEAll ds + 1
  | .tuple ds => deepEAll ds + 1
  | .dict _ => 3
  | _ => 0
def deepEAll : List PyData → Nat
  | [] => 0
  | d :: ds => max (deepE d) (deepEAll ds)
end
theorem deepE_get : ∀ {ds : List PyData} {i : Nat} {d : PyData}, ds[i]? = some d → deepE d ≤ deepEAll ds
  | [], _, _, e => by
    rw [List.getElem?_nil] at e
    cases e
  | d :: ds, 0, _, e => by
    cases e
    exact Nat.le_max_left _ _
  | d :: ds, i + 1, x, e => Nat.le_trans (deepE_get (ds := ds) (i := i) e) (Nat.le_max_right _ _)
theorem de_ty {K : PySem.W.Frag} {H : Hp} {v : V} {d : PyData} (h : De K H v d) : TyX K H v (.type (tyD d)) := by
  cases h with
  | non => exact .base .non
  | bl b => exact .base (.bl b)
  | int i => exact .base (.int i)
  | str x => exact .base (.str x)
  | lst s _ => rcases s with (s | ⟨o, s⟩) | ⟨o, its, n, l, c, _⟩
               · exact .base (.lst s)
               · exact .base (.frz s)
               · exact .kList l c
  | tup s _ => rcases s with (s | ⟨o, s⟩) | ⟨o, its, n, l, c, _⟩
               · exact .base (.tup s)
               · exact .fTuple s
               · exact .kTuple l c
  | dct s => exact .base (.dK s)
mutual
theorem de_s {K : PySem.W.Frag} {H H' : Hp} (k : Same H H') : ∀ {v : V} {d : PyData}, De K H v d → De K H' v d
  | _, _, .non => .non
  | _, _, .bl b => .bl b
  | _, _, .int i => .int i
  | _, _, .str x => .str x
  | _, _, .lst s t => .lst (k.seq s) (deAll_s k t)
  | _, _, .tup s t => .tup (sq_s k s) (deAll_s k t)
  | _, _, .dct s => .dct (k _ _ s)
theorem deAll_s {K : PySem.W.Frag} {H H' : Hp} (k : Same H H') : ∀ {vs : List V} {ds : List PyData}, DeAll K H vs ds → DeAll K H' vs ds
  | _, _, .nil => .nil
  | _, _, .cons a t => .cons (de_s k a) (deAll_s k t)
end
section
variable {K : PySem.W.Frag} {H : Hp} {σ : L2.St} {v : V} {d : PyData} {i : Nat} {Q : VK}
theorem rd_isiE {c : String} {b : Bool} (hi : σ[i]? = some (some v)) (h : De K H v d) (e : kitB (tyD d) c = some b) (q : Q (.bl b) H) : tCB (rIsi K) (tCons (tVar i) (tCons (tC (.ty c)) tNil)) σ H Q := ⟨v, hi, v, .ty c, _, _, b, rfl, .ty c, de_ty h, kit_ty e, q⟩
theorem rd_isi4E {c1 c2 c3 c4 : String} {x y z t' : Bool} (hi : σ[i]? = some (some v)) (h : De K H v d) (e1 : kitB (tyD d) c1 = some x) (e2 : kitB (tyD d) c2 = some y) (e3 : kitB (tyD d) c3 = some z) (e4 : kitB (tyD d) c4 = some t') (q : ∀ H', Same H H' → Q (.bl (x || (y || (z || t')))) H') :
    tCB (rIsiT K) (tCons (tVar i) (tCons (tTup (tCons (tC (.ty c1)) (tCons (tC (.ty c2)) (tCons (tC (.ty c3)) (tCons (tC (.ty c4)) tNil))))) tNil)) σ H Q := by
  refine ⟨v, hi, (by show 4 ≤ sizeLine; decide), fun t nt => ?_⟩
  have st : Same H (upd H t (.tup [.ty c1, .ty c2, .ty c3, .ty c4])) := fun b o e => by
    rw [upd_ne (ne_of_none e nt)]
    exact e
  exact ⟨v, t, _, _, _, _, rfl, upd_same, .cons (.ty c1) (.cons (.ty c2) (.cons (.ty c3) (.cons (.ty c4) .nil))), de_ty (de_s st h), kit_more e1 (kit_more e2 (kit_or e3 (kit_one' e4))), q _ st⟩
theorem rd_isi2E {c1 c2 : String} {x y : Bool} (hi : σ[i]? = some (some v)) (h : De K H v d) (e1 : kitB (tyD d) c1 = some x) (e2 : kitB (tyD d) c2 = some y) (q : ∀ H', Same H H' → Q (.bl (x || y)) H') : tCB (rIsiT K) (tCons (tVar i) (tCons (tTup (tCons (tC (.ty c1)) (tCons (tC (.ty c2)) tNil))) tNil)) σ H Q := by
  refine ⟨v, hi, (by show 2 ≤ sizeLine; decide), fun t nt => ?_⟩
  have st : Same H (upd H t (.tup [.ty c1, .ty c2])) := fun b o e => by
    rw [upd_ne (ne_of_none e nt)]
    exact e
  exact ⟨v, t, _, _, _, _, rfl, upd_same, .cons (.ty c1) (.cons (.ty c2) .nil), de_ty (de_s st h), kit_or e1 (kit_one' e2), q _ st⟩
end
theorem sameEAll_len : ∀ {ds fs : List PyData}, ds.length ≠ fs.length → sameEAll ds fs = false
  | [], [], h => absurd rfl h
  | [], _ :: _, _ => rfl
  | _ :: _, [], _ => rfl
  | d :: ds, f :: fs, h => by
    show (sameE d f && sameEAll ds fs) = false
    rw [sameEAll_len (fun e => h (by rw [List.length_cons, List.length_cons, e]))]
    exact Bool.and_false _
theorem sameEAll_zip : ∀ {ds fs : List PyData}, ds.length = fs.length → (List.zipWith sameE ds fs).all id = sameEAll ds fs
  | [], [], _ => rfl
  | [], _ :: _, h => by cases h
  | _ :: _, [], h => by cases h
  | d :: ds, f :: fs, h => by
    show (sameE d f && (List.zipWith sameE ds fs).all id) = (sameE d f && sameEAll ds fs)
    rw [sameEAll_zip (Nat.succ.inj h)]
theorem deAll_len {K : PySem.W.Frag} {H : Hp} : ∀ {vs : List V} {ds : List PyData}, DeAll K H vs ds → vs.length = ds.length
  | _, _, .nil => rfl
  | _, _, .cons _ t => congrArg Nat.succ (deAll_len t)
theorem deAll_get {K : PySem.W.Frag} {H : Hp} : ∀ {vs : List V} {ds : List PyData} {i : Nat} {v : V}, DeAll K H vs ds → vs[i]? = some v → ∃ d, ds[i]? = some d ∧ De K H v d
  | _, _, _, _, .nil, e => by
    rw [List.getElem?_nil] at e
    cases e
  | _, _, 0, _, .cons a _, e => by
    cases e
    exact ⟨_, rfl, a⟩
  | _ :: vs, _ :: ds, i + 1, v, .cons _ t, e => deAll_get (vs := vs) (ds := ds) (i := i) (v := v) t e
def spSameE (K : PySem.W.Frag) (n : Nat) : Sp := fun vs H Q _ => ∃ (v u : V) (f d : PyData), vs = [v, u] ∧ De K H v f ∧ De K H u d ∧ lenOk d = true ∧ deepE d < n ∧ ∀ H', Same H H' → Q (.bl (sameE d f)) H'
section
variable {w : World} {P : Program} {base : Heap} {K : PySem.W.Frag} {mg : Str → Option Value}
theorem ok_sameE {f : Addr} {fd : FuncData} (F : Fun K "_law_same" "_law_same" sSame f fd) (T : TS4 mg) (g : mg "_law_same" = some (.ref f)) (b : Binds K fd ["_law_found", "_law_due"] []) : ∀ n, FnOk P w K mg base CX0 n f fd ["_law_found", "_law_due"] (spSameE K n)
  | 0 => ⟨fun vs H Q E ⟨_, _, _, _, _, _, _, _, z, _⟩ => absurd z (Nat.not_lt_zero _), fun _ _ _ _ _ _ _ _ _ _ _ _ _ ⟨_, _, _, _, _, _, _, _, z, _⟩ => absurd z (Nat.not_lt_zero _)⟩
  | n + 1 => by
    have G := ok_sameE F T g b n
    refine F.ok scSame (fun vs H Q E h => ?_) (fun cdv A outer s H vs Q E hr h => ?_)
    · obtain ⟨v, u, f, d, rfl, _⟩ := h
      rfl
    · obtain ⟨v, u, fo, d, rfl, hf, hd, ln, dep, kk⟩ := h
      refine ⟨_, pss_cons (ps_if (pt_val (pe_callB call_isiT (by rfl) T.isi (by decide +kernel) (pa_cons (pv 1) (pa_cons (pe_tup (pa_cons (pe_bltn (v := .ty "list") (by rfl) T.list (by decide +kernel) rfl) (pa_cons (pe_bltn (v := .ty "tuple") (by rfl) T.tuple (by decide +kernel) rfl) pa_nil))) pa_nil))))
          (pss_cons (ps_if (PW.pt (pw_or (pt_cmpR op_ne (pe_callB call_isi (by rfl) T.isi (by decide +kernel) (pa_cons (pv 0) (pa_cons (pe_bltn (v := .ty "list") (by rfl) T.list (by decide +kernel) rfl) pa_nil))) (pe_callB call_isi (by rfl) T.isi (by decide +kernel) (pa_cons (pv 1) (pa_cons (pe_bltn (v := .ty "list") (by rfl) T.list (by decide +kernel) rfl) pa_nil))) (nomark _))
              (pw_or1 (pt_cmpR op_ne (pe_callB call_isi (by rfl) T.isi (by decide +kernel) (pa_cons (pv 0) (pa_cons (pe_bltn (v := .ty "tuple") (by rfl) T.tuple (by decide +kernel) rfl) pa_nil))) (pe_callB call_isi (by rfl) T.isi (by decide +kernel) (pa_cons (pv 1) (pa_cons (pe_bltn (v := .ty "tuple") (by rfl) T.tuple (by decide +kernel) rfl) pa_nil))) (nomark _)))))
            (pss_one (ps_ret pe_bl)) pss_nil)
          (pss_one (ps_ret (pe_and (pe_cmpR op_eq (pe_callB call_len_seq (by rfl) T.len PySem.boot_len (pa_cons (pv 0) pa_nil)) (pe_callB call_len_seq (by rfl) T.len PySem.boot_len (pa_cons (pv 1) pa_nil)) (nomark _))
            (pe_one (pe_callB (cr_all rfl) (by rfl) T.all (by decide +kernel) (pa_cons (pe_lc (own := [("_law_x", 2), ("_law_y", 3)]) (g := gTup K 2 (gCons (gName 2) (gCons (gName 3) gNil))) (tt := tYes) (te := tCall (spSameE K n) [] E0 (tCons (tVar 2) (tCons (tVar 3) tNil))) rfl scSame.nd (RZ.pi_zipA (by rfl) T.zip (pa_cons (pv 0) (pa_cons (pv 1) pa_nil)))
              (blkOk_by (own := [("_law_x", 2), ("_law_y", 3)]) (N := ["_law_found", "_law_due", "_law_x", "_law_y"]) (sc := defScope sSame) (by decide +kernel)) (fun _ _ _ _ _ => pg_tup rfl (pgs_cons (pg_name (i := 2) scSame.nd rfl (Or.inl rfl)) (pgs_cons (pg_name (i := 3) scSame.nd rfl (Or.inl rfl)) pgs_nil))) (fun _ _ _ _ _ => pts_nil) (fun _ _ _ _ _ => pe_call G hr (by rfl) g F.kp b .nil pass0 (pa_cons (pv 2) (pa_cons (pv 3) pa_nil)))) pa_nil)))))))
          pss_nil)
        (pss_cons (ps_if (pt_val (pe_callB call_isi (by rfl) T.isi (by decide +kernel) (pa_cons (pv 1) (pa_cons (pe_bltn (v := .ty "dict") (by rfl) T.dict (by decide +kernel) rfl) pa_nil))))
          (pss_one (ps_ret (pe_and (pe_callB call_isi (by rfl) T.isi (by decide +kernel) (pa_cons (pv 0) (pa_cons (pe_bltn (v := .ty "dict") (by rfl) T.dict (by decide +kernel) rfl) pa_nil)))
            (pe_one (pe_call G hr (by rfl) g F.kp b .nil pass0 (pa_cons (LiI.pe_listItems rfl (pv 0) (by rfl) T.list (by decide +kernel)) (pa_cons (LiI.pe_listItems rfl (pv 1) (by rfl) T.list (by decide +kernel)) pa_nil)))))))
          pss_nil)
        (pss_cons (ps_if (pt_val (pe_callB call_isi (by rfl) T.isi (by decide +kernel) (pa_cons (pv 1) (pa_cons (pe_bltn (v := .ty "int") (by rfl) T.int (by decide +kernel) rfl) pa_nil))))
          (pss_one (ps_ret (pe_and (pe_callB call_isi (by rfl) T.isi (by decide +kernel) (pa_cons (pv 0) (pa_cons (pe_bltn (v := .ty "int") (by rfl) T.int (by decide +kernel) rfl) pa_nil)))
            (pe_and (pe_cmpR op_eq (pe_callB call_isi (by rfl) T.isi (by decide +kernel) (pa_cons (pv 0) (pa_cons (pe_bltn (v := .ty "bool") (by rfl) T.bool (by decide +kernel) rfl) pa_nil))) (pe_callB call_isi (by rfl) T.isi (by decide +kernel) (pa_cons (pv 1) (pa_cons (pe_bltn (v := .ty "bool") (by rfl) T.bool (by decide +kernel) rfl) pa_nil))) (nomark _))
            (pe_one (pe_cmpR op_eq (pv 0) (pv 1) (nomark _)))))))
          pss_nil)
        (pss_one (ps_ret (pe_and (pe_not (pe_callB call_isiT (by rfl) T.isi (by decide +kernel) (pa_cons (pv 0) (pa_cons (pe_tup (pa_cons (pe_bltn (v := .ty "int") (by rfl) T.int (by decide +kernel) rfl) (pa_cons (pe_bltn (v := .ty "list") (by rfl) T.list (by decide +kernel) rfl) (pa_cons (pe_bltn (v := .ty "tuple") (by rfl) T.tuple (by decide +kernel) rfl) (pa_cons (pe_bltn (v := .ty "dict") (by rfl) T.dict (by decide +kernel) rfl) pa_nil))))) pa_nil))))
          (pe_one (pe_cmpR op_eq (pv 0) (pv 1) (nomark _)))))))), ?_⟩
      have body : ∀ (H1 : Hp) (ds fs : List PyData) (a c : Addr) (xs ys : List V), Same H H1 → u = .ref a → v = .ref c → DeAll K H ys fs → DeAll K H xs ds → ds.length ≤ 100000 → lenAll ds = true → (∀ e ∈ ds, deepE e < n) → (∀ H', Same H H' → Q (.bl (sameEAll ds fs)) H') →
          ((SqL K H a xs ∧ SqL K H c ys) ∨ (SqT K H a xs ∧ SqT K H c ys)) →
          tAndV (tOp rEq (tCB (fun zs H Q => ∃ p ws, zs = [V.ref p] ∧ (SqL K H p ws ∨ SqT K H p ws) ∧ Q (.int ws.length) H) (tCons (tVar 0) tNil)) (tCB (fun zs H Q => ∃ p ws, zs = [V.ref p] ∧ (SqL K H p ws ∨ SqT K H p ws) ∧ Q (.int ws.length) H) (tCons (tVar 1) tNil)))
            (tCB (rAll K) (tCons (tLc (RZ.iZipA K (tCons (tVar 0) (tCons (tVar 1) tNil))) (gTup K 2 (gCons (gName 2) (gCons (gName 3) gNil))) tYes (tCall (spSameE K n) [] E0 (tCons (tVar 2) (tCons (tVar 3) tNil))) [2, 3]) tNil)) [some v, some u, none, none] H1 Q := by
        rintro H1 ds fs a c xs ys s1 rfl rfl hfs hds short lens dp k sq
        have s1' : ∀ {ws : List V} {p : Addr}, SqL K H p ws → SqL K H1 p ws := fun h => s1.seq h
        have lx := deAll_len hds
        have ly := deAll_len hfs
        have q0 : ∃ p ws, [V.ref c] = [V.ref p] ∧ (SqL K H1 p ws ∨ SqT K H1 p ws) ∧ ws = ys := by
          rcases sq with ⟨_, h⟩ | ⟨_, h⟩
          · exact ⟨c, ys, rfl, .inl (s1.seq h), rfl⟩
          · exact ⟨c, ys, rfl, .inr (sq_s s1 h), rfl⟩
        have q1 : SqL K H1 a xs ∨ SqT K H1 a xs := by
          rcases sq with ⟨h, _⟩ | ⟨h, _⟩
          · exact .inl (s1.seq h)
          · exact .inr (sq_s s1 h)
        have q0' : SqL K H1 c ys ∨ SqT K H1 c ys := by
          rcases sq with ⟨_, h⟩ | ⟨_, h⟩
          · exact .inl (s1.seq h)
          · exact .inr (sq_s s1 h)
        refine ⟨_, rfl, c, ys, rfl, q0', _, rfl, a, xs, rfl, q1, rfl, _, rfl, ?_⟩
        by_cases le : ys.length = xs.length
        · rw [if_pos (decide_eq_true (by rw [le]))]
          have lz : ds.length = fs.length := by omega
          have core : ∀ (J : It), (∀ i H2, Same H1 H2 → i < ys.length → J.go i H2) → (∀ H2, Same H1 H2 → J.stop ys.length H2) → (∀ i H2 x H3, Same H1 H2 → J.yld i H2 x H3 → ∃ T y z, x = .ref T ∧ H2 T = none ∧ H3 = upd H2 T (.tup [y, z]) ∧ ys[i]? = some y ∧ xs[i]? = some z) →
              ∀ D, H1 D = none → ∃ W : Nat → Nat → Hp → Prop, (∃ m, W 0 m (upd H1 D (.lst []))) ∧ ∀ i m H, W i m H → (J.stop i H ∧ rAll K [.ref D] H Q) ∨ (J.go i H ∧ ∃ Nx : Hp → Prop, (∀ H', Nx H' → ∃ m', m' < m ∧ W (i + 1) m' H') ∧ ∀ x H', J.yld i H x H' →
                (gTup K 2 (gCons (gName 2) (gCons (gName 3) gNil))) x (wipe [some (.ref c), some (.ref a), none, none] [2, 3]) H' fun σ2 H2 => wipe σ2 [2, 3] = wipe [some (.ref c), some (.ref a), none, none] [2, 3] ∧ tYes σ2 H2 fun b H3 =>
                if b = true then (tCall (spSameE K n) [] E0 (tCons (tVar 2) (tCons (tVar 3) tNil))) σ2 H3 fun y H4 => ∃ acc, H4 D = some (.lst acc) ∧ acc.length < sizeLine ∧ Nx (upd H4 D (.lst (acc ++ [y]))) else Nx H3) := by
            intro J jgo jstop jyld D hD
            refine lc_any (n := ys.length) (fun i H2 => H2 D = some (.lst (((List.zipWith sameE ds fs).take i).map V.bl)) ∧ Same H1 H2) ⟨upd_same, same_new hD⟩ (fun i H2 lt p => jgo i H2 p.2 lt) (fun H2 p => jstop H2 p.2) ?_ ?_
            · rintro i H2 x H3 lt ⟨h2, s2⟩ y
              obtain ⟨T, p, q, rfl, nT, rfl, ep, eq⟩ := jyld i H2 x H3 s2 y
              obtain ⟨fp, ef, dfp⟩ := deAll_get hfs ep
              obtain ⟨dq, ed, ddq⟩ := deAll_get hds eq
              have s3 : Same H2 (upd H2 T (.tup [p, q])) := same_new nT
              refine ⟨T, [p, q], rfl, .inl (.inl upd_same), rfl, p, [q], rfl, q, [], rfl, rfl, rfl, ?_⟩
              have m1 := Same.trans s1 (Same.trans s2 s3)
              refine ⟨_, rfl, _, rfl, p, q, fp, dq, rfl, de_s m1 dfp, de_s m1 ddq, lenAll_get lens dq (List.mem_of_getElem? ed), dp dq (List.mem_of_getElem? ed), fun H4 s4 => ?_⟩
              refine ⟨_, s4 _ _ (s3 _ _ h2), ?_, ?_, fun b o e => ?_⟩
              · rw [List.length_map, List.length_take, List.length_zipWith]
                have big : 100000 ≤ sizeLine := by decide
                omega
              · have el : (List.zipWith sameE ds fs).take (i + 1) = (List.zipWith sameE ds fs).take i ++ [sameE dq fp] := by
                  rw [List.take_succ, List.getElem?_zipWith, ed, ef]
                  rfl
                rw [upd_same, el, List.map_append]
                rfl
              · rw [upd_ne (ne_of_none e hD)]
                exact s4 _ _ (s3 _ _ (s2 _ _ e))
            · rintro H2 ⟨h2, s2⟩
              have all : (List.zipWith sameE ds fs).take ys.length = List.zipWith sameE ds fs := List.take_of_length_le (by rw [List.length_zipWith]; omega)
              rw [all] at h2
              refine ⟨D, List.zipWith sameE ds fs, rfl, .inl (.inl h2), ?_⟩
              rw [sameEAll_zip lz]
              exact k H2 (Same.trans s1 s2)
          refine ⟨_, rfl, _, rfl, c, a, ys, xs, rfl, ?_⟩
          rcases sq with ⟨ha, hc⟩ | ⟨ha, hc⟩
          · exact .inl ⟨s1.seq hc, s1.seq ha, core (Itz K c a) (fun i H2 s2 lt => ⟨ys, xs, ys[i], xs[i], s2.seq (s1.seq hc), s2.seq (s1.seq ha), List.getElem?_eq_getElem lt, List.getElem?_eq_getElem (by omega)⟩) (fun H2 s2 => ⟨ys, xs, s2.seq (s1.seq hc), s2.seq (s1.seq ha), .inl (Nat.le_refl _)⟩)
              fun i H2 x H3 s2 ⟨T, y, z, e1, e2, e3, e4, e5⟩ => ⟨T, y, z, e1, e2, e3, e4 ys (s2.seq (s1.seq hc)), e5 xs (s2.seq (s1.seq ha))⟩⟩
          · exact .inr ⟨sq_s s1 hc, sq_s s1 ha, core (RZ.ItzT K c a) (fun i H2 s2 lt => ⟨ys, xs, ys[i], xs[i], sq_s s2 (sq_s s1 hc), sq_s s2 (sq_s s1 ha), List.getElem?_eq_getElem lt, List.getElem?_eq_getElem (by omega)⟩) (fun H2 s2 => ⟨ys, xs, sq_s s2 (sq_s s1 hc), sq_s s2 (sq_s s1 ha), .inl (Nat.le_refl _)⟩)
              fun i H2 x H3 s2 ⟨T, y, z, e1, e2, e3, e4, e5⟩ => ⟨T, y, z, e1, e2, e3, e4 ys (sq_s s2 (sq_s s1 hc)), e5 xs (sq_s s2 (sq_s s1 ha))⟩⟩
        · rw [if_neg (fun e => le (by have z := V.int.inj (of_decide_eq_true e); omega))]
          have z := k H1 s1
          rw [sameEAll_len (fun e => le (by omega))] at z
          exact z
      have dl : ∀ {ds : List PyData} {e : PyData}, deepEAll ds + 1 < n + 1 → e ∈ ds → deepE e < n := fun {ds e} lt he => by
        obtain ⟨i, hi⟩ := List.getElem?_of_mem he
        have z := deepE_get hi
        omega
      refine rd_isi2E rfl hd (kd d "list") (kd d "tuple") fun H1 s1 => ⟨_, rfl, ?_⟩
      have q1 : ∀ {Q1 : VK} {H2 : Hp} {c : String} {b : Bool}, Same H H2 → c ∈ ["list", "tuple", "dict", "int", "bool"] → isT (tyD fo) c = b → Q1 (.bl b) H2 → tCB (rIsi K) (tCons (tVar 0) (tCons (tC (.ty c)) tNil)) [some v, some u, none, none] H2 Q1 := fun s2 hc e z => rd_isiE rfl (de_s s2 hf) (e ▸ kd fo _ hc) z
      have q2 : ∀ {Q1 : VK} {H2 : Hp} {c : String} {b : Bool}, Same H H2 → c ∈ ["list", "tuple", "dict", "int", "bool"] → isT (tyD d) c = b → Q1 (.bl b) H2 → tCB (rIsi K) (tCons (tVar 1) (tCons (tC (.ty c)) tNil)) [some v, some u, none, none] H2 Q1 := fun s2 hc e z => rd_isiE rfl (de_s s2 hd) (e ▸ kd d _ hc) z
      cases hd with
      | @lst a xs ds sa da =>
        obtain ⟨short, lens⟩ := len_list ln
        have dep2 : ∀ e ∈ ds, deepE e < n := fun e he => dl dep he
        refine iteT ?_
        cases hf with
        | @lst c ys fs sc dc =>
          refine q1 (b := true) s1 (by simp) rfl (q2 (b := true) s1 (by simp) rfl ⟨rfl, _, rfl, neF rfl ?_⟩)
          refine q1 (b := false) s1 (by simp) rfl (q2 (b := false) s1 (by simp) rfl ⟨rfl, _, rfl, neF rfl ?_⟩)
          exact body H1 ds fs a c xs ys s1 rfl rfl dc da short lens dep2 kk (.inl ⟨sa, sc⟩)
        | @tup c ys fs sc dc => exact q1 (b := false) s1 (by simp) rfl (q2 (b := true) s1 (by simp) rfl ⟨rfl, _, rfl, neT (by decide) (iteT (kk H1 s1))⟩)
        | non => exact q1 (b := false) s1 (by simp) rfl (q2 (b := true) s1 (by simp) rfl ⟨rfl, _, rfl, neT (by decide) (iteT (kk H1 s1))⟩)
        | bl b => exact q1 (b := false) s1 (by simp) rfl (q2 (b := true) s1 (by simp) rfl ⟨rfl, _, rfl, neT (by decide) (iteT (kk H1 s1))⟩)
        | int b => exact q1 (b := false) s1 (by simp) rfl (q2 (b := true) s1 (by simp) rfl ⟨rfl, _, rfl, neT (by decide) (iteT (kk H1 s1))⟩)
        | str b => exact q1 (b := false) s1 (by simp) rfl (q2 (b := true) s1 (by simp) rfl ⟨rfl, _, rfl, neT (by decide) (iteT (kk H1 s1))⟩)
        | dct _ => exact q1 (b := false) s1 (by simp) rfl (q2 (b := true) s1 (by simp) rfl ⟨rfl, _, rfl, neT (by decide) (iteT (kk H1 s1))⟩)
      | @tup a xs ds sa da =>
        obtain ⟨short, lens⟩ := len_tuple ln
        have dep2 : ∀ e ∈ ds, deepE e < n := fun e he => dl dep he
        refine iteT ?_
        cases hf with
        | @tup c ys fs sc dc =>
          refine q1 (b := false) s1 (by simp) rfl (q2 (b := false) s1 (by simp) rfl ⟨rfl, _, rfl, neF rfl ?_⟩)
          refine q1 (b := true) s1 (by simp) rfl (q2 (b := true) s1 (by simp) rfl ⟨rfl, _, rfl, neF rfl ?_⟩)
          exact body H1 ds fs a c xs ys s1 rfl rfl dc da short lens dep2 kk (.inr ⟨sa, sc⟩)
        | @lst c ys fs sc dc => exact q1 (b := true) s1 (by simp) rfl (q2 (b := false) s1 (by simp) rfl ⟨rfl, _, rfl, neT (by decide) (iteT (kk H1 s1))⟩)
        | non => exact q1 (b := false) s1 (by simp) rfl (q2 (b := false) s1 (by simp) rfl ⟨rfl, _, rfl, neF rfl (q1 (b := false) s1 (by simp) rfl (q2 (b := true) s1 (by simp) rfl ⟨rfl, _, rfl, neT (by decide) (kk H1 s1)⟩))⟩)
        | bl b => exact q1 (b := false) s1 (by simp) rfl (q2 (b := false) s1 (by simp) rfl ⟨rfl, _, rfl, neF rfl (q1 (b := false) s1 (by simp) rfl (q2 (b := true) s1 (by simp) rfl ⟨rfl, _, rfl, neT (by decide) (kk H1 s1)⟩))⟩)
        | int b => exact q1 (b := false) s1 (by simp) rfl (q2 (b := false) s1 (by simp) rfl ⟨rfl, _, rfl, neF rfl (q1 (b := false) s1 (by simp) rfl (q2 (b := true) s1 (by simp) rfl ⟨rfl, _, rfl, neT (by decide) (kk H1 s1)⟩))⟩)
        | str b => exact q1 (b := false) s1 (by simp) rfl (q2 (b := false) s1 (by simp) rfl ⟨rfl, _, rfl, neF rfl (q1 (b := false) s1 (by simp) rfl (q2 (b := true) s1 (by simp) rfl ⟨rfl, _, rfl, neT (by decide) (kk H1 s1)⟩))⟩)
        | dct _ => exact q1 (b := false) s1 (by simp) rfl (q2 (b := false) s1 (by simp) rfl ⟨rfl, _, rfl, neF rfl (q1 (b := false) s1 (by simp) rfl (q2 (b := true) s1 (by simp) rfl ⟨rfl, _, rfl, neT (by decide) (kk H1 s1)⟩))⟩)
      | non =>
        refine iteF (q2 (b := false) s1 (by simp) rfl ⟨_, rfl, iteF (q2 (b := false) s1 (by simp) rfl ⟨_, rfl, iteF ?_⟩)⟩)
        refine rd_isi4E rfl (de_s s1 hf) (kd fo "int") (kd fo "list") (kd fo "tuple") (kd fo "dict") fun H2 s2 => ?_
        have s02 := Same.trans s1 s2
        cases hf with
        | non => exact ⟨_, rfl, _, rfl, iteT ⟨_, rfl, _, rfl, rfl, kk H2 s02⟩⟩
        | str b => exact ⟨_, rfl, _, rfl, iteT ⟨_, rfl, _, rfl, rfl, kk H2 s02⟩⟩
        | bl b => exact ⟨_, rfl, _, rfl, iteF (kk H2 s02)⟩
        | int b => exact ⟨_, rfl, _, rfl, iteF (kk H2 s02)⟩
        | lst _ _ => exact ⟨_, rfl, _, rfl, iteF (kk H2 s02)⟩
        | tup _ _ => exact ⟨_, rfl, _, rfl, iteF (kk H2 s02)⟩
        | dct _ => exact ⟨_, rfl, _, rfl, iteF (kk H2 s02)⟩
      | str x =>
        refine iteF (q2 (b := false) s1 (by simp) rfl ⟨_, rfl, iteF (q2 (b := false) s1 (by simp) rfl ⟨_, rfl, iteF ?_⟩)⟩)
        refine rd_isi4E rfl (de_s s1 hf) (kd fo "int") (kd fo "list") (kd fo "tuple") (kd fo "dict") fun H2 s2 => ?_
        have s02 := Same.trans s1 s2
        cases hf with
        | non => exact ⟨_, rfl, _, rfl, iteT ⟨_, rfl, _, rfl, rfl, kk H2 s02⟩⟩
        | str b => exact ⟨_, rfl, _, rfl, iteT ⟨_, rfl, _, rfl, rfl, dec_s ▸ kk H2 s02⟩⟩
        | bl b => exact ⟨_, rfl, _, rfl, iteF (kk H2 s02)⟩
        | int b => exact ⟨_, rfl, _, rfl, iteF (kk H2 s02)⟩
        | lst _ _ => exact ⟨_, rfl, _, rfl, iteF (kk H2 s02)⟩
        | tup _ _ => exact ⟨_, rfl, _, rfl, iteF (kk H2 s02)⟩
        | dct _ => exact ⟨_, rfl, _, rfl, iteF (kk H2 s02)⟩
      | bl x =>
        refine iteF (q2 (b := false) s1 (by simp) rfl ⟨_, rfl, iteF (q2 (b := true) s1 (by simp) rfl ⟨_, rfl, iteT ?_⟩)⟩)
        cases hf with
        | bl b => exact q1 (b := true) s1 (by simp) rfl ⟨_, rfl, iteT (q1 (b := true) s1 (by simp) rfl (q2 (b := true) s1 (by simp) rfl ⟨rfl, _, rfl, eqT rfl ⟨_, rfl, _, rfl, rfl, dec_b ▸ kk H1 s1⟩⟩))⟩
        | int b => exact q1 (b := true) s1 (by simp) rfl ⟨_, rfl, iteT (q1 (b := false) s1 (by simp) rfl (q2 (b := true) s1 (by simp) rfl ⟨rfl, _, rfl, eqF (by decide) (kk H1 s1)⟩))⟩
        | non => exact q1 (b := false) s1 (by simp) rfl ⟨_, rfl, iteF (kk H1 s1)⟩
        | str b => exact q1 (b := false) s1 (by simp) rfl ⟨_, rfl, iteF (kk H1 s1)⟩
        | lst _ _ => exact q1 (b := false) s1 (by simp) rfl ⟨_, rfl, iteF (kk H1 s1)⟩
        | tup _ _ => exact q1 (b := false) s1 (by simp) rfl ⟨_, rfl, iteF (kk H1 s1)⟩
        | dct _ => exact q1 (b := false) s1 (by simp) rfl ⟨_, rfl, iteF (kk H1 s1)⟩
      | int x =>
        refine iteF (q2 (b := false) s1 (by simp) rfl ⟨_, rfl, iteF (q2 (b := true) s1 (by simp) rfl ⟨_, rfl, iteT ?_⟩)⟩)
        cases hf with
        | int b => exact q1 (b := true) s1 (by simp) rfl ⟨_, rfl, iteT (q1 (b := false) s1 (by simp) rfl (q2 (b := false) s1 (by simp) rfl ⟨rfl, _, rfl, eqT rfl ⟨_, rfl, _, rfl, rfl, dec_i ▸ kk H1 s1⟩⟩))⟩
        | bl b => exact q1 (b := true) s1 (by simp) rfl ⟨_, rfl, iteT (q1 (b := true) s1 (by simp) rfl (q2 (b := false) s1 (by simp) rfl ⟨rfl, _, rfl, eqF (by decide) (kk H1 s1)⟩))⟩
        | non => exact q1 (b := false) s1 (by simp) rfl ⟨_, rfl, iteF (kk H1 s1)⟩
        | str b => exact q1 (b := false) s1 (by simp) rfl ⟨_, rfl, iteF (kk H1 s1)⟩
        | lst _ _ => exact q1 (b := false) s1 (by simp) rfl ⟨_, rfl, iteF (kk H1 s1)⟩
        | tup _ _ => exact q1 (b := false) s1 (by simp) rfl ⟨_, rfl, iteF (kk H1 s1)⟩
        | dct _ => exact q1 (b := false) s1 (by simp) rfl ⟨_, rfl, iteF (kk H1 s1)⟩
      | @dct a ha =>
        refine iteF (q2 (b := true) s1 (by simp) rfl ⟨_, rfl, iteT ?_⟩)
        cases hf with
        | @dct c hc =>
          refine q1 (b := true) s1 (by simp) rfl ⟨_, rfl, iteT ?_⟩
          refine ⟨_, rfl, c, [], rfl, s1 _ _ hc, fun H2 p ts s2 _ _ _ hp pr => ?_⟩
          cases pr
          refine ⟨_, rfl, a, [], rfl, s2 _ _ (s1 _ _ ha), fun H3 p' ts s3 _ _ _ hp' pr => ?_⟩
          cases pr
          refine ⟨_, _, .list [], .list [], rfl, .lst (SqL.of (s3 _ _ hp)) .nil, .lst (SqL.of hp') .nil, rfl, ?_, fun H4 s4 => ?_⟩
          · have z : 3 < n + 1 := dep
            show 1 < n
            omega
          · exact kk H4 (Same.trans s1 (Same.trans s2 (Same.trans s3 s4)))
        | non => exact q1 (b := false) s1 (by simp) rfl ⟨_, rfl, iteF (kk H1 s1)⟩
        | bl b => exact q1 (b := false) s1 (by simp) rfl ⟨_, rfl, iteF (kk H1 s1)⟩
        | int b => exact q1 (b := false) s1 (by simp) rfl ⟨_, rfl, iteF (kk H1 s1)⟩
        | str b => exact q1 (b := false) s1 (by simp) rfl ⟨_, rfl, iteF (kk H1 s1)⟩
        | lst _ _ => exact q1 (b := false) s1 (by simp) rfl ⟨_, rfl, iteF (kk H1 s1)⟩
        | tup _ _ => exact q1 (b := false) s1 (by simp) rfl ⟨_, rfl, iteF (kk H1 s1)⟩
end
end Mine
namespace Mine
open PySem L2 PySem.Spec PyProof.Rows Pic
theorem ix_or {X : Cx} {r r' : R2} (h : IxR X r) (h' : IxR X r') : IxR X (fun x y H Q => r x y H Q ∨ r' x y H Q) := by
  intro value slice pins s σ H x y v u Q I rx ry q hs
  rcases q with q | q
  · exact h value slice pins s σ H x y v u Q I rx ry q hs
  · exact h' value slice pins s σ H x y v u Q I rx ry q hs
def SqA (K : PySem.W.Frag) (H : Hp) (a : Addr) (xs : List V) : Prop := SqL K H a xs ∨ SqT K H a xs
theorem sqA_s {K : PySem.W.Frag} {H H' : Hp} {a : Addr} {xs : List V} (k : Same H H') (h : SqA K H a xs) : SqA K H' a xs := by
  rcases h with h | h
  · exact .inl (k.seq h)
  · exact .inr (sq_s k h)
/-! ### comprehensions that only make new things -/
theorem lc_pure {J : It} {n : Nat} {g : TG} {te : TE} {vs : List Nat} {σ : L2.St} {H1 : Hp} {D : Addr} {Qd : Hp → Prop} (ys : List V) (len : ys.length = n) (short : n ≤ 100000) (hD : H1 D = none)
    (go : ∀ i H, i < n → Same H1 H → J.go i H) (stop : ∀ H, Same H1 H → J.stop n H)
    (turn : ∀ i y H x H' (R : VK), ys[i]? = some y → Same H1 H → J.yld i H x H' → (∀ H4, Same H H4 → R y H4) → g x (wipe σ vs) H' fun σ2 H2 => wipe σ2 vs = wipe σ vs ∧ te σ2 H2 R)
    (hd : ∀ H, Same H1 H → H D = some (.lst ys) → Qd H) :
    ∃ W : Nat → Nat → Hp → Prop, (∃ m, W 0 m (upd H1 D (.lst []))) ∧ ∀ i m H, W i m H → (J.stop i H ∧ Qd H) ∨ (J.go i H ∧ ∃ Nx : Hp → Prop, (∀ H', Nx H' → ∃ m', m' < m ∧ W (i + 1) m' H') ∧ ∀ x H', J.yld i H x H' → g x (wipe σ vs) H' fun σ2 H2 => wipe σ2 vs = wipe σ vs ∧ tYes σ2 H2 fun b H3 =>
      if b = true then te σ2 H3 fun y H4 => ∃ acc, H4 D = some (.lst acc) ∧ acc.length < sizeLine ∧ Nx (upd H4 D (.lst (acc ++ [y]))) else Nx H3) := by
  refine lc_any (n := n) (fun i H => H D = some (.lst (ys.take i)) ∧ Same H1 H) ⟨upd_same, same_new hD⟩ (fun i H lt p => go i H lt p.2) (fun H p => stop H p.2) ?_ ?_
  · rintro i H x H2 lt ⟨atD, s1⟩ y
    have lt' : i < ys.length := by omega
    have big : 100000 ≤ sizeLine := by decide
    refine turn i ys[i] H x H2 _ (List.getElem?_eq_getElem lt') s1 y fun H4 s4 => ⟨ys.take i, s4 _ _ atD, ?_, ?_, fun b o e => ?_⟩
    · rw [List.length_take]
      omega
    · rw [upd_same, List.take_succ, List.getElem?_eq_getElem lt']
      rfl
    · rw [upd_ne (ne_of_none e hD)]
      exact s4 _ _ (s1 _ _ e)
  · rintro H ⟨atD, s1⟩
    rw [List.take_of_length_le (by omega)] at atD
    exact hd H s1 atD
theorem lc_over {K : PySem.W.Frag} {i : Nat} {g : TG} {te : TE} {vs : List Nat} {σ : L2.St} {H : Hp} {Q : VK} {a : Addr} {xs : List V} (ys : List V) (hs : σ[i]? = some (some (.ref a))) (hx : SqA K H a xs) (len : ys.length = xs.length) (short : xs.length ≤ 100000)
    (turn : ∀ (j : Nat) (x y : V) (H' : Hp) (R : VK), xs[j]? = some x → ys[j]? = some y → Same H H' → (∀ H4, Same H' H4 → R y H4) → g x (wipe σ vs) H' fun σ2 H2 => wipe σ2 vs = wipe σ vs ∧ te σ2 H2 R)
    (hd : ∀ p H', Same H H' → H p = none → H' p = some (.lst ys) → Q (.ref p) H') : tLc (iSeq K i) g tYes te vs σ H Q := by
  refine ⟨a, hs, ?_⟩
  rcases hx with hx | hx
  · refine .inl ⟨⟨xs, hx⟩, fun D hD => lc_pure (n := xs.length) ys len short hD (fun j H2 lt s2 => ⟨xs, xs[j], s2.seq hx, List.getElem?_eq_getElem lt⟩) (fun H2 s2 => ⟨xs, s2.seq hx, Nat.le_refl _⟩) ?_ (fun H2 s2 at_ => hd D H2 s2 hD at_)⟩
    rintro j y H2 x H3 R ey s2 ⟨rfl, hy⟩ k
    exact turn j x y _ R (hy xs (s2.seq hx)) ey s2 k
  · refine .inr ⟨⟨xs, hx⟩, fun D hD => lc_pure (n := xs.length) ys len short hD (fun j H2 lt s2 => ⟨xs, xs[j], sq_s s2 hx, List.getElem?_eq_getElem lt⟩) (fun H2 s2 => ⟨xs, sq_s s2 hx, Nat.le_refl _⟩) ?_ (fun H2 s2 at_ => hd D H2 s2 hD at_)⟩
    rintro j y H2 x H3 R ey s2 ⟨rfl, hy⟩ k
    exact turn j x y _ R (hy xs (sq_s s2 hx)) ey s2 k
theorem iSeq_of {K : PySem.W.Frag} {i : Nat} {σ : L2.St} {H0 H : Hp} {R : It → Hp → Prop} {a : Addr} {xs : List V} (hs : σ[i]? = some (some (.ref a))) (s0 : Same H0 H) (hx : SqA K H0 a xs)
    (h : ∀ J : It, (∀ j H2, Same H0 H2 → j < xs.length → J.go j H2) → (∀ H2, Same H0 H2 → J.stop xs.length H2) → (∀ j H2 x H3, Same H0 H2 → J.yld j H2 x H3 → H3 = H2 ∧ xs[j]? = some x) → R J H) : iSeq K i σ H R := by
  refine ⟨a, hs, ?_⟩
  rcases hx with hx | hx
  · exact .inl ⟨⟨xs, s0.seq hx⟩, h _ (fun j H2 s2 lt => ⟨xs, xs[j], s2.seq hx, List.getElem?_eq_getElem lt⟩) (fun H2 s2 => ⟨xs, s2.seq hx, Nat.le_refl _⟩) fun j H2 x H3 s2 y => ⟨y.1, y.2 xs (s2.seq hx)⟩⟩
  · exact .inr ⟨⟨xs, sq_s s0 hx⟩, h _ (fun j H2 s2 lt => ⟨xs, xs[j], sq_s s2 hx, List.getElem?_eq_getElem lt⟩) (fun H2 s2 => ⟨xs, sq_s s2 hx, Nat.le_refl _⟩) fun j H2 x H3 s2 y => ⟨y.1, y.2 xs (sq_s s2 hx)⟩⟩
theorem flat_take (yss : List (List V)) (i : Nat) (ys : List V) (e : yss[i]? = some ys) : (yss.take (i + 1)).flatten = (yss.take i).flatten ++ ys := by
  rw [List.take_succ, e, List.flatten_append]
  simp
theorem flat_le : ∀ (yss : List (List V)) (i : Nat) (ys : List V), yss[i]? = some ys → (yss.take i).flatten.length + ys.length ≤ (yss.map List.length).sum
  | [], i, ys, e => by
    rw [List.getElem?_nil] at e
    cases e
  | z :: yss, 0, ys, e => by
    cases e
    simp
  | z :: yss, i + 1, ys, e => by
    have h := flat_le yss i ys e
    simp only [List.take_succ_cons, List.flatten_cons, List.length_append, List.map_cons, List.sum_cons]
    omega
theorem lc2_over {K : PySem.W.Frag} {i k m : Nat} {te : TE} {σ : L2.St} {H : Hp} {Q : VK} {a : Addr} {xs : List V} (yss : List (List V)) (hs : σ[i]? = some (some (.ref a))) (hx : SqA K H a xs) (len : yss.length = xs.length) (short : (yss.map List.length).sum ≤ 100000)
    (w1 : ∀ x : V, wipe ((wipe σ [k, m]).set k (some x)) [k, m] = wipe σ [k, m]) (g1 : ∀ x : V, ((wipe σ [k, m]).set k (some x))[k]? = some (some x)) (w2 : ∀ x z : V, wipe ((wipe ((wipe σ [k, m]).set k (some x)) [m]).set m (some z)) [m] = wipe ((wipe σ [k, m]).set k (some x)) [m])
    (rows : ∀ (j : Nat) (x : V) (ys : List V), xs[j]? = some x → yss[j]? = some ys → ∃ b zs, x = .ref b ∧ SqA K H b zs ∧ ys.length = zs.length ∧
      ∀ (l : Nat) (z y : V) (H' : Hp) (R : VK), zs[l]? = some z → ys[l]? = some y → Same H H' → (∀ H4, Same H' H4 → R y H4) → te ((wipe ((wipe σ [k, m]).set k (some x)) [m]).set m (some z)) H' R)
    (hd : ∀ p H', Same H H' → H p = none → H' p = some (.lst yss.flatten) → Q (.ref p) H') : tLc2 (iSeq K i) (gName k) tYes (iSeq K k) (gName m) tYes te [k, m] [m] σ H Q := by
  have big : 100000 < sizeLine := by decide
  refine iSeq_of hs (Same.refl H) hx fun J go stop yld D hD => ?_
  refine ⟨fun i mm H2 => mm + i = xs.length ∧ H2 D = some (.lst (yss.take i).flatten) ∧ Same H H2, ⟨xs.length, rfl, upd_same, same_new hD⟩, fun i mm H2 hw => ?_⟩
  obtain ⟨le, atD, s2⟩ := hw
  match mm, le with
  | 0, le =>
    have e : i = xs.length := by omega
    subst e
    rw [List.take_of_length_le (by omega)] at atD
    exact .inl ⟨stop H2 s2, hd D H2 s2 hD atD⟩
  | mm + 1, le =>
    have lt : i < xs.length := by omega
    have ey := List.getElem?_eq_getElem (l := yss) (i := i) (by omega)
    generalize yss[i]'(by omega) = ys at ey
    refine .inr ⟨go i H2 s2 lt, fun H3 => H3 D = some (.lst (yss.take (i + 1)).flatten) ∧ Same H H3, fun H3 p => ⟨mm, Nat.lt_succ_self _, by omega, p.1, p.2⟩, fun x H3 y => ?_⟩
    obtain ⟨rfl, ex⟩ := yld i H2 x H3 s2 y
    obtain ⟨b, zs, rfl, hb, lz, turn⟩ := rows i x ys ex ey
    refine ⟨w1 _, ?_⟩
    have fl := flat_le yss i ys ey
    dsimp only [tYes]
    refine iteT (iSeq_of (g1 _) s2 hb fun J1 go1 stop1 yld1 => ?_)
    refine ⟨fun j kk H4 => kk + j = zs.length ∧ H4 D = some (.lst ((yss.take i).flatten ++ ys.take j)) ∧ Same H H4, ⟨zs.length, rfl, by rw [List.take_zero, List.append_nil]; exact atD, s2⟩, fun j kk H4 hw => ?_⟩
    obtain ⟨le1, at1, s4⟩ := hw
    match kk, le1 with
    | 0, le1 =>
      have e : j = zs.length := by omega
      subst e
      rw [List.take_of_length_le (l := ys) (by omega)] at at1
      refine .inl ⟨stop1 H4 s4, ?_, s4⟩
      rw [flat_take yss i ys ey]
      exact at1
    | kk + 1, le1 =>
      have lt1 : j < zs.length := by omega
      have ez := List.getElem?_eq_getElem (l := ys) (i := j) (by omega)
      generalize ys[j]'(by omega) = y2 at ez
      refine .inr ⟨go1 j H4 s4 lt1, fun H5 => H5 D = some (.lst ((yss.take i).flatten ++ ys.take (j + 1))) ∧ Same H H5, fun H5 p => ⟨kk, Nat.lt_succ_self _, by omega, p.1, p.2⟩, fun z H5 yy => ?_⟩
      obtain ⟨rfl, ez2⟩ := yld1 j H4 z H5 s4 yy
      refine ⟨w2 _ _, iteT (turn j z y2 _ _ ez2 ez s4 fun H6 s6 => ⟨_, s6 _ _ at1, ?_, ?_, fun b o e => ?_⟩)⟩
      · rw [List.length_append, List.length_take]
        omega
      · rw [upd_same, List.take_succ, ez, List.append_assoc]
        rfl
      · rw [upd_ne (ne_of_none e hD)]
        exact s6 _ _ (s4 _ _ e)
/-! ### what a picture is -/
def rowsOf : PyData → Option (List PyData)
  | .list ds => some ds
  | .tuple ds => some ds
  | _ => none
def isInt : PyData → Bool
  | .int _ => true
  | _ => false
def lenD (d : PyData) : Nat := ((rowsOf d).getD []).length
def picD (d : PyData) : Bool := match rowsOf d with
  | none => false
  | some rs => rs.all (fun r => (rowsOf r).isSome) && (rs.all (fun r => decide (0 < lenD r) && decide (lenD r = lenD (rs.headD .none))) && (rs.map fun r => (rowsOf r).getD []).flatten.all isInt)
/-- no more than so many things within -/
def fits (d : PyData) : Bool := Nat.ble (((rowsOf d).getD []).map lenD).sum 100000
theorem rows_sq {K : PySem.W.Frag} {H : Hp} {v : V} {d : PyData} {ds : List PyData} (h : De K H v d) (e : rowsOf d = some ds) : ∃ a xs, v = .ref a ∧ SqA K H a xs ∧ DeAll K H xs ds := by
  cases h with
  | lst s t =>
    cases e
    exact ⟨_, _, rfl, .inl s, t⟩
  | tup s t =>
    cases e
    exact ⟨_, _, rfl, .inr s, t⟩
  | non => cases e
  | bl b => cases e
  | int b => cases e
  | str b => cases e
  | dct b => cases e
theorem rows_ty (d : PyData) : (isT (tyD d) "list" || isT (tyD d) "tuple") = (rowsOf d).isSome := by
  cases d <;> rfl
theorem len_rows {d : PyData} {ds : List PyData} (h : lenOk d = true) (e : rowsOf d = some ds) : ds.length ≤ 100000 ∧ lenAll ds = true := by
  cases d with
  | list _ =>
    cases e
    exact len_list h
  | tuple _ =>
    cases e
    exact len_tuple h
  | _ => cases e
abbrev sIsL : Stmt := top 6
abbrev sIsI : Stmt := top 7
abbrev sIsP : Stmt := top 9
abbrev sNeedP : Stmt := top 10
def spIsL (K : PySem.W.Frag) : Sp := fun vs H Q _ => ∃ v d, vs = [v] ∧ De K H v d ∧ ∀ H', Same H H' → Q (.bl (rowsOf d).isSome) H'
def spIsI (K : PySem.W.Frag) : Sp := fun vs H Q _ => ∃ v d, vs = [v] ∧ De K H v d ∧ ∀ H', Same H H' → Q (.bl (isInt d)) H'
section
variable {w : World} {P : Program} {base : Heap} {K : PySem.W.Frag} {mg : Str → Option Value}
theorem scIsL : FnScope ["thing"] ["thing"] (defScope sIsL) := ⟨rfl, rfl, rfl, by decide +kernel, rfl, by decide +kernel, by decide +kernel⟩
theorem scIsI : FnScope ["thing"] ["thing"] (defScope sIsI) := ⟨rfl, rfl, rfl, by decide +kernel, rfl, by decide +kernel, by decide +kernel⟩
theorem ok_isL {f : Addr} {fd : FuncData} (F : Fun K "is_list" "is_list" sIsL f fd) (T : TS4 mg) : FnOk P w K mg base CX0 1 f fd ["thing"] (spIsL K) := by
  refine F.ok (k := 0) scIsL (fun vs H Q E h => ?_) (fun cdv A outer s H vs Q E hr h => ?_)
  · obtain ⟨v, d, rfl, _⟩ := h
    rfl
  · obtain ⟨v, d, rfl, hd, kk⟩ := h
    refine ⟨_, pss_one (ps_ret (pe_callB call_isiT (by rfl) T.isi (by decide +kernel) (pa_cons (pv 0) (pa_cons (pe_tup (pa_cons (pe_bltn (v := .ty "list") (by rfl) T.list (by decide +kernel) rfl) (pa_cons (pe_bltn (v := .ty "tuple") (by rfl) T.tuple (by decide +kernel) rfl) pa_nil))) pa_nil)))), ?_⟩
    refine rd_isi2E rfl hd (kd d "list") (kd d "tuple") fun H1 s1 => ?_
    rw [rows_ty]
    exact kk H1 s1
theorem ok_isI {f : Addr} {fd : FuncData} (F : Fun K "is_integer" "is_integer" sIsI f fd) (T : TS4 mg) : FnOk P w K mg base CX0 1 f fd ["thing"] (spIsI K) := by
  refine F.ok (k := 0) scIsI (fun vs H Q E h => ?_) (fun cdv A outer s H vs Q E hr h => ?_)
  · obtain ⟨v, d, rfl, _⟩ := h
    rfl
  · obtain ⟨v, d, rfl, hd, kk⟩ := h
    refine ⟨_, pss_one (ps_ret (pe_and (pe_callB call_isi (by rfl) T.isi (by decide +kernel) (pa_cons (pv 0) (pa_cons (pe_bltn (v := .ty "int") (by rfl) T.int (by decide +kernel) rfl) pa_nil)))
      (pe_one (pe_not (pe_callB call_isi (by rfl) T.isi (by decide +kernel) (pa_cons (pv 0) (pa_cons (pe_bltn (v := .ty "bool") (by rfl) T.bool (by decide +kernel) rfl) pa_nil))))))), ?_⟩
    refine rd_isiE rfl hd (kd d "int") ⟨_, rfl, ?_⟩
    cases d with
    | int i => exact iteT (rd_isiE rfl hd (kd (.int i) "bool") ⟨_, rfl, kk H (Same.refl H)⟩)
    | bool b => exact iteT (rd_isiE rfl hd (kd (.bool b) "bool") ⟨_, rfl, kk H (Same.refl H)⟩)
    | none => exact iteF (kk H (Same.refl H))
    | str b => exact iteF (kk H (Same.refl H))
    | list b => exact iteF (kk H (Same.refl H))
    | tuple b => exact iteF (kk H (Same.refl H))
    | dict b => exact iteF (kk H (Same.refl H))
end
end Mine
namespace Mine
open PySem L2 PySem.Spec PyProof.Rows Pic
/-- a def that keeps a promise, by its name -/
def Kn (P : Program) (w : World) (K : PySem.W.Frag) (mg : Str → Option Value) (base : Heap) (CX : CXT) (k : Nat) (x : Str) (ps : List Str) (sp : Sp) : Prop := ∃ (f : Addr) (fd : FuncData), FnOk P w K mg base CX k f fd ps sp ∧ mg x = some (.ref f) ∧ PySem.W.keepIn K (.ref f) = true ∧ Binds K fd ps []
section
variable {w : World} {P : Program} {base : Heap} {K : PySem.W.Frag} {mg : Str → Option Value}
theorem scIsP : FnScope ["thing", "row", "shade"] ["thing"] (defScope sIsP) := ⟨rfl, rfl, rfl, by decide +kernel, rfl, by decide +kernel, by decide +kernel⟩
def spIsP (K : PySem.W.Frag) : Sp := fun vs H Q _ => ∃ v d, vs = [v] ∧ De K H v d ∧ lenOk d = true ∧ fits d = true ∧ ∀ H', Same H H' → Q (.bl (picD d)) H'
theorem bl_get {f : PyData → Bool} {rs : List PyData} {j : Nat} {y : V} {d : PyData} (ed : rs[j]? = some d) (ey : ((rs.map f).map V.bl)[j]? = some y) : y = .bl (f d) := by
  rw [List.getElem?_map, List.getElem?_map, ed] at ey
  exact (Option.some.inj ey).symm
/-- a turn of rows and items within -/
theorem ok_isP {f : Addr} {fd : FuncData} (F : Fun K "is_picture" "is_picture" sIsP f fd) (T : TS4 mg) (KL : Kn P w K mg base CX0 1 "is_list" ["thing"] (spIsL K)) (KI : Kn P w K mg base CX0 1 "is_integer" ["thing"] (spIsI K)) : FnOk P w K mg base CX0 2 f fd ["thing"] (spIsP K) := by
  obtain ⟨fL, fdL, GL, gL, kL, bL⟩ := KL
  obtain ⟨fI, fdI, GI, gI, kI, bI⟩ := KI
  refine F.ok scIsP (fun vs H Q E h => ?_) (fun cdv A outer s H vs Q E hr h => ?_)
  · obtain ⟨v, d, rfl, _⟩ := h
    rfl
  · obtain ⟨v, d, rfl, hd, ln, ft, kk⟩ := h
    refine ⟨_, pss_cons (ps_if (PW.pt (pw_or (pt_not (pt_val (pe_call GL hr (by rfl) gL kL bL .nil pass0 (pa_cons (pv 0) pa_nil)))) (pw_or1 (pt_not (pt_val (pe_callB (cr_all rfl) (by rfl) T.all (by decide +kernel) (pa_cons
          (pe_lc (own := [("row", 1)]) (g := gName 1) (tt := tYes) (te := tCall (spIsL K) [] E0 (tCons (tVar 1) tNil)) rfl scIsP.nd (pi_seq (pv 0)) (blkOk_by (own := [("row", 1)]) (N := ["thing", "row", "shade"]) (sc := defScope sIsP) (by decide +kernel)) (fun _ _ _ _ _ => pg_name (i := 1) scIsP.nd rfl (Or.inl rfl)) (fun _ _ _ _ _ => pts_nil)
            (fun _ _ _ _ _ => pe_call GL hr (by rfl) gL kL bL .nil pass0 (pa_cons (pv 1) pa_nil))) pa_nil)))))))
        (pss_one (ps_ret pe_bl)) pss_nil)
      (pss_cons (ps_if (pt_not (pt_val (pe_callB (cr_all rfl) (by rfl) T.all (by decide +kernel) (pa_cons
          (pe_lc (own := [("row", 1)]) (g := gName 1) (tt := tYes) (te := tAndV (tOp (rI0 fun (i j : Int) => V.bl (decide (j < i))) (tCB (rLenQ K) (tCons (tVar 1) tNil)) (tC (.int 0))) (tOp rEq (tCB (rLenQ K) (tCons (tVar 1) tNil)) (tCB (rLenQ K) (tCons (tOp (fun x y H Q => rIxL K x y H Q ∨ rIxT K x y H Q) (tVar 0) (tC (.int 0))) tNil)))) rfl scIsP.nd (pi_seq (pv 0)) (blkOk_by (own := [("row", 1)]) (N := ["thing", "row", "shade"]) (sc := defScope sIsP) (by decide +kernel)) (fun _ _ _ _ _ => pg_name (i := 1) scIsP.nd rfl (Or.inl rfl)) (fun _ _ _ _ _ => pts_nil)
            (fun _ _ _ _ _ => pe_and (pe_cmpR op_gt (pe_callB call_len_seq (by rfl) T.len PySem.boot_len (pa_cons (pv 1) pa_nil)) pe_int (nomark _)) (pe_one (pe_cmpR op_eq (pe_callB call_len_seq (by rfl) T.len PySem.boot_len (pa_cons (pv 1) pa_nil)) (pe_callB call_len_seq (by rfl) T.len PySem.boot_len (pa_cons (pe_ix (ix_or ix_list ix_tup) (pv 0) pe_int (fun _ _ => rfl)) pa_nil)) (nomark _))))) pa_nil))))
        (pss_one (ps_ret pe_bl)) pss_nil)
      (pss_one (ps_ret (pe_callB (cr_all rfl) (by rfl) T.all (by decide +kernel) (pa_cons
          (pe_lc2 (own := [("row", 1), ("shade", 2)]) (vs1 := [2]) (g := gName 1) (tt := tYes) (wi1 := iSeq K 1) (g1 := gName 2) (tt1 := tYes) (te := tCall (spIsI K) [] E0 (tCons (tVar 2) tNil)) rfl scIsP.nd (pi_seq (pv 0)) (blkOk_by (own := [("row", 1), ("shade", 2)]) (N := ["thing", "row", "shade"]) (sc := defScope sIsP) (by decide +kernel)) (by decide) (fun _ _ _ _ _ => pg_name (i := 1) scIsP.nd rfl (Or.inl rfl)) (fun _ _ _ _ _ => pts_nil)
            (fun _ _ _ _ _ => pi_seq (pv 1)) (fun _ _ _ _ _ => pg_name (i := 2) scIsP.nd rfl (Or.inl rfl)) (fun _ _ _ _ _ => pts_nil) (fun _ _ _ _ _ => pe_call GI hr (by rfl) gI kI bI .nil pass0 (pa_cons (pv 2) pa_nil))) pa_nil))))), ?_⟩
    refine ⟨_, rfl, v, d, rfl, hd, fun H1 s1 => ⟨_, rfl, ?_⟩⟩
    unfold picD at kk
    cases er : rowsOf d with
    | none =>
      rw [er] at kk
      exact iteT (iteT (kk _ s1))
    | some rs =>
      rw [er] at kk
      dsimp only at kk
      obtain ⟨a, xs, rfl, hx, hds⟩ := rows_sq hd er
      obtain ⟨short, lens⟩ := len_rows ln er
      have lx := deAll_len hds
      refine iteF ?_
      dsimp only [tNot, tB, tCB, tCons, tNil]
      refine lc_over ((rs.map fun r => (rowsOf r).isSome).map V.bl) rfl (sqA_s s1 hx) (by rw [List.length_map, List.length_map, lx]) (by omega) (fun j x y H2 R ex ey s2 k => ?_) fun p H2 s2 np hp => ?_
      · obtain ⟨di, ed, hdi⟩ := deAll_get hds ex
        rw [bl_get ed ey] at k
        exact ⟨rfl, _, rfl, x, di, rfl, de_s (Same.trans s1 s2) hdi, k⟩
      · have s02 := Same.trans s1 s2
        refine ⟨p, rs.map fun r => (rowsOf r).isSome, rfl, .inl (.inl hp), _, rfl, ?_⟩
        have ea : (rs.map fun r => (rowsOf r).isSome).all id = rs.all fun r => (rowsOf r).isSome := List.all_map
        rw [ea]
        cases e1 : rs.all fun r => (rowsOf r).isSome with
        | false =>
          rw [e1] at kk
          exact iteT (kk _ s02)
        | true =>
          rw [e1] at kk
          refine iteF ?_
          have row : ∀ {j : Nat} {x : V} {H3 : Hp}, xs[j]? = some x → Same H H3 → ∃ b zs es, x = .ref b ∧ SqA K H3 b zs ∧ DeAll K H3 zs es ∧ ∃ di, rs[j]? = some di ∧ rowsOf di = some es ∧ zs.length = lenD di := fun {j x H3} ex s3 => by
            obtain ⟨di, ed, hdi⟩ := deAll_get hds ex
            have som := List.all_eq_true.mp e1 di (List.mem_of_getElem? ed)
            obtain ⟨es, ee⟩ := Option.isSome_iff_exists.mp som
            obtain ⟨b, zs, rfl, hb, hz⟩ := rows_sq (de_s s3 hdi) ee
            refine ⟨b, zs, es, rfl, hb, hz, di, ed, ee, ?_⟩
            unfold lenD
            rw [ee]
            exact deAll_len hz
          dsimp only [tNext, tSeq, tIfS, tRet, tNot, tB, tCB, tCons, tNil]
          refine lc_over ((rs.map fun r => decide (0 < lenD r) && decide (lenD r = lenD (rs.headD .none))).map V.bl) rfl (sqA_s s02 hx) (by rw [List.length_map, List.length_map, lx]) (by omega) (fun j x y H3 R ex ey s3 k => ?_) fun p2 H3 s3 np2 hp2 => ?_
          · have s03 := Same.trans s02 s3
            obtain ⟨b, zs, es, rfl, hb, hz, di, ed, ee, lz⟩ := row ex s03
            rw [bl_get ed ey] at k
            refine ⟨rfl, _, rfl, b, zs, rfl, hb, _, _, rfl, rfl, _, rfl, ?_⟩
            rw [lz]
            by_cases pos : 0 < lenD di
            · rw [decide_eq_true pos, Bool.true_and] at k
              rw [decide_eq_true (show (0 : Int) < ((lenD di : Nat) : Int) by omega)]
              have l0 : 0 < xs.length := by
                have z := (List.getElem?_eq_some_iff.mp ex).1
                omega
              obtain ⟨b0, zs0, es0, e0, hb0, hz0, d0, ed0, ee0, lz0⟩ := row (List.getElem?_eq_getElem l0) s03
              have eh : rs.headD .none = d0 := by
                cases rs with
                | nil => cases ed0
                | cons r rs => exact Option.some.inj ed0
              have fin : rLenQ K [xs[0]] H3 fun v H => rEq (.int (zs.length : Nat)) v H R := by
                refine ⟨b0, zs0, by rw [e0], hb0, rfl, ?_⟩
                rw [lz, lz0, dec_i]
                rw [eh] at k
                have e2 : decide ((lenD di : Int) = (lenD d0 : Int)) = decide (lenD di = lenD d0) := by
                  by_cases q : lenD di = lenD d0
                  · rw [decide_eq_true q, decide_eq_true (by omega)]
                  · rw [decide_eq_false q, decide_eq_false (by omega)]
                rw [e2]
                exact k H3 (Same.refl _)
              refine iteT ⟨_, rfl, b, zs, rfl, hb, _, rfl, ?_⟩
              rcases sqA_s s03 hx with h | h
              · exact .inl ⟨a, xs, 0, xs[0], rfl, rfl, h, atI_nat (j := 0) (List.getElem?_eq_getElem l0), fin⟩
              · exact .inr ⟨a, xs, 0, xs[0], rfl, rfl, h, atI_nat (j := 0) (List.getElem?_eq_getElem l0), fin⟩
            · rw [decide_eq_false pos, Bool.false_and] at k
              rw [decide_eq_false (show ¬ (0 : Int) < ((lenD di : Nat) : Int) by omega)]
              exact iteF (k H3 (Same.refl _))
          · have s03 := Same.trans s02 s3
            refine ⟨p2, rs.map fun r => decide (0 < lenD r) && decide (lenD r = lenD (rs.headD .none)), rfl, .inl (.inl hp2), _, rfl, ?_⟩
            have eb : (rs.map fun r => decide (0 < lenD r) && decide (lenD r = lenD (rs.headD .none))).all id = rs.all fun r => decide (0 < lenD r) && decide (lenD r = lenD (rs.headD .none)) := List.all_map
            rw [eb]
            cases e2 : rs.all fun r => decide (0 < lenD r) && decide (lenD r = lenD (rs.headD .none)) with
            | false =>
              rw [e2] at kk
              exact iteT (kk _ s03)
            | true =>
              rw [e2, Bool.true_and, Bool.true_and] at kk
              refine iteF ?_
              refine lc2_over (rs.map fun r => (((rowsOf r).getD []).map isInt).map V.bl) rfl (sqA_s s03 hx) (by rw [List.length_map, lx]) ?_ (fun _ => rfl) (fun _ => rfl) (fun _ _ => rfl) (fun j x ys ex ey => ?_) fun p3 H4 s4 np3 hp3 => ?_
              · have z : Nat.ble (((rowsOf d).getD []).map lenD).sum 100000 = true := ft
                rw [er] at z
                have z2 := Nat.le_of_ble_eq_true z
                rw [List.map_map]
                have e3 : (List.length ∘ fun r => (((rowsOf r).getD []).map isInt).map V.bl) = lenD := by
                  funext r
                  show ((((rowsOf r).getD []).map isInt).map V.bl).length = _
                  rw [List.length_map, List.length_map]
                  rfl
                rw [e3]
                exact z2
              · obtain ⟨b, zs, es, rfl, hb, hz, di, ed, ee, lz⟩ := row ex s03
                rw [List.getElem?_map, ed] at ey
                have ey2 : ((((rowsOf di).getD []).map isInt).map V.bl) = ys := Option.some.inj ey
                rw [ee] at ey2
                refine ⟨b, zs, rfl, hb, ?_, fun l z y H5 R ez ey s5 k => ?_⟩
                · rw [← ey2, List.length_map, List.length_map]
                  exact (deAll_len hz).symm
                · obtain ⟨dz, edz, hdz⟩ := deAll_get hz ez
                  rw [← ey2] at ey
                  rw [bl_get edz ey] at k
                  exact ⟨_, rfl, z, dz, rfl, de_s s5 hdz, k⟩
              · have e3 : (rs.map fun r => (((rowsOf r).getD []).map isInt).map V.bl).flatten = ((rs.map fun r => (rowsOf r).getD []).flatten.map isInt).map V.bl := by
                  rw [List.map_flatten, List.map_flatten, List.map_map, List.map_map]
                  rfl
                rw [e3] at hp3
                refine ⟨p3, (rs.map fun r => (rowsOf r).getD []).flatten.map isInt, rfl, .inl (.inl hp3), ?_⟩
                have ec : ((rs.map fun r => (rowsOf r).getD []).flatten.map isInt).all id = (rs.map fun r => (rowsOf r).getD []).flatten.all isInt := List.all_map
                rw [ec]
                exact kk _ (Same.trans s03 s4)
end
end Mine
namespace Mine
open PySem L2 PySem.Spec PyProof.Rows Pic
/-! ### an integer's text -/
theorem int_text (i : Int) : ((toString i : String) : Str) = ⟨(intL i).toArray⟩ := by
  have nn : ∀ j : Int, 0 ≤ j → ((toString j : String) : Str) = ⟨(natL j.natAbs).toArray⟩ := fun j h => by
    obtain ⟨m, rfl⟩ := Int.eq_ofNat_of_zero_le h
    exact text_ofNat m
  unfold intL
  by_cases h : i < 0
  · rw [if_pos h]
    have z := nn (0 - i) (by omega)
    have e : (0 - i).natAbs = i.natAbs := by omega
    rw [e] at z
    refine TL.ext_tl ?_
    have e2 : TL.tl (Str.ofString (toString i)) = 45 :: TL.tl (Str.ofString (toString (0 - i))) := by
      rw [TL.tl_ofString, TL.tl_ofString, toString_neg h, String.toList_append, List.map_append]
      rfl
    have e3 : TL.tl (Str.ofString (toString (0 - i))) = natL i.natAbs := congrArg TL.tl z
    rw [e3] at e2
    exact e2
  · rw [if_neg h]
    exact nn i (by omega)
theorem log2_small {n : Nat} (h : n < 10 ^ 16) : n.log2 < 1920 := by
  by_cases h0 : n = 0
  · rw [h0]
    decide
  · exact (Nat.log2_lt h0).mpr (Nat.lt_of_lt_of_le h (by decide))
theorem intL_len {i : Int} (h : i.natAbs < 10 ^ 16) : (intL i).length ≤ 17 := by
  have z := natL_len h
  unfold intL
  split
  · rw [List.length_cons]
    omega
  · omega
theorem rowL_join : ∀ r : List Int, rowL r = TL.joinL [32] (r.map intL) ++ [10]
  | [] => rfl
  | [i] => by
    show intL i ++ [10] = _
    rfl
  | i :: j :: r => by
    have ih := rowL_join (j :: r)
    show intL i ++ (32 :: (intL j ++ moreL r)) = (intL i ++ ([32] ++ TL.joinL [32] ((j :: r).map intL))) ++ [10]
    have e : intL j ++ moreL r = rowL (j :: r) := rfl
    rw [e, ih, List.append_assoc, List.append_assoc]
    rfl
theorem sum_le {α : Type} {f : α → Nat} {k : Nat} : ∀ {l : List α}, (∀ x ∈ l, f x ≤ k) → (l.map f).sum ≤ k * l.length
  | [], _ => Nat.zero_le _
  | x :: l, h => by
    have h1 := h x (List.mem_cons_self ..)
    have h2 := sum_le (l := l) fun y hy => h y (List.mem_cons_of_mem _ hy)
    simp only [List.map_cons, List.sum_cons, List.length_cons, Nat.mul_add, Nat.mul_one]
    omega
theorem joinL_len (S : List Nat) : ∀ l : List (List Nat), (TL.joinL S l).length ≤ (l.map List.length).sum + l.length * S.length
  | [] => Nat.zero_le _
  | [x] => by
    show x.length ≤ _
    simp only [List.map_cons, List.map_nil, List.sum_cons, List.sum_nil]
    omega
  | x :: y :: r => by
    have h := joinL_len S (y :: r)
    show (x ++ (S ++ TL.joinL S (y :: r))).length ≤ _
    rw [List.length_append, List.length_append]
    simp only [List.map_cons, List.sum_cons, List.length_cons, Nat.succ_mul] at h ⊢
    omega
/-- not too great a picture -/
def Small (rows : List (List Int)) : Prop := rows.length ≤ 200 ∧ ∀ r ∈ rows, r.length ≤ 200 ∧ ∀ i ∈ r, i.natAbs < 10 ^ 16
theorem rowL_len {r : List Int} (h1 : r.length ≤ 200) (h2 : ∀ i ∈ r, i.natAbs < 10 ^ 16) : (rowL r).length ≤ 3601 := by
  rw [rowL_join, List.length_append]
  have z := joinL_len [32] (r.map intL)
  have y : ((r.map intL).map List.length).sum ≤ 17 * (r.map intL).length := sum_le fun x hx => by
    obtain ⟨i, hi, rfl⟩ := List.mem_map.1 hx
    exact intL_len (h2 i hi)
  rw [List.length_map] at y z
  simp only [List.length_cons, List.length_nil] at z ⊢
  omega
abbrev tS (l : List Nat) : Str := ⟨l.toArray⟩
theorem tS_len (l : List Nat) : (tS l).length = l.length := SX.S_len l
/-! ### need_picture, row_text, picture_text -/
abbrev sRowT : Stmt := top 19
abbrev sPicT : Stmt := top 18
/-- BadPicture(v) is in flight, its dict at d, all else as it was -/
def FliesP (E : XK) (B : Addr) (H : Hp) (v : V) : Prop := ∀ d H', H d = none → Same H H' → H' d = some (.xd [("thing", v)]) → E (.ref B) (some d) H'
structure TR4 (mg : Str → Option Value) : Prop where
  str : mg "str" = none
section
variable {w : World} {P : Program} {base : Heap} {K : PySem.W.Frag} {mg : Str → Option Value} {B : Addr}
theorem scNeed : FnScope ["picture"] ["picture"] (defScope sNeedP) := ⟨rfl, rfl, rfl, by decide +kernel, rfl, by decide +kernel, by decide +kernel⟩
theorem scRowT : FnScope ["row", "shade"] ["row"] (defScope sRowT) := ⟨rfl, rfl, rfl, by decide +kernel, rfl, by decide +kernel, by decide +kernel⟩
theorem scPicT : FnScope ["picture", "row"] ["picture"] (defScope sPicT) := ⟨rfl, rfl, rfl, by decide +kernel, rfl, by decide +kernel, by decide +kernel⟩
def spNeed (K : PySem.W.Frag) (B : Addr) : Sp := fun vs H Q E => ∃ v d, vs = [v] ∧ De K H v d ∧ lenOk d = true ∧ fits d = true ∧ (picD d = true → ∀ H', Same H H' → Q .non H') ∧ (picD d = false → FliesP E B H v)
theorem FliesP.more {E : XK} {H H1 : Hp} {v : V} (f : FliesP E B H v) (s : Same H H1) : FliesP E B H1 v := fun d H2 nd s2 hd => f d H2 (s.free nd) (Same.trans s s2) hd
theorem ok_need {f : Addr} {fd : FuncData} (F : Fun K "need_picture" "need_picture" sNeedP f fd) (X : XC1 P w K mg base "BadPicture" B "thing" "thing") (KP : Kn P w K mg base CX0 2 "is_picture" ["thing"] (spIsP K)) : FnOk P w K mg base (L2.CX P w) 3 f fd ["picture"] (spNeed K B) := by
  obtain ⟨fP, fdP, GP, gP, kP, bP⟩ := KP
  refine F.okX scNeed (fun vs H Q E h => ?_) (fun cdv A outer s H vs Q E hr h => ?_)
  · obtain ⟨v, d, rfl, _⟩ := h
    rfl
  · obtain ⟨v, d, rfl, hd, ln, ft, good, bad⟩ := h
    obtain ⟨fI, fdI, iC, tI, FI, bI, _⟩ := X.ini
    refine ⟨_, pss_one (ps_if (pt_not (pt_val (pe_call GP (hr.mono (by decide)) (by rfl) gP kP bP .nil pass0 (pa_cons (pv 0) pa_nil))))
      (pss_one (ps_raise rfl (takes_of rfl rfl rfl rfl) (pmk_oex X.oex iC tI FI hr bI .nil pass0 (by rfl) X.gC (pa_cons (pv 0) pa_nil)))) pss_nil), ?_⟩
    refine ⟨_, rfl, v, d, rfl, hd, ln, ft, fun H1 s1 => ⟨_, rfl, ?_⟩⟩
    cases hp : picD d with
    | true => exact iteF (good hp H1 s1)
    | false =>
      refine iteT ⟨_, rfl, (by show 1 ≤ 1000; decide), fun a na => ?_⟩
      refine ⟨a, v, rfl, X.oex, X.no, upd_same, fun dx nd ne => ⟨rfl, dx, [("thing", v)], upd_same, ?_, ?_, ?_⟩⟩
      · rw [upd_ne ne, upd_same]
      · rw [upd_ne ne] at nd
        exact nd
      · rw [upd_ne ne] at nd
        refine (bad hp).more s1 dx _ nd (fun b o e => ?_) upd_same
        have n1 := ne_of_none e nd
        have n2 := ne_of_none e na
        rw [upd_ne n1, del_ne n2, upd_ne n2, upd_ne n1, upd_ne n2]
        exact e
def spRowT (K : PySem.W.Frag) : Sp := fun vs H Q _ => ∃ (a : Addr) (r : List Int), vs = [.ref a] ∧ SqA K H a (r.map V.int) ∧ r.length ≤ 200 ∧ (∀ i ∈ r, i.natAbs < 10 ^ 16) ∧ ∀ H', Same H H' → Q (.str (tS (TL.joinL [32] (r.map intL)))) H'
theorem ok_rowT {f : Addr} {fd : FuncData} (F : Fun K "row_text" "row_text" sRowT f fd) (T : TR4 mg) : FnOk P w K mg base CX0 1 f fd ["row"] (spRowT K) := by
  refine F.ok (k := 0) scRowT (fun vs H Q E h => ?_) (fun cdv A outer s H vs Q E hr h => ?_)
  · obtain ⟨a, r, rfl, _⟩ := h
    rfl
  · obtain ⟨a, r, rfl, hx, l1, l2, kk⟩ := h
    refine ⟨_, pss_one (ps_ret (pe_join pe_str (pe_lc (own := [("shade", 1)]) (g := gName 1) (tt := tYes) (te := tCB (fun xs H Q => ∃ i, xs = [V.int i] ∧ i.natAbs.log2 < 1920 ∧ Q (.str (toString i)) H) (tCons (tVar 1) tNil)) rfl scRowT.nd (pi_seq (pv 0)) (blkOk_by (own := [("shade", 1)]) (N := ["row", "shade"]) (sc := defScope sRowT) (by decide +kernel)) (fun _ _ _ _ _ => pg_name (i := 1) scRowT.nd rfl (Or.inl rfl)) (fun _ _ _ _ _ => pts_nil)
      (fun _ _ _ _ _ => pe_callTy call_str_int (by rfl) T.str (by decide +kernel) (pa_cons (pv 1) pa_nil))))), ?_⟩
    refine ⟨⟨_, rfl⟩, ?_⟩
    refine lc_over (r.map fun i => V.str (tS (intL i))) rfl hx (by rw [List.length_map, List.length_map]) (by rw [List.length_map]; omega) (fun j x y H2 R ex ey s2 k => ?_) fun p H2 s2 np hp => ?_
    · rw [List.getElem?_map] at ex ey
      cases ei : r[j]? with
      | none =>
        rw [ei] at ex
        cases ex
      | some i =>
        rw [ei] at ex ey
        cases ex
        cases ey
        refine ⟨rfl, _, rfl, i, rfl, log2_small (l2 i (List.mem_of_getElem? ei)), ?_⟩
        rw [int_text]
        exact k H2 (Same.refl _)
    · have e1 : (r.map fun i => V.str (tS (intL i))) = ((r.map intL).map SX.S).map V.str := by
        rw [List.map_map, List.map_map]
        rfl
      rw [e1] at hp
      refine ⟨" ", p, (r.map intL).map SX.S, rfl, rfl, .inl (.inl (.inl hp)), ?_, ?_⟩
      · rw [SX.lens]
        have y : ((r.map intL).map List.length).sum ≤ 17 * (r.map intL).length := sum_le fun x hx => by
          obtain ⟨i, hi, rfl⟩ := List.mem_map.1 hx
          exact intL_len (l2 i hi)
        rw [List.length_map] at y
        rw [List.length_map, List.length_map]
        show ((r.map intL).map List.length).sum + r.length * 1 ≤ 16777216
        omega
      · have e2 : ((" " : Str)) = SX.S [32] := rfl
        rw [e2, SX.join_S]
        exact kk H2 s2
/-- the picture that data tells -/
def PicV (d : PyData) (rows : List (List Int)) : Prop := ∃ rs, rowsOf d = some rs ∧ Paired (fun (r : PyData) (row : List Int) => rowsOf r = some (row.map PyData.int)) rs rows
theorem deAll_ints {H : Hp} : ∀ {zs : List V} {r : List Int}, DeAll K H zs (r.map PyData.int) → zs = r.map V.int
  | _, [], .nil => rfl
  | _, i :: r, .cons (.int _) t => by rw [deAll_ints t]; rfl
theorem picV_rows {H : Hp} {v : V} {d : PyData} {rows : List (List Int)} (h : De K H v d) (p : PicV d rows) : ∃ a xs, v = .ref a ∧ SqA K H a xs ∧ Paired (fun (x : V) (row : List Int) => ∃ b, x = .ref b ∧ SqA K H b (row.map V.int)) xs rows := by
  obtain ⟨rs, er, pr⟩ := p
  obtain ⟨a, xs, rfl, hx, hds⟩ := rows_sq h er
  refine ⟨a, xs, rfl, hx, ?_⟩
  clear hx er h
  induction pr generalizing xs with
  | nil =>
    cases hds
    exact .nil
  | cons e _ ih =>
    cases hds with
    | cons h1 h2 =>
      obtain ⟨b, zs, rfl, hb, hz⟩ := rows_sq h1 e
      rw [deAll_ints hz] at hb
      exact .cons ⟨b, rfl, hb⟩ (ih _ h2)
theorem joinL_nil : ∀ l : List (List Nat), TL.joinL [] l = l.flatten
  | [] => rfl
  | [x] => by
    show x = [x].flatten
    simp
  | x :: y :: r => by
    show x ++ ([] ++ TL.joinL [] (y :: r)) = _
    rw [joinL_nil (y :: r)]
    rfl
def spPicT (K : PySem.W.Frag) (B : Addr) : Sp := fun vs H Q E => ∃ v d, vs = [v] ∧ De K H v d ∧ lenOk d = true ∧ fits d = true ∧ ((∃ rows, picD d = true ∧ PicV d rows ∧ Small rows ∧ ∀ H', Same H H' → Q (.str (tS (picL rows))) H') ∨ (picD d = false ∧ FliesP E B H v))
theorem picL_len {rows : List (List Int)} (h : Small rows) : (picL rows).length ≤ 3601 * rows.length := by
  unfold picL
  rw [List.length_flatten, List.map_map]
  exact sum_le fun r hr => rowL_len (h.2 r hr).1 (h.2 r hr).2
theorem add_feed (r : List Int) : (tS (TL.joinL [32] (r.map intL)) ++ ("\n" : Str)) = tS (rowL r) := by
  have e : ("\n" : Str) = tS [10] := rfl
  rw [e, rowL_join]
  exact SX.S_cat _ _
theorem ok_picT {f : Addr} {fd : FuncData} (F : Fun K "picture_text" "picture_text" sPicT f fd) (KN : Kn P w K mg base (L2.CX P w) 3 "need_picture" ["picture"] (spNeed K B)) (KR : Kn P w K mg base CX0 1 "row_text" ["row"] (spRowT K)) : FnOk P w K mg base (L2.CX P w) 4 f fd ["picture"] (spPicT K B) := by
  obtain ⟨fN, fdN, GN, gN, kN, bN⟩ := KN
  obtain ⟨fR, fdR, GR, gR, kR, bR⟩ := KR
  refine F.okX scPicT (fun vs H Q E h => ?_) (fun cdv A outer s H vs Q E hr h => ?_)
  · obtain ⟨v, d, rfl, _⟩ := h
    rfl
  · obtain ⟨v, d, rfl, hd, ln, ft, hv⟩ := h
    have pass : Passes (L2.CX P w) (cxOf (L2.CX P w) P w K mg base ["picture", "row"] "picture_text" (defScope sPicT) f cdv A outer s H E) E := passes_call (takes_of rfl rfl rfl rfl) (fun _ _ _ _ h => h)
    refine ⟨_, pss_cons (ps_expr (pe_call GN hr (by rfl) gN kN bN .nil pass (pa_cons (pv 0) pa_nil)))
      (pss_one (ps_ret (pe_join pe_str (pe_lc (own := [("row", 1)]) (g := gName 1) (tt := tYes) (te := tOp (fun x y H Q => ∃ i j, x = V.str i ∧ y = V.str j ∧ i.length + j.length ≤ sizeLine ∧ Q (.str (i ++ j)) H) (tCall (spRowT K) [] E0 (tCons (tVar 1) tNil)) (tC (.str "\n"))) rfl scPicT.nd (pi_seq (pv 0)) (blkOk_by (own := [("row", 1)]) (N := ["picture", "row"]) (sc := defScope sPicT) (by decide +kernel)) (fun _ _ _ _ _ => pg_name (i := 1) scPicT.nd rfl (Or.inl rfl)) (fun _ _ _ _ _ => pts_nil)
        (fun _ _ _ _ _ => pe_op op_add_str (pe_call GR (hr.mono (by decide)) (by rfl) gR kR bR .nil pass0 (pa_cons (pv 1) pa_nil)) pe_str))))), ?_⟩
    refine ⟨_, rfl, v, d, rfl, hd, ln, ft, fun hp H1 s1 => ?_, fun hp => ?_⟩
    · rcases hv with ⟨rows, _, pv, sm, kk⟩ | ⟨no, _⟩
      · obtain ⟨a, xs, rfl, hx, pr⟩ := picV_rows hd pv
        have lx : xs.length = rows.length := Paired.length pr
        have big : 100000 ≤ sizeLine := by decide
        refine ⟨⟨_, rfl⟩, ?_⟩
        refine lc_over (rows.map fun r => V.str (tS (rowL r))) rfl (sqA_s s1 hx) (by rw [List.length_map, lx]) (by have := sm.1; omega) (fun j x y H2 R ex ey s2 k => ?_) fun p H2 s2 np hp => ?_
        · obtain ⟨r, er, b, rfl, hb⟩ := LiI.paired_get pr ex
          rw [List.getElem?_map, er] at ey
          cases ey
          obtain ⟨l1, l2⟩ := sm.2 r (List.mem_of_getElem? er)
          refine ⟨rfl, _, rfl, b, r, rfl, sqA_s (Same.trans s1 s2) hb, l1, l2, fun H3 s3 => ⟨_, _, rfl, rfl, ?_, ?_⟩⟩
          · have z := rowL_len l1 l2
            rw [rowL_join, List.length_append] at z
            rw [tS_len]
            show _ + 1 ≤ sizeLine
            omega
          · rw [add_feed]
            exact k H3 s3
        · have e1 : (rows.map fun r => V.str (tS (rowL r))) = ((rows.map rowL).map SX.S).map V.str := by
            rw [List.map_map, List.map_map]
            rfl
          rw [e1] at hp
          refine ⟨"", p, (rows.map rowL).map SX.S, rfl, rfl, .inl (.inl (.inl hp)), ?_, ?_⟩
          · rw [SX.lens]
            have z := picL_len sm
            unfold picL at z
            rw [List.length_flatten] at z
            show ((rows.map rowL).map List.length).sum + _ * 0 ≤ 16777216
            have y := sm.1
            omega
          · have e2 : (("" : Str)) = SX.S [] := rfl
            rw [e2, SX.join_S, joinL_nil]
            exact kk H2 (Same.trans s1 s2)
      · rw [no] at hp
        cases hp
    · rcases hv with ⟨rows, yes, _⟩ | ⟨_, fly⟩
      · rw [yes] at hp
        cases hp
      · exact fly
end
end Mine
namespace Mine
open PySem L2 PySem.Spec PyProof.Rows Pic
theorem pss_dead {X : Cx} {ss : List Stmt} : PSs X ss (fun _ _ _ => False) := ⟨fun _ _ _ _ _ _ h => h.elim⟩
section
variable {K : PySem.W.Frag} {H : Hp} {σ : L2.St} {v : V} {i : Nat} {Q : VK} {t : String}
theorem rd_isiX {c : String} {b : Bool} (hi : σ[i]? = some (some v)) (ty : TyX K H v (.type t)) (e : kitB t c = some b) (q : Q (.bl b) H) : tCB (rIsi K) (tCons (tVar i) (tCons (tC (.ty c)) tNil)) σ H Q := ⟨v, hi, v, .ty c, _, _, b, rfl, .ty c, ty, kit_ty e, q⟩
theorem rd_isi2X {c1 c2 : String} {x y : Bool} (hi : σ[i]? = some (some v)) (ty : ∀ H', Same H H' → TyX K H' v (.type t)) (e1 : kitB t c1 = some x) (e2 : kitB t c2 = some y) (q : ∀ H', Same H H' → Q (.bl (x || y)) H') : tCB (rIsiT K) (tCons (tVar i) (tCons (tTup (tCons (tC (.ty c1)) (tCons (tC (.ty c2)) tNil))) tNil)) σ H Q := by
  refine ⟨v, hi, (by show 2 ≤ sizeLine; decide), fun p np => ?_⟩
  have st : Same H (upd H p (.tup [.ty c1, .ty c2])) := same_new np
  exact ⟨v, p, _, _, _, _, rfl, upd_same, .cons (.ty c1) (.cons (.ty c2) .nil), ty _ st, kit_or e1 (kit_one' e2), q _ st⟩
end
abbrev sSpoil : Stmt := top 26
def Leaf (v : V) : Prop := (∃ i, v = .int i) ∨ ∃ x, v = .str x
abbrev late : V := .str "late9"
/-- rows of leaves at the addresses -/
def RowsL (H : Hp) (qs : List Addr) (xss : List (List V)) : Prop := Paired (fun (q : Addr) (xs : List V) => H q = some (.lst xs)) qs xss
def spSpoil (K : PySem.W.Frag) : Nat → Sp
  | 0 => fun _ _ _ _ => False
  | n + 1 => fun vs H Q _ => ∃ v, vs = [v] ∧ ((Leaf v ∧ ∀ H', Same H H' → Q .non H') ∨
    (1 ≤ n ∧ ∃ q xs, v = .ref q ∧ H q = some (.lst xs) ∧ (∀ x ∈ xs, Leaf x) ∧ xs.length ≤ 100000 ∧ ∀ H', (∀ b o, H b = some o → b ≠ q → H' b = some o) → H' q = some (.lst (xs ++ [late])) → Q .non H') ∨
    (2 ≤ n ∧ ∃ p qs xss, v = .ref p ∧ H p = some (.lst (qs.map V.ref)) ∧ RowsL H qs xss ∧ (p :: qs).Nodup ∧ (∀ xs ∈ xss, (∀ x ∈ xs, Leaf x) ∧ xs.length ≤ 100000) ∧ qs.length ≤ 100000 ∧
      ∀ H', (∀ b o, H b = some o → b ∉ p :: qs → H' b = some o) → H' p = some (.lst (qs.map V.ref ++ [late])) → RowsL H' qs (xss.map (· ++ [late])) → Q .non H'))
section
variable {w : World} {P : Program} {base : Heap} {K : PySem.W.Frag} {mg : Str → Option Value}
theorem scSp : FnScope ["_law_thing", "_law_part", "_law_key"] ["_law_thing"] (defScope sSpoil) := ⟨rfl, rfl, rfl, by decide +kernel, rfl, by decide +kernel, by decide +kernel⟩
theorem rowsL_mono {H H' : Hp} {qs : List Addr} {xss : List (List V)} (h : RowsL H qs xss) (k : ∀ b o, H b = some o → b ∈ qs → H' b = some o) : RowsL H' qs xss := paired_mem h fun q xs hm e => k q _ e hm
theorem ok_spoil {f : Addr} {fd : FuncData} (F : Fun K "_law_a_spoiled" "_law_a_spoiled" sSpoil f fd) (T : TS4 mg) (g : mg "_law_a_spoiled" = some (.ref f)) (b : Binds K fd ["_law_thing"] []) : ∀ n, FnOk P w K mg base CX0 n f fd ["_law_thing"] (spSpoil K n)
  | 0 => ⟨fun vs H Q E h => h.elim, fun _ _ _ _ _ _ _ _ _ _ _ _ _ h => h.elim⟩
  | n + 1 => by
    have G := ok_spoil F T g b n
    refine F.ok scSp (fun vs H Q E h => ?_) (fun cdv A outer s H vs Q E hr h => ?_)
    · obtain ⟨v, rfl, _⟩ := h
      rfl
    · obtain ⟨v, rfl, hv⟩ := h
      refine ⟨_, pss_cons (ps_if (pt_val (pe_callB call_isiT (by rfl) T.isi (by decide +kernel) (pa_cons (pv 0) (pa_cons (pe_tup (pa_cons (pe_bltn (v := .ty "list") (by rfl) T.list (by decide +kernel) rfl) (pa_cons (pe_bltn (v := .ty "tuple") (by rfl) T.tuple (by decide +kernel) rfl) pa_nil))) pa_nil))))
          (pss_one (ps_for PassesOwn.never rfl (pi_seq (pv 0)) (pg_name (i := 1) scSp.nd rfl (Or.inl rfl)) (pss_one (ps_expr (pe_call G hr (by rfl) g F.kp b .nil pass0 (pa_cons (pv 1) pa_nil)))))) pss_nil)
        (pss_cons (ps_if (pt_val (pe_callB call_isi (by rfl) T.isi (by decide +kernel) (pa_cons (pv 0) (pa_cons (pe_bltn (v := .ty "dict") (by rfl) T.dict (by decide +kernel) rfl) pa_nil)))) pss_dead pss_nil)
        (pss_one (ps_if (pt_val (pe_callB call_isi (by rfl) T.isi (by decide +kernel) (pa_cons (pv 0) (pa_cons (pe_bltn (v := .ty "list") (by rfl) T.list (by decide +kernel) rfl) pa_nil))))
          (pss_one (ps_expr (pe_bm PySem.F.plainAttrs_list PySem.F.slot_list_append PySem.F.type_list_append mt_append (pv 0) (pa_cons pe_str pa_nil)))) pss_nil))), ?_⟩
      have big : 100000 < sizeLine := by decide
      rcases hv with ⟨lf, kk⟩ | ⟨n1, q, xs, rfl, hq, lf, sh, kk⟩ | ⟨n2, p, qs, xss, rfl, hp, hr2, nod, lf, sh, kk⟩
      · rcases lf with ⟨i, rfl⟩ | ⟨x, rfl⟩
        · refine rd_isi2X (t := "int") rfl (fun _ _ => .base (.int i)) (kit_tab _ (by simp) _ (by simp)) (kit_tab _ (by simp) _ (by simp)) fun H1 s1 => ⟨_, rfl, iteF ?_⟩
          refine rd_isiX (t := "int") rfl (.base (.int i)) (kit_tab _ (by simp) _ (by simp)) ⟨_, rfl, iteF ?_⟩
          exact rd_isiX (t := "int") rfl (.base (.int i)) (kit_tab _ (by simp) _ (by simp)) ⟨_, rfl, iteF (kk H1 s1)⟩
        · refine rd_isi2X (t := "str") rfl (fun _ _ => .base (.str x)) (kit_tab _ (by simp) _ (by simp)) (kit_tab _ (by simp) _ (by simp)) fun H1 s1 => ⟨_, rfl, iteF ?_⟩
          refine rd_isiX (t := "str") rfl (.base (.str x)) (kit_tab _ (by simp) _ (by simp)) ⟨_, rfl, iteF ?_⟩
          exact rd_isiX (t := "str") rfl (.base (.str x)) (kit_tab _ (by simp) _ (by simp)) ⟨_, rfl, iteF (kk H1 s1)⟩
      · obtain ⟨n, rfl⟩ : ∃ k, n = k + 1 := ⟨n - 1, by omega⟩
        refine rd_isi2X (t := "list") rfl (fun H' s' => .base (.lst (s' _ _ hq))) (kit_tab _ (by simp) _ (by simp)) (kit_tab _ (by simp) _ (by simp)) fun H1 s1 => ⟨_, rfl, iteT ?_⟩
        refine ⟨q, rfl, .inl ⟨⟨xs, SqL.of (s1 _ _ hq)⟩, ?_⟩⟩
        refine for_any (n := xs.length) (fun i σ H' => (∃ sl, σ = [some (.ref q), sl, none]) ∧ Same H H') ⟨⟨none, rfl⟩, s1⟩ (fun i σ H2 lt h => ⟨xs, xs[i], SqL.of (h.2 _ _ hq), List.getElem?_eq_getElem lt⟩) (fun σ H2 h => ⟨xs, SqL.of (h.2 _ _ hq), Nat.le_refl _⟩) ?_ ?_
        · rintro i σ H2 x H3 lt ⟨⟨sl, rfl⟩, s2⟩ ⟨rfl, y⟩
          have ex := y xs (SqL.of (s2 _ _ hq))
          exact ⟨_, rfl, x, rfl, .inl ⟨lf x (List.mem_of_getElem? ex), fun H4 s4 => ⟨⟨_, rfl⟩, Same.trans s2 s4⟩⟩⟩
        · rintro σ H2 ⟨⟨sl, rfl⟩, s2⟩
          have hq2 := s2 _ _ hq
          refine rd_isiX (t := "list") rfl (.base (.lst hq2)) (kit_tab _ (by simp) _ (by simp)) ⟨_, rfl, iteF ?_⟩
          refine rd_isiX (t := "list") rfl (.base (.lst hq2)) (kit_tab _ (by simp) _ (by simp)) ⟨_, rfl, iteT ?_⟩
          refine ⟨_, rfl, .inl ⟨rfl, _, SqL.of hq2⟩, q, _, _, rfl, rfl, hq2, by omega, kk _ (fun b o e nb => ?_) upd_same⟩
          rw [upd_ne nb]
          exact s2 _ _ e
      · obtain ⟨n, rfl⟩ : ∃ k, n = k + 2 := ⟨n - 2, by omega⟩
        have lq : qs.length = xss.length := Paired.length hr2
        refine rd_isi2X (t := "list") rfl (fun H' s' => .base (.lst (s' _ _ hp))) (kit_tab _ (by simp) _ (by simp)) (kit_tab _ (by simp) _ (by simp)) fun H1 s1 => ⟨_, rfl, iteT ?_⟩
        refine ⟨p, rfl, .inl ⟨⟨_, SqL.of (s1 _ _ hp)⟩, ?_⟩⟩
        refine for_any (n := qs.length) (fun i σ H' => (∃ sl, σ = [some (.ref p), sl, none]) ∧ (∀ b o, H b = some o → b ∉ qs.take i → H' b = some o) ∧ RowsL H' (qs.take i) ((xss.take i).map (· ++ [late]))) ⟨⟨none, rfl⟩, fun b o e _ => s1 _ _ e, .nil⟩ ?_ ?_ ?_ ?_
        · rintro i σ H2 lt ⟨_, k2, _⟩
          refine ⟨_, V.ref qs[i], SqL.of (k2 p _ hp fun h => (List.nodup_cons.mp nod).1 (List.mem_of_mem_take h)), ?_⟩
          rw [List.getElem?_map, List.getElem?_eq_getElem lt]
          rfl
        · rintro σ H2 ⟨_, k2, _⟩
          exact ⟨_, SqL.of (k2 p _ hp fun h => (List.nodup_cons.mp nod).1 (List.mem_of_mem_take h)), by rw [List.length_map]; exact Nat.le_refl _⟩
        · rintro i σ H2 x H3 lt ⟨⟨sl, rfl⟩, k2, r2⟩ ⟨rfl, y⟩
          have ex := y _ (SqL.of (k2 p _ hp fun h => (List.nodup_cons.mp nod).1 (List.mem_of_mem_take h)))
          rw [List.getElem?_map, List.getElem?_eq_getElem lt] at ex
          cases ex
          have eq := List.getElem?_eq_getElem lt
          obtain ⟨xs, exs, hq⟩ := LiI.paired_get hr2 eq
          obtain ⟨l1, l2⟩ := lf xs (List.mem_of_getElem? exs)
          have ndq := (List.nodup_cons.mp nod).2
          have nin : qs[i] ∉ qs.take i := fun h => by
            obtain ⟨j, hj⟩ := List.getElem?_of_mem h
            have jl := (List.getElem?_eq_some_iff.mp hj).1
            rw [List.length_take] at jl
            rw [List.getElem?_take_of_lt (by omega)] at hj
            have z := (List.getElem?_inj (by omega) ndq).mp (hj.trans eq.symm)
            omega
          refine ⟨_, rfl, V.ref qs[i], rfl, .inr (.inl ⟨by omega, qs[i], xs, rfl, k2 _ _ hq nin, l1, l2, fun H4 k4 h4 => ⟨⟨_, rfl⟩, fun b o e nb => ?_, ?_⟩⟩)⟩
          · rw [List.take_succ, eq] at nb
            have nb1 : b ∉ qs.take i := fun h => nb (List.mem_append_left _ h)
            have nb2 : b ≠ qs[i] := fun h => nb (List.mem_append_right _ (by rw [h]; exact List.mem_singleton.2 rfl))
            exact k4 b o (k2 b o e nb1) nb2
          · rw [List.take_succ, eq, List.take_succ, exs, List.map_append]
            refine paired_app (rowsL_mono r2 fun b o e hm => k4 b o e fun h => nin (h ▸ hm)) h4
        · rintro σ H2 ⟨⟨sl, rfl⟩, k2, r2⟩
          rw [List.take_of_length_le (by omega), List.take_of_length_le (by omega)] at r2
          rw [List.take_of_length_le (by omega)] at k2
          have hp2 := k2 p _ hp (List.nodup_cons.mp nod).1
          refine rd_isiX (t := "list") rfl (.base (.lst hp2)) (kit_tab _ (by simp) _ (by simp)) ⟨_, rfl, iteF ?_⟩
          refine rd_isiX (t := "list") rfl (.base (.lst hp2)) (kit_tab _ (by simp) _ (by simp)) ⟨_, rfl, iteT ?_⟩
          refine ⟨_, rfl, .inl ⟨rfl, _, SqL.of hp2⟩, p, _, _, rfl, rfl, hp2, by rw [List.length_map]; omega, kk _ (fun b o e nb => ?_) upd_same ?_⟩
          · have n1 : b ≠ p := fun h => nb (h ▸ List.mem_cons_self ..)
            rw [upd_ne n1]
            exact k2 b o e fun h => nb (List.mem_cons_of_mem _ h)
          · refine rowsL_mono r2 fun b o e hm => ?_
            rw [upd_ne (fun h : b = p => (List.nodup_cons.mp nod).1 (h ▸ hm))]
            exact e
end
end Mine
namespace Mine
open PySem L2 PySem.Spec PyProof.Rows Pic
/-! ### the law's own reader: an integer -/
abbrev sInt4 : Stmt := top 31
theorem int_text_run {l : List Nat} (h : (intRun l).2 = true) : ∃ v, intText? (tS (l.take (intRun l).1)) = some v := by
  cases l with
  | nil => cases h
  | cons c t =>
    rw [intRun_cons] at h ⊢
    by_cases e : c = 45
    · rw [if_pos e] at h ⊢
      by_cases e2 : t.head? = some 48
      · rw [if_pos e2] at h
        cases h
      · rw [if_neg e2] at h ⊢
        have pos : 0 < numLen t := of_decide_eq_true h
        have le := numLen_le t
        refine ⟨_, PySem.intText_neg (cs := t.take (numLen t)) ?_ (take_digits (Nat.le_refl _)) (fun z => ?_) ?_⟩
        · show (c :: t).take (1 + numLen t) = _
          rw [Nat.add_comm, List.take_succ_cons, e]
        · have l := congrArg List.length z
          rw [List.length_take, List.length_nil] at l
          omega
        · rw [tS_len, List.length_take]
          show min (1 + numLen t) _ ≤ 4300
          omega
    · rw [if_neg e] at h ⊢
      exact ⟨_, num_text (of_decide_eq_true h)⟩
theorem cut_mid (r : Str) (i n : Nat) (h : i + n ≤ r.length) : cutS r (some (i : Int)) (some ((i + n : Nat) : Int)) = tS ((tailOf r i).take n) := by
  have e1 : HT.sIx r.length 0 (some (i : Int)) = i := by
    show (if (i : Int) < 0 then ((i : Int) + (r.length : Int)).toNat else min ((i : Int)).toNat r.length) = i
    rw [if_neg (by omega)]
    omega
  have e2 : HT.sIx r.length r.length (some ((i + n : Nat) : Int)) = i + n := by
    show (if ((i + n : Nat) : Int) < 0 then (((i + n : Nat) : Int) + (r.length : Int)).toNat else min (((i + n : Nat) : Int)).toNat r.length) = i + n
    rw [if_neg (by omega)]
    omega
  unfold cutS
  rw [e1, e2, Nat.add_sub_cancel_left]
theorem next_none {t : Str} {i : Nat} (h : t.cps.toList[i]? = none) : nextS t i = ⟨#[]⟩ := by
  unfold nextS
  rw [List.drop_of_length_le (List.getElem?_eq_none_iff.mp h)]
  rfl
/-- one more figure, as the law's own reader asks -/
theorem own_next {L : List Nat} {j : Nat} (h : j ≤ numLen L) (j16 : j < 16) : decide (j + 1 ≤ numLen L) = (match L[j]? with
    | none => false
    | some c => dig c && (decide (j = 0) || !decide (L[0]? = some 48))) := by
  cases j with
  | zero =>
    have z := numLen_pos (L := L)
    cases e : L[0]? with
    | none =>
      refine decide_eq_false fun h => ?_
      obtain ⟨c, e2, _⟩ := z.mp h
      rw [e] at e2
      cases e2
    | some c =>
      show decide (0 + 1 ≤ numLen L) = (dig c && (true || _))
      rw [Bool.true_or, Bool.and_true]
      cases hd : dig c with
      | true => exact decide_eq_true (z.mpr ⟨c, e, hd⟩)
      | false =>
        refine decide_eq_false fun h => ?_
        obtain ⟨c2, e2, d2⟩ := z.mp h
        rw [e] at e2
        cases e2
        rw [hd] at d2
        cases d2
  | succ j =>
    have z := numLen_next (L := L) (j := j + 1) (by omega) h
    have e0 : L.take (j + 1) = [48] ↔ L[0]? = some 48 := by
      cases L with
      | nil =>
        have y : numLen [] = 0 := rfl
        omega
      | cons a t =>
        rw [List.take_succ_cons, List.getElem?_cons_zero]
        constructor
        · intro y
          rw [(List.cons.inj y).1]
        · intro y
          have a48 := Option.some.inj y
          rw [numLen_cons, if_pos a48] at h
          have j0 : j = 0 := by omega
          rw [a48, j0]
          rfl
    cases e : L[j + 1]? with
    | none =>
      refine decide_eq_false fun h => ?_
      obtain ⟨_, _, c, e2, _⟩ := z.mp h
      rw [e] at e2
      cases e2
    | some c =>
      show _ = (dig c && (decide (j + 1 = 0) || !decide (L[0]? = some 48)))
      rw [decide_eq_false (show ¬ j + 1 = 0 by omega), Bool.false_or, Bool.eq_iff_iff]
      simp only [decide_eq_true_eq, Bool.and_eq_true, Bool.not_eq_true', decide_eq_false_iff_not]
      constructor
      · intro y
        obtain ⟨y1, _, c2, y2, y3⟩ := z.mp y
        rw [e] at y2
        cases y2
        exact ⟨y3, fun q => y1 (e0.mpr q)⟩
      · rintro ⟨y1, y2⟩
        exact z.mpr ⟨fun q => y2 (e0.mp q), j16, c, e, y1⟩
structure TI4 (mg : Str → Option Value) : Prop where
  range : mg "range" = none
  int : mg "int" = none
  len : mg "len" = none
  enu : mg "enumerate" = none
section
variable {w : World} {P : Program} {base : Heap} {K : PySem.W.Frag} {mg : Str → Option Value}
theorem scInt4 : FnScope ["_law_walk", "_law_is_signed", "_law_begin", "_law_at", "_law_is_more", "_law_k", "_law_sign"] ["_law_walk", "_law_is_signed"] (defScope sInt4) := ⟨rfl, rfl, rfl, by decide +kernel, rfl, by decide +kernel, by decide +kernel⟩
def spInt4 : Sp := fun vs H Q _ => ∃ (k : Addr) (r : Str) (i : Nat), vs = [.ref k, .bl true] ∧ Wk H k r i true ∧ i ≤ r.length ∧ r.length ≤ 100000 ∧ ∀ (v : Int) H', Wk H' k r (i + (intRun (tailOf r i)).1) (intRun (tailOf r i)).2 → (∀ a o, H a = some o → a ≠ k → H' a = some o) → Q (.int v) H'
theorem ok_int4 {f : Addr} {fd : FuncData} (F : Fun K "_law_a_integer" "_law_a_integer" sInt4 f fd) (T : TI4 mg) (KS : Kn P w K mg base CX0 1 "_law_a_sees" ["_law_walk", "_law_sign"] spSees4) : FnOk P w K mg base CX0 2 f fd ["_law_walk", "_law_is_signed"] spInt4 := by
  obtain ⟨fS, fdS, GS, gS, kS, bS⟩ := KS
  refine F.ok scInt4 (fun vs H Q E h => ?_) (fun cdv A outer s H vs Q E hr h => ?_)
  · obtain ⟨k, r, i, rfl, _⟩ := h
    rfl
  · obtain ⟨k, r, i, rfl, W, le, len, kk⟩ := h
    have m16 : 16 ≤ sizeLine := by decide
    have big : 100000 ≤ sizeLine := by decide
    obtain ⟨tr, hR, rR⟩ : ∃ t, PSs (cxOf CX0 P w K mg base ["_law_walk", "_law_is_signed", "_law_begin", "_law_at", "_law_is_more", "_law_k", "_law_sign"] "_law_a_integer" (defScope sInt4) f cdv A outer s H E).nox ((defBody sInt4).drop 2) t ∧
        ∀ (at_ m : Nat) (b : Bool) (H1 : Hp), Wk H1 k r at_ b → (∀ a o, H a = some o → a ≠ k → H1 a = some o) → i ≤ at_ → at_ ≤ r.length → (b = true → m = numLen (tailOf r at_)) → (b = false → m = 0) → (intRun (tailOf r i)).1 = at_ - i + m → (intRun (tailOf r i)).2 = (b && decide (0 < m)) →
          t { nx := fun _ H' => Q .non H', rt := Q } [some (.ref k), some (.bl true), some (.int i), none, none, none, none] H1 := by
      refine ⟨_, (pss_cons (ps_par (i := 3) (j := 4) rfl scInt4.nd rfl rfl (by decide) rfl rfl (pa_cons (pe_ix ix_list (pv 0) pe_int (fun _ _ => rfl)) (pa_cons (pe_ix ix_list (pv 0) pe_int (fun _ _ => rfl)) pa_nil)) rfl)
      (pss_cons (ps_for PassesOwn.never rfl (pi_range1 rfl T.range (pa_cons pe_int pa_nil)) (pg_name (i := 5) scInt4.nd rfl (Or.inl rfl))
        (pss_cons (ps_set (i := 6) scInt4.nd rfl (Or.inl rfl) (pe_slice sl_str (pe_ix ix_list (pv 0) pe_int (fun _ _ => rfl)) (po_some (pe_ix ix_list (pv 0) pe_int (fun _ _ => rfl))) (po_some (pe_op op_add (pe_ix ix_list (pv 0) pe_int (fun _ _ => rfl)) pe_int))))
        (pss_cons (ps_set (i := 4) scInt4.nd rfl (Or.inl rfl) (pe_and (pv 4) (pe_and (pe_cmpR op_ne (pv 6) pe_str (nomark _)) (pe_and (pe_cmpR op_in_sign (pv 6) pe_str rfl) (pe_one (pe_or (pe_cmpR op_eq (pv 5) pe_int (nomark _)) (pe_one (pe_cmpR op_ne (pe_ix ix_str (pe_ix ix_list (pv 0) pe_int (fun _ _ => rfl)) (pv 3) (fun _ _ => rfl)) pe_str (nomark _)))))))))
        (pss_one (ps_asg (pe_op op_add (pe_ix ix_list (pv 0) pe_int (fun _ _ => rfl)) (pe_ifExp (pt_val (pv 4)) pe_int pe_int)) (pg_sub (pv 0) pe_int set_list))))))
      (pss_cons (ps_asg (pe_and (pe_ix ix_list (pv 0) pe_int (fun _ _ => rfl)) (pe_one (pe_cmpR op_gt (pe_ix ix_list (pv 0) pe_int (fun _ _ => rfl)) (pv 3) (nomark _)))) (pg_sub (pv 0) pe_int set_list))
      (pss_one (ps_ret (pe_ifExp (pt_val (pe_ix ix_list (pv 0) pe_int (fun _ _ => rfl))) (pe_callTy call_int_str (by rfl) T.int (by decide +kernel) (pa_cons (pe_slice sl_str (pe_ix ix_list (pv 0) pe_int (fun _ _ => rfl)) (po_some (pv 2)) (po_some (pe_ix ix_list (pv 0) pe_int (fun _ _ => rfl)))) pa_nil)) pe_int)))))), ?_⟩
      intro at_ m b H1 W1 k1 i1 i2 mb mf er1 er2
      have mle : m ≤ 16 ∧ at_ + m ≤ r.length := by
        have tl : (tailOf r at_).length = r.length - at_ := List.length_drop
        cases b with
        | true =>
          rw [mb rfl]
          have z := numLen_le (tailOf r at_)
          omega
        | false =>
          rw [mf rfl]
          omega
      refine ⟨_, rfl, k, _, _, _, rfl, rfl, SqL.of W1, atI_nat (j := 1) rfl, _, rfl, k, _, _, _, rfl, rfl, SqL.of W1, atI_nat (j := 2) rfl, _, _, rfl, ?_⟩
      refine ⟨16, rfl, by decide, by decide, ?_⟩
      refine for_any (n := 16) (fun j σ H' => ∃ (sk sg : Option V), σ = [some (.ref k), some (.bl true), some (.int i), some (.int at_), some (.bl (b && decide (j ≤ m))), sk, sg] ∧ Wk H' k r (at_ + min j m) b ∧ (∀ a o, H a = some o → a ≠ k → H' a = some o)) ?_ (fun j _ _ lt _ => lt) (fun _ _ _ => Nat.le_refl _) ?_ ?_
      · refine ⟨none, none, ?_, ?_, k1⟩
        · rw [decide_eq_true (Nat.zero_le m), Bool.and_true]
          rfl
        · rw [Nat.zero_min]
          exact W1
      · rintro j σ H2 x H3 lt ⟨sk, sg, rfl, W2, k2⟩ ⟨rfl, rfl⟩
        have fin : ∀ (more : Bool), more = (b && decide (j + 1 ≤ m)) → (b && decide (j ≤ m)) = true ∨ more = false → ∀ sk sg : Option V,
            ∃ (sk' sg' : Option V), [some (V.ref k), some (V.bl true), some (V.int i), some (V.int at_), some (V.bl more), sk, sg] = [some (.ref k), some (.bl true), some (.int i), some (.int at_), some (.bl (b && decide (j + 1 ≤ m))), sk', sg'] ∧
            Wk (upd H3 k (.lst [.str r, .int ((at_ + min j m : Nat) + (if more = true then 1 else 0)), .bl b])) k r (at_ + min (j + 1) m) b ∧ (∀ a o, H a = some o → a ≠ k → (upd H3 k (.lst [.str r, .int ((at_ + min j m : Nat) + (if more = true then 1 else 0)), .bl b])) a = some o) := by
          intro more em hm sk sg
          refine ⟨sk, sg, by rw [em], ?_, fun a o e n => by rw [upd_ne n]; exact k2 a o e n⟩
          have e1 : ((at_ + min j m : Nat) : Int) + (if more = true then 1 else 0) = ((at_ + min (j + 1) m : Nat) : Int) := by
            cases more with
            | true =>
              have z := em.symm
              rw [Bool.and_eq_true, decide_eq_true_eq] at z
              rw [if_pos rfl]
              omega
            | false =>
              rw [if_neg Bool.false_ne_true]
              cases b with
              | false =>
                have z := mf rfl
                omega
              | true =>
                rw [Bool.true_and] at em
                have z := of_decide_eq_false em.symm
                omega
          unfold Wk
          rw [upd_same, e1]
        have le2 : at_ + min j m ≤ r.length := by omega
        refine ⟨_, rfl, k, _, _, _, rfl, rfl, SqL.of W2, atI_nat (j := 0) rfl, _, rfl, k, _, _, _, rfl, rfl, SqL.of W2, atI_nat (j := 1) rfl, _, rfl, _, rfl, k, _, _, _, rfl, rfl, SqL.of W2, atI_nat (j := 1) rfl, _, _, rfl, rfl, _, rfl, r, rfl, by omega, ?_⟩
        rw [cut_next r _ le2]
        have cond : ∀ QQ : VK, (∀ more : Bool, more = (b && decide (j + 1 ≤ m)) → ((b && decide (j ≤ m)) = true ∨ more = false) → QQ (.bl more) H3) →
            tAndV (tVar 4) (tAndV (tOp rNe (tVar 6) (tC (.str ""))) (tAndV (tOp (fun x y H Q => ∃ (c : Nat) (z : Str), x = V.str ⟨#[c]⟩ ∧ y = V.str z ∧ Q (.bl (decide (c ∈ z.cps.toList))) H) (tVar 6) (tC (.str "0123456789"))) (tOrV (tOp rEq (tVar 5) (tC (.int 0))) (tOp rNe (tOp rIxS (tOp (rIxL K) (tVar 0) (tC (.int 0))) (tVar 3)) (tC (.str "0"))))))
              [some (V.ref k), some (V.bl true), some (V.int i), some (V.int at_), some (V.bl (b && decide (j ≤ m))), some (.int (0 + (j : Int))), some (.str (nextS r (at_ + min j m)))] H3 QQ := by
          intro QQ q
          refine ⟨_, rfl, (b && decide (j ≤ m)), rfl, ?_⟩
          cases hm : (b && decide (j ≤ m)) with
          | false =>
            refine iteF (q false ?_ (.inr rfl))
            cases b with
            | false => rfl
            | true =>
              rw [Bool.true_and] at hm ⊢
              have z := of_decide_eq_false hm
              exact (decide_eq_false (by omega)).symm
          | true =>
            rw [Bool.and_eq_true, decide_eq_true_eq] at hm
            obtain ⟨rfl, jm⟩ := hm
            have mn := mb rfl
            have on := own_next (L := tailOf r at_) (j := j) (by omega) lt
            rw [← mn] at on
            have mj : min j m = j := by omega
            have ej : (tailOf r at_)[j]? = r.cps.toList[at_ + j]? := List.getElem?_drop
            rw [ej] at on
            rw [mj]
            have no : (match r.cps.toList[at_ + j]? with
              | none => false
              | some c => dig c && (decide (j = 0) || !decide ((tailOf r at_)[0]? = some 48))) = false → QQ (.bl false) H3 := fun z => q false (by rw [Bool.true_and, on, z]) (.inr rfl)
            refine iteT ⟨_, rfl, rfl, _, rfl, ?_⟩
            cases hl : r.cps.toList[at_ + j]? with
            | none =>
              rw [hl] at no
              rw [next_none hl]
              exact iteF (no rfl)
            | some c =>
              rw [hl] at no on
              dsimp only at no on
              rw [next_some hl]
              refine iteT ⟨_, rfl, c, _, rfl, rfl, _, rfl, ?_⟩
              have ed : decide (c ∈ (("0123456789" : Str)).cps.toList) = dig c := by
                rw [Bool.eq_iff_iff, decide_eq_true_eq]
                exact dig_mem c
              rw [ed]
              cases hd : dig c with
              | false =>
                rw [hd] at no
                exact iteF (no rfl)
              | true =>
                rw [hd] at no on
                refine iteT ⟨_, rfl, rfl, _, rfl, ?_⟩
                rw [dec_i]
                by_cases j0 : j = 0
                · rw [decide_eq_true (show (0 : Int) + (j : Int) = 0 by omega)]
                  refine iteT (q true ?_ (.inl ?_))
                  · rw [Bool.true_and, on]
                    show true = (true && (decide (j = 0) || _))
                    rw [decide_eq_true j0]
                    rfl
                  · rw [Bool.true_and, decide_eq_true jm]
                · rw [decide_eq_false (show ¬ (0 : Int) + (j : Int) = 0 by omega)]
                  have lt0 : at_ < r.cps.toList.length := by
                    have z := (List.getElem?_eq_some_iff.mp hl).1
                    omega
                  have e0 : (tailOf r at_)[0]? = some r.cps.toList[at_] := by
                    rw [List.getElem?_drop, Nat.add_zero, List.getElem?_eq_getElem lt0]
                  refine iteF ⟨_, rfl, k, _, _, _, rfl, rfl, SqL.of W2, atI_nat (j := 0) rfl, _, rfl, r, _, _, rfl, rfl, by omega, atI_nat (List.getElem?_eq_getElem lt0), rfl, ?_⟩
                  have eq1 : (!decide (V.str ⟨#[r.cps.toList[at_]]⟩ = V.str "0")) = !decide ((tailOf r at_)[0]? = some 48) := by
                    rw [e0, dec_s]
                    congr 1
                    by_cases q0 : r.cps.toList[at_] = 48
                    · rw [q0]
                      rfl
                    · rw [decide_eq_false (fun z => q0 (by
                        have y : (#[r.cps.toList[at_]] : Array Nat) = #[48] := congrArg Str.cps z
                        simpa using y)), decide_eq_false (fun z => q0 (Option.some.inj z))]
                  rw [eq1]
                  refine q _ ?_ (.inl ?_)
                  · rw [Bool.true_and, on]
                    show _ = (true && (decide (j = 0) || _))
                    rw [decide_eq_false j0, Bool.true_and, Bool.false_or]
                  · rw [Bool.true_and, decide_eq_true jm]
        refine cond _ fun more em hm => ?_
        refine ⟨_, rfl, k, _, _, _, rfl, rfl, SqL.of W2, atI_nat (j := 1) rfl, _, rfl, more, rfl, ?_⟩
        have f2 := fin more em hm
        cases more with
        | true => exact iteT ⟨_, _, rfl, rfl, _, rfl, k, _, _, 1, rfl, rfl, W2, rfl, f2 _ _⟩
        | false => exact iteF ⟨_, _, rfl, rfl, _, rfl, k, _, _, 1, rfl, rfl, W2, rfl, f2 _ _⟩
      · rintro σ H2 ⟨sk, sg, rfl, W2, k2⟩
        have e16 : min 16 m = m := by omega
        rw [e16] at W2
        refine ⟨_, rfl, k, _, _, _, rfl, rfl, SqL.of W2, atI_nat (j := 2) rfl, b, rfl, ?_⟩
        have eW : ∀ b2, (intRun (tailOf r i)).2 = b2 → Wk (upd H2 k (.lst [.str r, .int ((at_ + m : Nat) : Int), .bl b2])) k r (i + (intRun (tailOf r i)).1) (intRun (tailOf r i)).2 := fun b2 e => by
          have z : i + (intRun (tailOf r i)).1 = at_ + m := by rw [er1]; omega
          unfold Wk
          rw [upd_same, e, z]
        have kf : ∀ (b2 : Bool) a o, H a = some o → a ≠ k → (upd H2 k (.lst [.str r, .int ((at_ + m : Nat) : Int), .bl b2])) a = some o := fun b2 a o e n => by
          rw [upd_ne n]
          exact k2 a o e n
        cases b with
        | false =>
          refine iteF ⟨_, rfl, k, _, _, 2, rfl, rfl, W2, rfl, ?_⟩
          exact ⟨_, rfl, k, _, _, _, rfl, rfl, SqL.of upd_same, atI_nat (j := 2) rfl, _, rfl, iteF (kk 0 _ (eW false er2) (kf false))⟩
        | true =>
          refine iteT ⟨_, rfl, k, _, _, _, rfl, rfl, SqL.of W2, atI_nat (j := 1) rfl, _, rfl, _, _, rfl, rfl, ?_⟩
          have ed : decide ((at_ : Int) < ((at_ + m : Nat) : Int)) = decide (0 < m) := by
            by_cases p : 0 < m
            · rw [decide_eq_true p, decide_eq_true (by omega)]
            · rw [decide_eq_false p, decide_eq_false (by omega)]
          dsimp only
          rw [ed]
          rw [Bool.true_and] at er2
          refine ⟨_, rfl, k, _, _, 2, rfl, rfl, W2, rfl, ?_⟩
          by_cases p : 0 < m
          · rw [decide_eq_true p] at er2 ⊢
            obtain ⟨v, hv⟩ := int_text_run er2
            refine ⟨_, rfl, k, _, _, _, rfl, rfl, SqL.of upd_same, atI_nat (j := 2) rfl, _, rfl, iteT ?_⟩
            refine ⟨_, rfl, k, _, _, _, rfl, rfl, SqL.of upd_same, atI_nat (j := 0) rfl, _, rfl, _, rfl, _, rfl, k, _, _, _, rfl, rfl, SqL.of upd_same, atI_nat (j := 1) rfl, _, rfl, r, rfl, by omega, ?_⟩
            have z : at_ + m = i + (intRun (tailOf r i)).1 := by rw [er1]; omega
            have ec : cutS r (some (i : Int)) (some ((at_ + m : Nat) : Int)) = tS ((tailOf r i).take (intRun (tailOf r i)).1) := by
              rw [z]
              exact cut_mid r i _ (by omega)
            rw [ec]
            have l17 := intRun_le (tailOf r i)
            refine ⟨_, v, rfl, hv, ?_, kk v _ (eW true er2) (kf true)⟩
            rw [tS_len, List.length_take]
            omega
          · rw [decide_eq_false p] at er2 ⊢
            exact ⟨_, rfl, k, _, _, _, rfl, rfl, SqL.of upd_same, atI_nat (j := 2) rfl, _, rfl, iteF (kk 0 _ (eW false er2) (kf false))⟩
    refine ⟨_, pss_cons (ps_set (i := 2) scInt4.nd rfl (Or.inl rfl) (pe_ix ix_list (pv 0) pe_int (fun _ _ => rfl)))
      (pss_cons (ps_if (PW.pt (pw_and (pt_val (pv 1)) (pw_and1 (pt_val (pe_call GS hr (by rfl) gS kS bS .nil pass0 (pa_cons (pv 0) (pa_cons pe_str pa_nil)))))))
        (pss_cons (ps_asg (pe_op op_add (pv 2) pe_int) (pg_sub (pv 0) pe_int set_list))
          (pss_one (ps_asg (pe_not (pe_call GS hr (by rfl) gS kS bS .nil pass0 (pa_cons (pv 0) (pa_cons pe_str pa_nil)))) (pg_sub (pv 0) pe_int set_list)))) pss_nil) hR), ?_⟩
    refine ⟨_, rfl, k, _, _, _, rfl, rfl, SqL.of W, atI_nat (j := 1) rfl, _, rfl, _, rfl, iteT ?_⟩
    refine ⟨_, rfl, k, r, i, 45, true, rfl, W, le, by omega, _, rfl, ?_⟩
    rw [Bool.true_and]
    have hd0 : (tailOf r i).head? = some 45 → i < r.length := fun h => by
      rw [head_at] at h
      have z := (List.getElem?_eq_some_iff.mp h).1
      have y : r.cps.toList.length = r.length := Array.length_toList
      omega
    have td : (tailOf r i).drop 1 = tailOf r (i + 1) := List.drop_drop
    by_cases h45 : (tailOf r i).head? = some 45
    · rw [decide_eq_true h45]
      have ilt := hd0 h45
      have et : tailOf r i = 45 :: tailOf r (i + 1) := by
        cases hl : tailOf r i with
        | nil =>
          rw [hl] at h45
          cases h45
        | cons c t =>
          rw [hl] at h45 td
          have z : c = 45 := Option.some.inj h45
          rw [z, ← td]
          rfl
      have W1 : Wk (upd H k (.lst [.str r, .int ((i + 1 : Nat) : Int), .bl true])) k r (i + 1) true := upd_same
      refine iteT ⟨_, rfl, _, _, rfl, rfl, _, rfl, k, _, _, 1, rfl, rfl, W, rfl, ?_⟩
      refine ⟨_, rfl, k, r, i + 1, 48, true, rfl, W1, ilt, by omega, _, rfl, _, rfl, k, _, _, 2, rfl, rfl, W1, rfl, ?_⟩
      rw [Bool.true_and]
      have k3 : ∀ (b2 : Bool) a o, H a = some o → a ≠ k → (upd (upd H k (.lst [.str r, .int ((i + 1 : Nat) : Int), .bl true])) k (.lst [.str r, .int ((i + 1 : Nat) : Int), .bl b2])) a = some o := fun b2 a o e n => by
        rw [upd_ne n, upd_ne n]
        exact e
      have er := intRun_minus (t := tailOf r (i + 1))
      rw [← et] at er
      by_cases h48 : (tailOf r (i + 1)).head? = some 48
      · rw [decide_eq_true h48]
        rw [if_pos h48] at er
        refine rR (i + 1) 0 false _ upd_same (k3 false) (by omega) ilt (fun z => nomatch z) (fun _ => rfl) ?_ ?_
        · rw [er]
          show 1 = i + 1 - i + 0
          omega
        · rw [er]
          rfl
      · rw [decide_eq_false h48]
        rw [if_neg h48] at er
        refine rR (i + 1) (numLen (tailOf r (i + 1))) true _ upd_same (k3 true) (by omega) ilt (fun _ => rfl) (fun z => nomatch z) ?_ ?_
        · rw [er]
          show 1 + numLen _ = i + 1 - i + numLen _
          omega
        · rw [er, Bool.true_and]
    · rw [decide_eq_false h45]
      have er := intRun_plain h45
      refine iteF (rR i (numLen (tailOf r i)) true H W (fun _ _ e _ => e) (Nat.le_refl _) le (fun _ => rfl) (fun z => nomatch z) ?_ ?_)
      · rw [er]
        show numLen _ = i - i + numLen _
        omega
      · rw [er, Bool.true_and]
end
end Mine
namespace Mine
open PySem L2 PySem.Spec PyProof.Rows Pic
/-! ### lines -/
abbrev sLines : Stmt := top 29
theorem spl_ne (l acc : List Nat) : TL.spl [10] 0 acc l ≠ [] := by
  induction l generalizing acc with
  | nil => exact List.cons_ne_nil _ _
  | cons c r ih =>
    show (if TL.pre [10] (c :: r) = true then acc :: TL.spl [10] 0 [] r else TL.spl [10] 0 (acc ++ [c]) r) ≠ []
    split
    · exact List.cons_ne_nil _ _
    · exact ih _
theorem pre10 (c : Nat) (r : List Nat) : (TL.pre [10] (c :: r) = true) ↔ c = 10 := by
  show (([c] : List Nat) == [10]) = true ↔ c = 10
  rw [beq_iff_eq]
  constructor
  · intro h
    exact (List.cons.inj h).1
  · rintro rfl
    rfl
theorem lines_spl (l acc : List Nat) : linesOf acc l = (TL.spl [10] 0 acc l).dropLast.map (· ++ [10]) ++ (if (TL.spl [10] 0 acc l).getLast (spl_ne l acc) = [] then [] else [(TL.spl [10] 0 acc l).getLast (spl_ne l acc)]) := by
  induction l generalizing acc with
  | nil => rfl
  | cons c r ih =>
    by_cases e : c = 10
    · have es : TL.spl [10] 0 acc (c :: r) = acc :: TL.spl [10] 0 [] r := by
        show (if TL.pre [10] (c :: r) = true then acc :: TL.spl [10] 0 [] r else _) = _
        rw [if_pos ((pre10 c r).mpr e)]
      have el : linesOf acc (c :: r) = (acc ++ [10]) :: linesOf [] r := by rw [linesOf, if_pos e]
      rw [el, ih]
      simp only [es, List.dropLast_cons_of_ne_nil (spl_ne r []), List.map_cons, List.cons_append, List.getLast_cons (spl_ne r [])]
    · have es : TL.spl [10] 0 acc (c :: r) = TL.spl [10] 0 (acc ++ [c]) r := by
        show (if TL.pre [10] (c :: r) = true then _ else TL.spl [10] 0 (acc ++ [c]) r) = _
        rw [if_neg (fun h => e ((pre10 c r).mp h))]
      have el : linesOf acc (c :: r) = linesOf (acc ++ [c]) r := by rw [linesOf, if_neg e]
      rw [el, ih]
      simp only [es]
theorem spl_len (l acc : List Nat) : (TL.spl [10] 0 acc l).length ≤ l.length + 1 := by
  induction l generalizing acc with
  | nil => exact Nat.le_refl _
  | cons c r ih =>
    show (if TL.pre [10] (c :: r) = true then acc :: TL.spl [10] 0 [] r else TL.spl [10] 0 (acc ++ [c]) r).length ≤ r.length + 1 + 1
    split
    · rw [List.length_cons]
      exact Nat.succ_le_succ (ih [])
    · exact Nat.le_trans (ih _) (Nat.le_succ _)
theorem spl_item (l acc : List Nat) : ∀ p ∈ TL.spl [10] 0 acc l, p.length ≤ acc.length + l.length := by
  induction l generalizing acc with
  | nil =>
    intro p hp
    have z : p = acc := List.mem_singleton.1 hp
    rw [z]
    exact Nat.le_add_right _ _
  | cons c r ih =>
    intro p hp
    have hp' : p ∈ (if TL.pre [10] (c :: r) = true then acc :: TL.spl [10] 0 [] r else TL.spl [10] 0 (acc ++ [c]) r) := hp
    rw [List.length_cons]
    split at hp'
    · rcases List.mem_cons.1 hp' with e | h
      · rw [e]
        exact Nat.le_add_right _ _
      · have z := ih [] p h
        rw [List.length_nil] at z
        omega
    · have z := ih _ p hp'
      rw [List.length_append] at z
      simp only [List.length_cons, List.length_nil] at z
      omega
theorem lc_itl {K : PySem.W.Frag} {g : TG} {te : TE} {vs : List Nat} {σ : L2.St} {H1 : Hp} {D : Addr} {Qd : Hp → Prop} {a : Addr} {xs : List V} (ys : List V) (hx : SqL K H1 a xs) (len : ys.length = xs.length) (short : xs.length ≤ 100000) (hD : H1 D = none)
    (turn : ∀ (j : Nat) (x y : V) (H' : Hp) (R : VK), xs[j]? = some x → ys[j]? = some y → Same H1 H' → (∀ H4, Same H' H4 → R y H4) → g x (wipe σ vs) H' fun σ2 H2 => wipe σ2 vs = wipe σ vs ∧ te σ2 H2 R)
    (hd : ∀ H, Same H1 H → H D = some (.lst ys) → Qd H) :
    ∃ W : Nat → Nat → Hp → Prop, (∃ m, W 0 m (upd H1 D (.lst []))) ∧ ∀ i m H, W i m H → ((Itl K a).stop i H ∧ Qd H) ∨ ((Itl K a).go i H ∧ ∃ Nx : Hp → Prop, (∀ H', Nx H' → ∃ m', m' < m ∧ W (i + 1) m' H') ∧ ∀ x H', (Itl K a).yld i H x H' → g x (wipe σ vs) H' fun σ2 H2 => wipe σ2 vs = wipe σ vs ∧ tYes σ2 H2 fun b H3 =>
      if b = true then te σ2 H3 fun y H4 => ∃ acc, H4 D = some (.lst acc) ∧ acc.length < sizeLine ∧ Nx (upd H4 D (.lst (acc ++ [y]))) else Nx H3) := by
  refine lc_pure (n := xs.length) ys len short hD (fun j H2 lt s2 => ⟨xs, xs[j], s2.seq hx, List.getElem?_eq_getElem lt⟩) (fun H2 s2 => ⟨xs, s2.seq hx, Nat.le_refl _⟩) ?_ hd
  rintro j y H2 x H3 R ey s2 ⟨rfl, hy⟩ k
  exact turn j x y _ R (hy xs (s2.seq hx)) ey s2 k
section
variable {w : World} {P : Program} {base : Heap} {K : PySem.W.Frag} {mg : Str → Option Value}
abbrev txts (ls : List (List Nat)) : List V := ls.map fun l => V.str (tS l)
theorem scLi : FnScope ["_law_text", "_law_rows", "_law_row"] ["_law_text"] (defScope sLines) := ⟨rfl, rfl, rfl, by decide +kernel, rfl, by decide +kernel, by decide +kernel⟩
theorem lines_parts (l : List Nat) : ∃ qs z, TL.spl [10] 0 [] l = qs ++ [z] ∧ linesOf [] l = qs.map (· ++ [10]) ++ (if z = [] then [] else [z]) := ⟨_, _, (List.dropLast_concat_getLast (spl_ne l [])).symm, lines_spl l []⟩
def spLines : Sp := fun vs H Q _ => ∃ l : List Nat, vs = [.str (tS l)] ∧ l.length ≤ 90000 ∧ ∀ p H', H p = none → Same H H' → H' p = some (.lst (txts (linesOf [] l))) → Q (.ref p) H'
theorem split_feed (l : List Nat) : Txt.split (tS l) "\n" = (TL.spl [10] 0 [] l).map SX.S := SX.split_S (a := l) (b := [10]) (List.cons_ne_nil _ _) rfl
theorem txts_eq (ls : List (List Nat)) : (ls.map SX.S).map V.str = txts ls := by
  rw [List.map_map]
  rfl
theorem ok_lines {f : Addr} {fd : FuncData} (F : Fun K "_law_a_lines" "_law_a_lines" sLines f fd) : FnOk P w K mg base CX0 1 f fd ["_law_text"] spLines := by
  refine F.ok (k := 0) scLi (fun vs H Q E h => ?_) (fun cdv A outer s H vs Q E hr h => ?_)
  · obtain ⟨l, rfl, _⟩ := h
    rfl
  · obtain ⟨l, rfl, len, kk⟩ := h
    refine ⟨_, pss_cons (ps_set (i := 1) scLi.nd rfl (Or.inl rfl) (pe_split (pv 0) pe_str))
      (pss_one (ps_ret (pe_op op_cat (pe_lc (own := [("_law_row", 2)]) (g := gName 2) (tt := tYes) (te := tOp (fun x y H Q => ∃ i j, x = V.str i ∧ y = V.str j ∧ i.length + j.length ≤ sizeLine ∧ Q (.str (i ++ j)) H) (tVar 2) (tC (.str "\n"))) rfl scLi.nd (pi_list (pe_slice sl_list (pv 1) po_none (po_some (pe_un un_neg pe_int)))) (blkOk_by (own := [("_law_row", 2)]) (N := ["_law_text", "_law_rows", "_law_row"]) (sc := defScope sLines) (by decide +kernel)) (fun _ _ _ _ _ => pg_name (i := 2) scLi.nd rfl (Or.inl rfl)) (fun _ _ _ _ _ => pts_nil)
          (fun _ _ _ _ _ => pe_op op_add_str (pv 2) pe_str))
        (pe_ifExp (pt_cmpR op_ne (pe_ix ix_list (pv 1) (pe_un un_neg pe_int) (fun _ _ => rfl)) pe_str (nomark _)) (pe_lst (pa_cons (pe_ix ix_list (pv 1) (pe_un un_neg pe_int) (fun _ _ => rfl)) pa_nil)) (pe_lst pa_nil))))), ?_⟩
    have big : 100000 ≤ sizeLine := by decide
    have sl := spl_len l []
    have si := spl_item l []
    obtain ⟨qs, z, eps, ls⟩ := lines_parts l
    rw [eps] at sl si
    refine ⟨_, rfl, ⟨_, rfl⟩, tS l, "\n", rfl, rfl, rfl, by rw [tS_len]; omega, fun R hR => ?_⟩
    rw [split_feed, txts_eq, eps]
    rw [ls] at kk
    rw [List.length_append] at sl
    simp only [List.length_cons, List.length_nil] at sl
    have s1 : Same H (upd H R (.lst (txts (qs ++ [z])))) := same_new hR
    have at1 : (upd H R (.lst (txts (qs ++ [z])))) R = some (.lst (txts (qs ++ [z]))) := upd_same
    generalize upd H R (.lst (txts (qs ++ [z]))) = H1 at s1 at1 ⊢
    have tx : txts (qs ++ [z]) = txts qs ++ [V.str (tS z)] := List.map_append
    rw [tx] at at1
    have lq : (txts qs).length = qs.length := List.length_map ..
    refine ⟨_, rfl, _, rfl, _, rfl, R, _, rfl, SqL.of at1, fun W hW => ?_⟩
    have cut : cutV (txts qs ++ [V.str (tS z)]) none (some (-1)) = txts qs := by
      unfold cutV
      have e1 : HT.sIx (txts qs ++ [V.str (tS z)]).length 0 none = 0 := rfl
      have e2 : HT.sIx (txts qs ++ [V.str (tS z)]).length (txts qs ++ [V.str (tS z)]).length (some (-1)) = (txts qs).length := by
        show (if (-1 : Int) < 0 then ((-1 : Int) + ((txts qs ++ [V.str (tS z)]).length : Int)).toNat else min ((-1 : Int)).toNat (txts qs ++ [V.str (tS z)]).length) = _
        rw [if_pos (by decide), List.length_append]
        simp only [List.length_cons, List.length_nil]
        omega
      rw [e1, e2, List.drop_zero, Nat.sub_zero, List.take_left]
    rw [show (- (1 : Int)) = -1 from rfl, cut]
    have nR : W ≠ R := fun e => by
      rw [e, at1] at hW
      cases hW
    have s2 : Same H1 (upd H1 W (.lst (txts qs))) := same_new hW
    have at2 : (upd H1 W (.lst (txts qs))) W = some (.lst (txts qs)) := upd_same
    generalize upd H1 W (.lst (txts qs)) = H2 at s2 at2 ⊢
    refine ⟨W, rfl, ⟨_, SqL.of at2⟩, fun D hD => ?_⟩
    refine lc_itl (txts (qs.map (· ++ [10]))) (SqL.of at2) (by rw [lq]; show ((qs.map (· ++ [10])).map _).length = _; rw [List.length_map, List.length_map]) (by omega) hD (fun j x y H3 R' ex ey s3 k => ?_) fun H3 s3 at3 => ?_
    · rw [List.getElem?_map] at ex
      have ey' : ((qs.map (· ++ [10])).map fun l => V.str (tS l))[j]? = some y := ey
      rw [List.getElem?_map, List.getElem?_map] at ey'
      cases eq : qs[j]? with
      | none =>
        rw [eq] at ex
        cases ex
      | some q =>
        rw [eq] at ex ey'
        cases ex
        cases ey'
        have lj := si q (List.mem_append_left _ (List.mem_of_getElem? eq))
        rw [List.length_nil] at lj
        refine ⟨rfl, _, rfl, _, _, rfl, rfl, ?_, ?_⟩
        · rw [tS_len]
          show q.length + 1 ≤ sizeLine
          omega
        · have e : (tS q ++ ("\n" : Str)) = tS (q ++ [10]) := SX.S_cat q [10]
          rw [e]
          exact k H3 (Same.refl _)
    · have at1' := s3 _ _ (s2 _ _ at1)
      have sAll := Same.trans s1 (Same.trans s2 s3)
      have lastI : atI (txts qs ++ [V.str (tS z)]) (-1) = some (V.str (tS z)) := atI_last _ _
      have ez : (!decide (V.str (tS z) = V.str "")) = !decide (z = []) := by
        rw [dec_s]
        congr 1
        by_cases q : z = []
        · rw [q]
          rfl
        · rw [decide_eq_false q, decide_eq_false (show ¬ tS z = ("" : Str) from fun h => q (SX.S_inj (a := z) (b := []) h))]
      refine ⟨_, rfl, _, rfl, R, _, _, _, rfl, rfl, SqL.of at1', lastI, rfl, _, rfl, ?_⟩
      rw [ez]
      have fin : ∀ (H4 : Hp) (U : Addr) (zs : List (List Nat)), Same H3 H4 → H3 U = none → H4 U = some (.lst (txts zs)) → (if z = [] then [] else [z]) = zs → zs.length ≤ 1 → ∃ l b xs ys, V.ref D = .ref l ∧ V.ref U = .ref b ∧ H4 l = some (.lst xs) ∧ H4 b = some (.lst ys) ∧ xs.length + ys.length ≤ sizeLine ∧ ∀ p, H4 p = none → Q (.ref p) (upd H4 p (.lst (xs ++ ys))) := by
        intro H4 U zs s4 nU atU ezs lz
        refine ⟨D, U, _, _, rfl, rfl, s4 _ _ at3, atU, ?_, fun p np => kk p _ ((Same.trans sAll s4).free np) (Same.trans sAll (Same.trans s4 (same_new np))) ?_⟩
        · show ((qs.map (· ++ [10])).map _).length + (zs.map _).length ≤ _
          rw [List.length_map, List.length_map, List.length_map]
          omega
        · rw [upd_same, ezs]
          congr 2
          rw [show txts (qs.map (· ++ [10]) ++ zs) = txts (qs.map (· ++ [10])) ++ txts zs from List.map_append]
      by_cases q : z = []
      · rw [decide_eq_true q]
        refine iteF ⟨Nat.zero_le _, fun U nU => fin _ U [] (same_new nU) nU upd_same (if_pos q) (Nat.zero_le _)⟩
      · rw [decide_eq_false q]
        refine iteT ⟨_, rfl, _, rfl, R, _, _, _, rfl, rfl, SqL.of at1', lastI, (by show 1 ≤ sizeLine; omega), fun U nU => fin _ U [z] (same_new nU) nU upd_same (if_neg q) (Nat.le_refl _)⟩
end
end Mine
namespace Mine
open PySem L2 PySem.Spec PyProof.Rows Pic
/-! ### the law's own reader: rows -/
abbrev sWrong4 : Stmt := top 38
def rowInt (f w h : Nat) (l : List Nat) : Nat × Option (List Int) :=
  if (intRun l).2 = true then ((intRun l).1 + (rowRest f w (h + 1) (l.drop (intRun l).1)).1, (rowRest f w (h + 1) (l.drop (intRun l).1)).2.map (intVal l :: ·)) else ((intRun l).1, none)
def RowSt (wd : Nat) (L : List Nat) (j i : Nat) (b : Bool) (here : Nat) (more : Bool) : Prop :=
  (b = true ∧ more = true ∧ here = j ∧ 2 * j ≤ i ∧ i ≤ L.length ∧ ∃ f vals, (L.drop i).length < f ∧ vals.length = here ∧ rowFull wd L = (i + (rowInt f wd here (L.drop i)).1, (rowInt f wd here (L.drop i)).2.map (vals ++ ·))) ∨
  (b = false ∧ i ≤ L.length ∧ rowFull wd L = (i, none)) ∨
  (b = true ∧ more = false ∧ i ≤ L.length ∧ ∃ vals, vals.length = here ∧ rowFull wd L = (if (L.drop i).head? = some 10 then (i + 1, some vals) else (i, none)))
theorem rowSt_start (wd : Nat) (L : List Nat) : RowSt wd L 0 0 true 0 true := by
  refine .inl ⟨rfl, rfl, rfl, Nat.le_refl _, Nat.zero_le _, L.length + 1, [], Nat.lt_succ_self _, rfl, ?_⟩
  have e : rowFull wd L = rowInt (L.length + 1) wd 0 L := rfl
  rw [List.drop_zero, e, Nat.zero_add]
  show _ = (_, Option.map (fun x => x) _)
  rw [Option.map_id']
theorem dueTo_false (r : Str) : ∀ (ds : List Nat) (i : Nat), dueTo r (i, false) ds = (i, false)
  | [], _ => rfl
  | d :: ds, i => by
    rw [dueTo, if_neg (by rw [Bool.false_and]; exact Bool.false_ne_true)]
    exact dueTo_false r ds i
theorem dueTo_one (r : Str) (i d : Nat) : dueTo r (i, true) [d] = if (tailOf r i).head? = some d then (i + 1, true) else (i, false) := by
  rw [dueTo]
  by_cases h : (tailOf r i).head? = some d
  · rw [if_pos (by rw [decide_eq_true h]; rfl), if_pos h]
    rfl
  · rw [if_neg (by rw [decide_eq_false h]; exact Bool.false_ne_true), if_neg h]
    rfl
/-- whether one more integer is due, as the own reader asks -/
def moreB (wd h : Nat) (ok : Bool) (l : List Nat) : Bool := if 0 < wd then decide (h < wd) else (ok && decide (l.head? = some 32))
theorem rowSt_step {wd j i here : Nat} {r : Str} (h : RowSt wd r.cps.toList j i true here true) : RowSt wd r.cps.toList (j + 1)
    (dueTo r (i + (intRun (tailOf r i)).1, (intRun (tailOf r i)).2) (if moreB wd (here + 1) (intRun (tailOf r i)).2 (tailOf r (i + (intRun (tailOf r i)).1)) = true then [32] else [])).1
    (dueTo r (i + (intRun (tailOf r i)).1, (intRun (tailOf r i)).2) (if moreB wd (here + 1) (intRun (tailOf r i)).2 (tailOf r (i + (intRun (tailOf r i)).1)) = true then [32] else [])).2
    (here + 1) (moreB wd (here + 1) (intRun (tailOf r i)).2 (tailOf r (i + (intRun (tailOf r i)).1))) := by
  rcases h with ⟨_, _, hj, hi, il, f, vals, lf, lv, full⟩ | ⟨z, _⟩ | ⟨_, z, _⟩
  · have i1 := (intRun_le (tailOf r i)).1
    have tl : (tailOf r i).length = r.cps.toList.length - i := List.length_drop
    have tdef : r.cps.toList.drop i = tailOf r i := rfl
    rw [tdef] at full lf
    cases ok : (intRun (tailOf r i)).2 with
    | false =>
      rw [dueTo_false]
      refine .inr (.inl ⟨rfl, by show i + _ ≤ _; omega, ?_⟩)
      rw [full]
      unfold rowInt
      rw [if_neg (by rw [ok]; exact Bool.false_ne_true)]
      rfl
    | true =>
      have i2 := intRun_pos ok
      have dd : (tailOf r i).drop (intRun (tailOf r i)).1 = tailOf r (i + (intRun (tailOf r i)).1) := List.drop_drop
      unfold rowInt at full
      rw [if_pos ok, dd] at full
      obtain ⟨f, rfl⟩ : ∃ k, f = k + 1 := ⟨f - 1, by omega⟩
      have tl2 : (tailOf r (i + (intRun (tailOf r i)).1)).length = r.cps.toList.length - (i + (intRun (tailOf r i)).1) := List.length_drop
      generalize hm : (intRun (tailOf r i)).1 = m at *
      generalize hv : intVal (tailOf r i) = v at *
      have comb : ∀ (R : Nat × Option (List Int)), (i + (m + R.1), Option.map (vals ++ ·) (R.2.map (v :: ·))) = (i + m + R.1, R.2.map ((vals ++ [v]) ++ ·)) := fun R => by
        rw [Option.map_map, Nat.add_assoc]
        congr 2
        funext x
        show vals ++ (v :: x) = vals ++ [v] ++ x
        rw [List.append_assoc]
        rfl
      have full2 : rowFull wd r.cps.toList = (i + m + (rowRest (f + 1) wd (here + 1) (tailOf r (i + m))).1, (rowRest (f + 1) wd (here + 1) (tailOf r (i + m))).2.map ((vals ++ [v]) ++ ·)) := by
        rw [full]
        exact comb _
      cases hmo : moreB wd (here + 1) true (tailOf r (i + m)) with
      | true =>
        rw [if_pos rfl, dueTo_one]
        by_cases h32 : (tailOf r (i + m)).head? = some 32
        · rw [if_pos h32]
          have mem : 32 ∈ behind wd (here + 1) := by
            unfold behind
            unfold moreB at hmo
            by_cases w0 : wd = 0
            · rw [if_pos w0]
              exact List.mem_cons_self ..
            · rw [if_pos (by omega)] at hmo
              rw [if_neg w0, if_pos (of_decide_eq_true hmo)]
              exact List.mem_cons_self ..
          have l1 : 1 ≤ (tailOf r (i + m)).length := by
            cases hl : tailOf r (i + m) with
            | nil =>
              rw [hl] at h32
              cases h32
            | cons a t => exact Nat.succ_le_succ (Nat.zero_le _)
          have d1 : (tailOf r (i + m)).drop 1 = tailOf r (i + m + 1) := List.drop_drop
          have er : rowRest (f + 1) wd (here + 1) (tailOf r (i + m)) = (1 + (rowInt f wd (here + 1) (tailOf r (i + m + 1))).1, (rowInt f wd (here + 1) (tailOf r (i + m + 1))).2) := by
            rw [rowRest_step h32, if_pos mem, if_neg (by decide), d1]
            unfold rowInt
            have d2 : ∀ q, (tailOf r (i + m)).drop (1 + q) = (tailOf r (i + m + 1)).drop q := fun q => by
              rw [← d1]
              exact List.drop_drop.symm
            rw [d2]
            by_cases ok2 : (intRun (tailOf r (i + m + 1))).2 = true
            · rw [if_pos ok2, if_pos ok2, Nat.add_assoc]
            · rw [if_neg ok2, if_neg ok2]
          have tl3 : (tailOf r (i + m + 1)).length = r.cps.toList.length - (i + m + 1) := List.length_drop
          refine .inl ⟨rfl, rfl, by omega, by show 2 * (j + 1) ≤ i + m + 1; omega, by show i + m + 1 ≤ _; omega, f, vals ++ [v], by show (tailOf r (i + m + 1)).length < f; omega, by rw [List.length_append, lv]; rfl, ?_⟩
          rw [full2, er]
          show (i + m + (1 + _), _) = (i + m + 1 + _, _)
          rw [Nat.add_assoc (i + m) 1]
        · rw [if_neg h32]
          refine .inr (.inl ⟨rfl, by show i + m ≤ _; omega, ?_⟩)
          have w0 : 0 < wd := by
            unfold moreB at hmo
            by_cases w0 : 0 < wd
            · exact w0
            · rw [if_neg w0, decide_eq_false h32] at hmo
              cases hmo
          unfold moreB at hmo
          rw [if_pos w0] at hmo
          have hb : behind wd (here + 1) = [32] := by
            unfold behind
            rw [if_neg (by omega), if_pos (of_decide_eq_true hmo)]
          have er : rowRest (f + 1) wd (here + 1) (tailOf r (i + m)) = (0, none) := by
            cases hh : (tailOf r (i + m)).head? with
            | none => exact rowRest_none hh
            | some c =>
              rw [rowRest_step hh, hb, if_neg]
              intro hc
              rw [List.mem_singleton.1 hc] at hh
              exact h32 hh
          rw [full2, er]
          rfl
      | false =>
        rw [if_neg Bool.false_ne_true]
        refine .inr (.inr ⟨rfl, rfl, by show i + m ≤ _; omega, vals ++ [v], by rw [List.length_append, lv]; rfl, ?_⟩)
        have er : rowRest (f + 1) wd (here + 1) (tailOf r (i + m)) = if (tailOf r (i + m)).head? = some 10 then (1, some []) else (0, none) := by
          have hb : behind wd (here + 1) = [32, 10] ∧ (tailOf r (i + m)).head? ≠ some 32 ∨ behind wd (here + 1) = [10] := by
            unfold moreB at hmo
            unfold behind
            by_cases w0 : wd = 0
            · rw [if_pos w0]
              rw [if_neg (by omega), Bool.true_and] at hmo
              exact .inl ⟨rfl, of_decide_eq_false hmo⟩
            · rw [if_pos (by omega)] at hmo
              rw [if_neg w0, if_neg (of_decide_eq_false hmo)]
              exact .inr rfl
          cases hh : (tailOf r (i + m)).head? with
          | none =>
            rw [rowRest_none hh, if_neg (fun z => nomatch z)]
          | some c =>
            rw [hh] at hb
            rw [rowRest_step hh]
            by_cases c10 : c = 10
            · have mem : c ∈ behind wd (here + 1) := by
                rcases hb with ⟨e, _⟩ | e
                · rw [e, c10]
                  decide
                · rw [e, c10]
                  decide
              rw [if_pos mem, if_pos c10, if_pos (by rw [c10])]
            · have mem : c ∉ behind wd (here + 1) := by
                rcases hb with ⟨e, n32⟩ | e
                · rw [e]
                  intro hc
                  rcases List.mem_cons.1 hc with q | q
                  · exact n32 (by rw [q])
                  · exact c10 (List.mem_singleton.1 q)
                · rw [e]
                  exact fun hc => c10 (List.mem_singleton.1 hc)
              rw [if_neg mem, if_neg (fun z => c10 (Option.some.inj z))]
        rw [full2, er]
        have td : (tailOf r (i + m)).head? = (r.cps.toList.drop (dueTo r (i + m, true) []).1).head? := rfl
        rw [← td]
        by_cases h10 : (tailOf r (i + m)).head? = some 10
        · rw [if_pos h10, if_pos h10]
          show (_, some (vals ++ [v] ++ [])) = _
          rw [List.append_nil]
          rfl
        · rw [if_neg h10, if_neg h10]
          rfl
  · cases z
  · cases z
end Mine
namespace Mine
open PySem L2 PySem.Spec PyProof.Rows Pic
theorem lines_ne : ∀ (l acc : List Nat), ∀ r ∈ linesOf acc l, r ≠ []
  | [], acc, r, h => by
    rw [linesOf] at h
    by_cases e : acc = []
    · rw [if_pos e] at h
      cases h
    · rw [if_neg e] at h
      rw [List.mem_singleton.1 h]
      exact e
  | c :: l, acc, r, h => by
    rw [linesOf] at h
    by_cases e : c = 10
    · rw [if_pos e] at h
      rcases List.mem_cons.1 h with q | q
      · rw [q]
        intro z
        exact absurd (List.append_eq_nil_iff.mp z).2 (List.cons_ne_nil _ _)
      · exact lines_ne l [] r q
    · rw [if_neg e] at h
      exact lines_ne l _ r h
theorem lines_count : ∀ (l acc : List Nat), (linesOf acc l).length ≤ l.length + 1
  | [], acc => by
    rw [linesOf]
    split <;> simp
  | c :: l, acc => by
    rw [linesOf]
    split
    · have z := lines_count l []
      rw [List.length_cons, List.length_cons]
      omega
    · have z := lines_count l (acc ++ [c])
      rw [List.length_cons]
      omega
theorem lines_item : ∀ (l acc : List Nat), ∀ r ∈ linesOf acc l, r.length ≤ acc.length + l.length
  | [], acc, r, h => by
    rw [linesOf] at h
    split at h
    · cases h
    · rw [List.mem_singleton.1 h]
      exact Nat.le_add_right _ _
  | c :: l, acc, r, h => by
    rw [linesOf] at h
    rw [List.length_cons]
    split at h
    · rcases List.mem_cons.1 h with q | q
      · rw [q, List.length_append]
        simp only [List.length_cons, List.length_nil]
        omega
      · have z := lines_item l [] r q
        rw [List.length_nil] at z
        omega
    · have z := lines_item l _ r h
      rw [List.length_append] at z
      simp only [List.length_cons, List.length_nil] at z
      omega
theorem rowSt_skip {wd j i here : Nat} {L : List Nat} {b more : Bool} (h : RowSt wd L j i b here more) (no : more = false ∨ b = false) : RowSt wd L (j + 1) i b here more := by
  rcases h with ⟨h1, h2, _⟩ | h | h
  · rcases no with e | e
    · rw [e] at h2
      cases h2
    · rw [e] at h1
      cases h1
  · exact .inr (.inl h)
  · exact .inr (.inr h)
theorem rowSt_le {wd j i here : Nat} {L : List Nat} {b more : Bool} (h : RowSt wd L j i b here more) : i ≤ L.length := by
  rcases h with ⟨_, _, _, _, h, _⟩ | ⟨_, h, _⟩ | ⟨_, _, h, _⟩ <;> exact h
theorem rowSt_end {wd i here : Nat} {r : Str} {b more : Bool} (ne : r.cps.toList ≠ []) (h : RowSt wd r.cps.toList r.cps.toList.length i b here more) :
    ((dueTo r (i, b) [10]).2 = true ∧ ∃ m vals, rowFull wd r.cps.toList = (m, some vals) ∧ vals.length = here) ∨ ((dueTo r (i, b) [10]).2 = false ∧ rowFull wd r.cps.toList = ((dueTo r (i, b) [10]).1, none)) := by
  have pos : 0 < r.cps.toList.length := List.length_pos_iff.mpr ne
  rcases h with ⟨_, _, _, h1, h2, _⟩ | ⟨rfl, _, h⟩ | ⟨rfl, _, _, vals, lv, h⟩
  · omega
  · rw [dueTo_false]
    exact .inr ⟨rfl, h⟩
  · rw [dueTo_one]
    have td : (r.cps.toList.drop i).head? = (tailOf r i).head? := rfl
    rw [td] at h
    by_cases h10 : (tailOf r i).head? = some 10
    · rw [if_pos h10] at h ⊢
      exact .inl ⟨rfl, _, vals, h, lv⟩
    · rw [if_neg h10] at h ⊢
      exact .inr ⟨rfl, h⟩
section
variable {w : World} {P : Program} {base : Heap} {K : PySem.W.Frag} {mg : Str → Option Value}
theorem scWr4 : FnScope ["_law_text", "_law_many", "_law_number", "_law_row", "_law_walk", "_law_here", "_law_is_more", "_law_k"] ["_law_text"] (defScope sWrong4) := ⟨rfl, rfl, rfl, by decide +kernel, rfl, by decide +kernel, by decide +kernel⟩
def spWrong4 : Sp := fun vs H Q _ => ∃ l : List Nat, vs = [.str (tS l)] ∧ l.length ≤ 90000 ∧ (∀ rows H', picOf (tS l) = .ok rows → Same H H' → Q .non H') ∧
    ∀ ln sg p H', picOf (tS l) = .error (ln, sg) → Same H H' → H' p = some (.tup [.int ln, .int sg]) → Q (.ref p) H'
theorem ok_wrong4 {f : Addr} {fd : FuncData} (F : Fun K "_law_wrong" "_law_wrong" sWrong4 f fd) (T : TI4 mg) (KL : Kn P w K mg base CX0 1 "_law_a_lines" ["_law_text"] spLines) (KI : Kn P w K mg base CX0 2 "_law_a_integer" ["_law_walk", "_law_is_signed"] spInt4) (KS : Kn P w K mg base CX0 1 "_law_a_sees" ["_law_walk", "_law_sign"] spSees4) (KD : Kn P w K mg base CX0 1 "_law_a_due" ["_law_walk", "_law_due"] spDue4) : FnOk P w K mg base CX0 3 f fd ["_law_text"] spWrong4 := by
  obtain ⟨fL, fdL, GL, gL, kL, bL⟩ := KL
  obtain ⟨fI, fdI, GI, gI, kI, bI⟩ := KI
  obtain ⟨fS, fdS, GS, gS, kS, bS⟩ := KS
  obtain ⟨fD, fdD, GD, gD, kD, bD⟩ := KD
  refine F.ok scWr4 (fun vs H Q E h => ?_) (fun cdv A outer s H vs Q E hr h => ?_)
  · obtain ⟨l, rfl, _⟩ := h
    rfl
  · obtain ⟨l, rfl, len, good, bad⟩ := h
    have hr1 := hr.mono (show 1 ≤ 2 by decide)
    refine ⟨_, pss_cons (ps_set (i := 1) scWr4.nd rfl (Or.inl rfl) pe_int)
      (pss_cons (ps_for PassesOwn.never rfl (pi_enum (by rfl) T.enu (pa_cons (pe_call GL hr1 (by rfl) gL kL bL .nil pass0 (pa_cons (pv 0) pa_nil)) pa_nil)) (pg_tup rfl (pgs_cons (pg_name (i := 2) scWr4.nd rfl (Or.inl rfl)) (pgs_cons (pg_name (i := 3) scWr4.nd rfl (Or.inl rfl)) pgs_nil)))
        (pss_cons (ps_par3 (i := 4) (j := 5) (l := 6) rfl scWr4.nd rfl rfl rfl (by decide) (by decide) (by decide) rfl rfl rfl (pa_cons (pe_lst (pa_cons (pv 3) (pa_cons pe_int (pa_cons pe_bl pa_nil)))) (pa_cons pe_int (pa_cons pe_bl pa_nil))) rfl)
        (pss_cons (ps_for PassesOwn.never rfl (pi_range1 rfl T.range (pa_cons (pe_callB call_len (by rfl) T.len PySem.boot_len (pa_cons (pv 3) pa_nil)) pa_nil)) (pg_name (i := 7) scWr4.nd rfl (Or.inl rfl))
          (pss_one (ps_if (PW.pt (pw_and (pt_val (pv 6)) (pw_and1 (pt_val (pe_ix ix_list (pv 4) pe_int (fun _ _ => rfl))))))
            (pss_cons (ps_expr (pe_call GI hr (by rfl) gI kI bI .nil pass0 (pa_cons (pv 4) (pa_cons pe_bl pa_nil))))
            (pss_cons (ps_set (i := 5) scWr4.nd rfl (Or.inl rfl) (pe_op op_add (pv 5) pe_int))
            (pss_cons (ps_set (i := 6) scWr4.nd rfl (Or.inl rfl) (pe_ifExp (pt_cmpR op_gt (pv 1) pe_int (nomark _)) (pe_cmpR op_lt (pv 5) (pv 1) (nomark _)) (pe_call GS hr1 (by rfl) gS kS bS .nil pass0 (pa_cons (pv 4) (pa_cons pe_str pa_nil)))))
            (pss_one (ps_expr (pe_call GD hr1 (by rfl) gD kD bD .nil pass0 (pa_cons (pv 4) (pa_cons (pe_ifExp (pt_val (pv 6)) pe_str pe_str) pa_nil)))))))) pss_nil)))
        (pss_cons (ps_expr (pe_call GD hr1 (by rfl) gD kD bD .nil pass0 (pa_cons (pv 4) (pa_cons pe_str pa_nil))))
        (pss_cons (ps_set (i := 1) scWr4.nd rfl (Or.inl rfl) (pv 5))
        (pss_one (ps_if (pt_not (pt_val (pe_ix ix_list (pv 4) pe_int (fun _ _ => rfl)))) (pss_one (ps_ret (pe_tup (pa_cons (pe_op op_add (pv 2) pe_int) (pa_cons (pe_op op_add (pe_ix ix_list (pv 4) pe_int (fun _ _ => rfl)) pe_int) pa_nil))))) pss_nil)))))))
      (pss_one (ps_ret pe_non))), ?_⟩
    have big : 100000 < sizeLine := by decide
    have lc := lines_count l []
    have li := lines_item l []
    have ln := lines_ne l []
    have start : picOf (tS l) = picLines none 1 (linesOf [] l) := picLines_eq _ none 1 l (by rw [tS_len]; exact Nat.lt_succ_self _)
    refine ⟨_, rfl, l, rfl, len, fun p H1 np s1 hp => ⟨p, _, rfl, SqL.of hp, ?_⟩⟩
    refine for_any (n := (linesOf [] l).length) (fun i σ H' => ∃ (w : Option Nat) (v2 v3 v4 v5 v6 v7 : Option V), σ = [some (.str (tS l)), some (.int (w.getD 0 : Nat)), v2, v3, v4, v5, v6, v7] ∧ Same H1 H' ∧ (w = none ∨ ∃ k, 0 < k ∧ w = some k) ∧
        (∀ rows, picLines w (1 + (i : Int)) ((linesOf [] l).drop i) = .ok rows → ∃ rows', picOf (tS l) = .ok rows') ∧ (∀ e, picLines w (1 + (i : Int)) ((linesOf [] l).drop i) = .error e → picOf (tS l) = .error e)) ?_ ?_ ?_ ?_ ?_
    · refine ⟨none, none, none, none, none, none, none, rfl, Same.refl _, .inl rfl, fun rows h => ⟨rows, ?_⟩, fun e h => ?_⟩
      · rw [start]
        exact h
      · rw [start]
        exact h
    · rintro i σ H2 lt ⟨_, _, _, _, _, _, _, _, s2, _⟩
      refine ⟨_, V.str (tS (linesOf [] l)[i]), SqL.of (s2 _ _ hp), ?_⟩
      show ((linesOf [] l).map _)[i]? = _
      rw [List.getElem?_map, List.getElem?_eq_getElem lt]
      rfl
    · rintro σ H2 ⟨_, _, _, _, _, _, _, _, s2, _⟩
      refine ⟨_, SqL.of (s2 _ _ hp), ?_⟩
      show ((linesOf [] l).map _).length ≤ _
      rw [List.length_map]
      exact Nat.le_refl _
    · rintro i σ H2 x H3 lt ⟨wo, v2, v3, v4, v5, v6, v7, rfl, s2, hwo, oks, ers⟩ ⟨Ta, x2, rfl, nT, rfl, hx⟩
      have ex := hx _ (SqL.of (s2 _ _ hp))
      have ex' : ((linesOf [] l).map fun l => V.str (tS l))[i]? = some x2 := ex
      rw [List.getElem?_map, List.getElem?_eq_getElem lt] at ex'
      have eL := List.getElem?_eq_getElem lt
      have dL : (linesOf [] l).drop i = (linesOf [] l)[i] :: (linesOf [] l).drop (i + 1) := List.drop_eq_getElem_cons lt
      rw [dL] at oks ers
      generalize (linesOf [] l)[i] = L at ex' eL oks ers
      have ex2 : V.str (tS L) = x2 := Option.some.inj ex'
      subst ex2
      have lenL := li L (List.mem_of_getElem? eL)
      have neL := ln L (List.mem_of_getElem? eL)
      rw [List.length_nil] at lenL
      have lr : (tS L).length = L.length := tS_len L
      have s3 : Same H2 (upd H2 Ta (.tup [.int (i : Nat), V.str (tS L)])) := same_new nT
      refine ⟨Ta, [.int (i : Nat), V.str (tS L)], rfl, .inl (.inl upd_same), rfl, _, [V.str (tS L)], rfl, _, [], rfl, rfl, ?_⟩
      generalize upd H2 Ta (.tup [.int (i : Nat), V.str (tS L)]) = H3 at s3 ⊢
      refine ⟨_, rfl, (by show 3 ≤ sizeLine; omega), fun k nk => ⟨_, _, _, rfl, ?_⟩⟩
      have s4 : Same H3 (upd H3 k (.lst [.str (tS L), .int 0, .bl true])) := same_new nk
      have W4 : Wk (upd H3 k (.lst [.str (tS L), .int 0, .bl true])) k (tS L) 0 true := upd_same
      have s14 := Same.trans s2 (Same.trans s3 s4)
      have nk1 : H1 k = none := s2.free (s3.free nk)
      generalize upd H3 k (.lst [.str (tS L), .int 0, .bl true]) = H4 at s4 W4 s14 ⊢
      generalize hwd : wo.getD 0 = wd at *
      refine ⟨_, rfl, _, _, rfl, ⟨by omega, rfl⟩, _, rfl, by omega, by rw [lr]; omega, ?_⟩
      have keepS : ∀ {H5 : Hp}, (∀ a o, H1 a = some o → a ≠ k → H5 a = some o) → Same H1 H5 := fun {H5} h b o e => h b o e (ne_of_none e nk1)
      refine for_any (n := (tS L).length) (fun j σ H' => ∃ (ii here : Nat) (b more : Bool) (v7 : Option V), σ = [some (.str (tS l)), some (.int (wd : Nat)), some (.int (i : Nat)), some (.str (tS L)), some (.ref k), some (.int (here : Nat)), some (.bl more), v7] ∧ Wk H' k (tS L) ii b ∧ Same H1 H' ∧ RowSt wd (tS L).cps.toList j ii b here more) ?_ (fun j _ _ lt _ => lt) (fun _ _ _ => Nat.le_refl _) ?_ ?_
      · exact ⟨0, 0, true, true, _, rfl, W4, s14, rowSt_start _ _⟩
      · rintro j σ H5 x H6 ltj ⟨ii, here, b, more, v7', rfl, W5, s5, st⟩ ⟨rfl, rfl⟩
        have iile := rowSt_le st
        have iil : ii ≤ (tS L).length := by
          have z : (tS L).cps.toList.length = (tS L).length := Array.length_toList
          omega
        refine ⟨_, rfl, more, rfl, ?_⟩
        cases more with
        | false => exact iteF (iteF ⟨ii, here, b, false, _, rfl, W5, s5, rowSt_skip st (.inl rfl)⟩)
        | true =>
          refine iteT ⟨_, rfl, k, _, _, _, rfl, rfl, SqL.of W5, atI_nat (j := 2) rfl, b, rfl, ?_⟩
          cases b with
          | false => exact iteF ⟨ii, here, false, true, _, rfl, W5, s5, rowSt_skip st (.inr rfl)⟩
          | true =>
            refine iteT ⟨_, rfl, k, tS L, ii, rfl, W5, iil, by omega, fun v H7 W7 k7 => ?_⟩
            have s7 : Same H1 H7 := keepS fun a o e n => k7 a o (s5 a o e) n
            have step := rowSt_step st
            have i17 := (intRun_le (tailOf (tS L) ii)).1
            have tl : (tailOf (tS L) ii).length = (tS L).length - ii := List.length_drop
            have iim : ii + (intRun (tailOf (tS L) ii)).1 ≤ (tS L).length := by omega
            generalize (intRun (tailOf (tS L) ii)).2 = ok at *
            generalize ii + (intRun (tailOf (tS L) ii)).1 = i3 at *
            refine ⟨_, rfl, _, _, rfl, rfl, ?_⟩
            have due : ∀ (more : Bool), more = moreB wd (here + 1) ok (tailOf (tS L) i3) → ∀ v7, ∃ k' r z i' b', [V.ref k, V.str (if more = true then " " else "")] = [.ref k', .str z] ∧ Wk H7 k' r i' b' ∧ i' ≤ r.length ∧ r.length ≤ sizeLine ∧ z.length ≤ 10 ∧ ∀ H', Wk H' k' r (dueTo r (i', b') z.cps.toList).1 (dueTo r (i', b') z.cps.toList).2 → (∀ a o, H7 a = some o → a ≠ k' → H' a = some o) →
                ∃ (ii here2 : Nat) (b more2 : Bool) (v7' : Option V), [some (V.str (tS l)), some (V.int (wd : Nat)), some (V.int (i : Nat)), some (V.str (tS L)), some (V.ref k), some (V.int ((here : Nat) + 1)), some (V.bl more), v7] = [some (.str (tS l)), some (.int (wd : Nat)), some (.int (i : Nat)), some (.str (tS L)), some (.ref k), some (.int (here2 : Nat)), some (.bl more2), v7'] ∧ Wk H' k (tS L) ii b ∧ Same H1 H' ∧ RowSt wd (tS L).cps.toList (j + 1) ii b here2 more2 := by
              intro more em v7
              refine ⟨k, tS L, if more = true then " " else "", i3, ok, rfl, W7, iim, by omega, by cases more <;> decide, fun H8 W8 k8 => ?_⟩
              have ez : (if more = true then (" " : Str) else "").cps.toList = if more = true then [32] else [] := by cases more <;> rfl
              rw [ez] at W8
              rw [← em] at step
              exact ⟨_, here + 1, _, more, v7, rfl, W8, keepS fun a o e n => k8 a o (s7 a o e) n, step⟩
            have last : ∀ (more : Bool), more = moreB wd (here + 1) ok (tailOf (tS L) i3) → ∀ v7, ∃ vs0 : V, [some (V.str (tS l)), some (V.int (wd : Nat)), some (V.int (i : Nat)), some (V.str (tS L)), some (V.ref k), some (V.int ((here : Nat) + 1)), some (V.bl more), v7][4]? = some (some vs0) ∧ vs0 = .ref k := fun more em v7 => ⟨_, rfl, rfl⟩
            refine ⟨_, rfl, _, _, rfl, rfl, _, rfl, ?_⟩
            by_cases w0 : 0 < wd
            · rw [decide_eq_true (show (0 : Int) < ((wd : Nat) : Int) by omega)]
              refine iteT ⟨_, rfl, _, rfl, _, _, rfl, rfl, ?_⟩
              have em : decide (((here : Nat) : Int) + 1 < ((wd : Nat) : Int)) = moreB wd (here + 1) ok (tailOf (tS L) i3) := by
                unfold moreB
                rw [if_pos w0]
                by_cases q : here + 1 < wd
                · rw [decide_eq_true q, decide_eq_true (by omega)]
                · rw [decide_eq_false q, decide_eq_false (by omega)]
              dsimp only
              generalize decide (((here : Nat) : Int) + 1 < ((wd : Nat) : Int)) = more at em ⊢
              have d := due more em
              refine ⟨_, rfl, _, rfl, more, rfl, ?_⟩
              cases more with
              | true => exact iteT (d _)
              | false => exact iteF (d _)
            · rw [decide_eq_false (show ¬ (0 : Int) < ((wd : Nat) : Int) by omega)]
              refine iteF ⟨_, rfl, k, tS L, i3, 32, ok, rfl, W7, iim, by omega, ?_⟩
              have em : (ok && decide ((tailOf (tS L) i3).head? = some 32)) = moreB wd (here + 1) ok (tailOf (tS L) i3) := by
                unfold moreB
                rw [if_neg w0]
              generalize (ok && decide ((tailOf (tS L) i3).head? = some 32)) = more at em ⊢
              have d := due more em
              refine ⟨_, rfl, _, rfl, more, rfl, ?_⟩
              cases more with
              | true => exact iteT (d _)
              | false => exact iteF (d _)
      · rintro σ H5 ⟨ii, here, b, more, v7', rfl, W5, s5, st⟩
        have iile := rowSt_le st
        have ez2 : (tS L).cps.toList.length = (tS L).length := Array.length_toList
        have iil : ii ≤ (tS L).length := by omega
        rw [← ez2] at st
        have fin := rowSt_end (r := tS L) neL st
        refine ⟨_, rfl, k, tS L, "\n", ii, b, rfl, W5, iil, by omega, by decide, fun H6 W6 k6 => ?_⟩
        have s6 : Same H1 H6 := keepS fun a o e n => k6 a o (s5 a o e) n
        have e10 : (("\n" : Str)).cps.toList = [10] := rfl
        rw [e10] at W6
        generalize (dueTo (tS L) (ii, b) [10]).1 = i9 at *
        generalize (dueTo (tS L) (ii, b) [10]).2 = b9 at *
        refine ⟨_, rfl, _, rfl, k, _, _, _, rfl, rfl, SqL.of W6, atI_nat (j := 2) rfl, b9, rfl, ?_⟩
        have tl : (tS L).cps.toList = L := rfl
        rw [tl] at fin
        rcases fin with ⟨rfl, m, vals, fr, lv⟩ | ⟨rfl, fr⟩
        · have fe := rowFull_end fr
          have eh : here = (some (wo.getD vals.length)).getD 0 := by
            rcases hwo with rfl | ⟨q, q0, rfl⟩
            · exact lv.symm
            · rw [← lv]
              exact (fe.2.2.2 (by rw [← hwd]; exact q0)).trans hwd.symm
          refine iteF ⟨some (wo.getD vals.length), some (.int (i : Nat)), some (.str (tS L)), some (.ref k), some (.int (here : Nat)), some (.bl more), v7', by rw [← eh]; rfl, s6, .inr ⟨wo.getD vals.length, ?_, rfl⟩, fun rows h => ?_, fun e h => ?_⟩
          · rcases hwo with rfl | ⟨q, q0, rfl⟩
            · exact (rowFull_end fr).2.2.1
            · exact q0
          · refine oks (vals :: rows) ?_
            rw [picLines, hwd, fr]
            dsimp only
            have e1 : (1 : Int) + (i : Int) + 1 = 1 + ((i + 1 : Nat) : Int) := by omega
            rw [e1, h]
          · refine ers e ?_
            rw [picLines, hwd, fr]
            dsimp only
            have e1 : (1 : Int) + (i : Int) + 1 = 1 + ((i + 1 : Nat) : Int) := by omega
            rw [e1, h]
        · have er := ers (1 + (i : Int), 1 + (i9 : Int)) (by rw [picLines, hwd, fr])
          refine iteT ⟨_, rfl, _, _, rfl, rfl, _, rfl, k, _, _, _, rfl, rfl, SqL.of W6, atI_nat (j := 1) rfl, _, _, rfl, rfl, (by show 2 ≤ sizeLine; omega), fun t nt => ?_⟩
          refine bad _ _ t _ er (Same.trans s1 (Same.trans s6 (same_new nt))) ?_
          rw [upd_same, Int.add_comm 1 (i : Int), Int.add_comm 1 (i9 : Int)]
    · rintro σ H2 ⟨wo, v2, v3, v4, v5, v6, v7, rfl, s2, _, oks, _⟩
      have ed : (linesOf [] l).drop (linesOf [] l).length = [] := List.drop_of_length_le (Nat.le_refl _)
      rw [ed] at oks
      obtain ⟨rows, hr⟩ := oks [] rfl
      exact good rows _ hr (Same.trans s1 s2)
end
end Mine
namespace Mine
open PySem L2 PySem.Spec PyProof.Rows Pic
/-! ### several except clauses, each with a name for what it catches -/
abbrev Cla := Value × Nat × (Addr → Value → Option Addr → TS)
/-- the wishes of the clauses, in their order -/
def wNamed (K : PySem.W.Frag) (Wz : WX) (D : Ends) : List Cla → WX
  | [] => Wz
  | (cl, i, su) :: more => fun k dx ς Hh => ∃ yes, PySem.W.exmOne K k cl = some yes ∧
      (yes = true → ∀ b, Hh b = none → su b k dx { nx := fun ς' Hh' => D.nx (ς'.set i none) Hh', rt := D.rt, bk := fun ς' Hh' => D.bk (ς'.set i none) Hh', ct := fun ς' Hh' => D.ct (ς'.set i none) Hh' } (ς.set i (some (.ref b))) Hh) ∧ (yes = false → wNamed K Wz D more k dx ς Hh)
inductive Clauses (X : Cx) : List ExceptHandler → List Cla → Prop
  | nil : Clauses X [] []
  | cons {y m : Str} {cl : Value} {i : Nat} {su : Addr → Value → Option Addr → TS} {st : Stmt} {rest : List Stmt} {p1 p2 : Pos} {hs : List ExceptHandler} {ls : List Cla} (nm : Names X y cl) (at_ : X.N[i]? = some m) (loc : X.env.kindOf m = some .local)
      (does : ∀ (b : Addr) (eo : Obj) (k : Value) (dx : Option Addr) (pn : List (Addr × Obj)), Zc k dx eo → (∃ us, eo.data = .fields us) → PSs (X.suite b ((b, eo) :: pn)) (st :: rest) (su b k dx)) (more : Clauses X hs ls) :
      Clauses X (.ExceptHandler (some (.Name y p1)) (some m) (st :: rest) p2 :: hs) ((cl, i, su) :: ls)
section
variable {X : Cx} {body : List Stmt} {h₀ : ExceptHandler} {cls0 : List ExceptHandler} {l : List Cla} {pos : Pos} {tby : WX → TS} {Wz : WX}
theorem try_named (hst : X.stack = X.env :: X.outer) (hfm : X.env.frame = some X.env.locals) (nod : X.N.Nodup) (tk : Takes X Wz)
    (hb : ∀ (W : WX) (pn : List (Addr × Obj)) (xe : Value → Shared → Prop), Takes (X.tr pn xe) W → PassesOwn (model X.prog X.w) X.A X.env xe → PSs (X.tr pn xe) body (tby W))
    (hcl : Clauses X (h₀ :: cls0) l) : PS X (.Try body (h₀ :: cls0) [] [] pos) (fun D σ H => tby (wNamed X.K Wz D l) D σ H) := by
  refine ⟨fun pz s σ H D I h => ?_⟩
  have okX := I.ok
  have frX : X.A.frames = some (X.env :: X.outer) := by rw [okX.frames, hst]
  refine wpAny_Try_except ?_
  refine wpAny_mono ((hb (wNamed X.K Wz D l) (X.pn ++ pz) (fun e s₁ => wpAny (model X.prog X.w) X.A (noteFrame e X.env) (fun _ s₂ => wpAny (model X.prog X.w) X.A (setFlight e none) (fun _ s₃ =>
    wpAny (model X.prog X.w) X.A (handleBy e X.env (h₀ :: cls0)) (SP X pz D) X.xe s₃) X.xe s₂) X.xe s₁) (fun u s' xx => ?_) PassesOwn.looking).run [] s σ H D (I.toTry _) h) (fun f s1 hps => ?_) (fun e s1 he => he)
  · -- the catch
    obtain ⟨a, B, sB, pz', σ', H', kls, d, rfl, J', neb, upw, fly, nea, osv, agr, w⟩ := xx
    have J : Inv X pz σ' H' sB := J'.ofTry okX
    have fly2 : Sky B (X.env :: X.outer) a (Zc kls d) X.env.locals s'.heap := by rw [← hst]; exact fly
    show wpAny (model X.prog X.w) X.A (noteFrame (.ref a) X.env) _ _ _
    refine Sky.land Zc.steady frX hfm fly2 fun hp3 lf3 uw3 => ?_
    have J3 : Inv X pz σ' H' { s' with heap := hp3 } := J.landed neb lf3.1 (upw.trans uw3) osv agr
    obtain ⟨eo3, us3, ge3, gz3, gd3⟩ := lf3.there
    have noFrame : ∀ {h : Heap} {o : Obj} {vs : Array Value}, h.FunFrames B (X.env :: X.outer) → h.get? a = some o → o.data = .fields vs → a ∉ frs (X.env :: X.outer) := fun {h o vs} ff e dd hm => by
      obtain ⟨_, o', e', hnf⟩ := ff.mem hm
      rw [e] at e'; cases e'
      exact hnf _ dd
    have nofr := noFrame lf3.2.2.1 ge3 gd3
    have nLoc : a ≠ X.env.locals := fun z => nofr (List.mem_filterMap.mpr ⟨X.env, List.mem_cons_self, by rw [hfm, z]⟩)
    have nFra : a ∉ X.fs := fun hm => by
      obtain ⟨e, he, q⟩ := List.mem_filterMap.mp hm
      exact nofr (List.mem_filterMap.mpr ⟨e, List.mem_cons_of_mem _ he, q⟩)
    have S3 := J3.suite ge3 gd3 nea nLoc nFra
    have walk : ∀ {clz : List ExceptHandler} {lz : List Cla}, Clauses X clz lz → wNamed X.K Wz D lz kls d σ' H' →
        wpAny (model X.prog X.w) X.A (handleBy (.ref a) X.env clz) (SP X pz D) X.xe { s' with heap := hp3 } := by
      intro clz lz hkl
      induction hkl with
      | nil =>
        intro w
        refine wpAny_handleBy_nil ?_
        obtain ⟨k1, k2, k3, oe, vs, T, oT, ts', he, hz, hd, h1, hr⟩ := id lf3
        unfold PySem.passOn
        refine wpAny_bind (wpAny_field he hd h1 ?_)
        rw [if_neg (show ¬ ((Value.ref T == Value.none) = true) from by simp)]
        have done_ : wpAny (model X.prog X.w) X.A (setFlight (.ref a) X.env.frame) (fun _ s4 => wpAny (model X.prog X.w) X.A (throw (.ref a) : Sem Flow) (SP X pz D) X.xe s4) X.xe { s' with heap := hp3 } := by
          rw [hfm]
          refine HandSPX.setFlight_upZ lf3 fun hp4 hh4 uw4 => wpAny_throw (tk _ _ ?_)
          exact ⟨a, B, sB, pz, σ', H', kls, d, rfl, J, neb, (upw.trans uw3).trans uw4, .inr (.inr (by rw [hst]; exact hh4)), nea, osv, agr, w⟩
        first
          | exact wpAny_bind (wpAny_pure (wpAny_bind done_))
          | exact wpAny_bind done_
      | @cons x n c i ts b₀ suite np pos' cls2 ls2 hc hi hln hsu r step =>
        intro w
        obtain ⟨b, hb1, hyy, hnn⟩ := w
        refine wpAny_handleBy_cons (codeAny_handlers_test ?_) (by intro q; cases q)
        have LTy : PySem.W.Looks (model X.prog X.w) hp3 (typeOf (.ref a)) kls := fun A Q E s k q => wpAny_typeOf_ref (k _ _ ge3) (by rw [gz3.1]; exact q)
        have LMa := PySem.W.exm_one (M := model X.prog X.w) (J3.kIn) LTy hb1
        have asks : ∀ {Q : Value → Shared → Prop} {E : Value → Shared → Prop}, Q c { s' with heap := hp3 } → wpAny (model X.prog X.w) (X.A.mark (some (.ref a))) (eval (.Name x np) X.env) Q E { s' with heap := hp3 } := fun {Q E} q => by
          obtain ⟨hg, hdbg, hm | ⟨hm, hv, hnn⟩⟩ := hc
          · exact ld_glob (X := X.suite a ((a, eo3) :: (X.pn ++ pz))) S3 hg hm q hdbg
          · exact ld_blt (X := X.suite a ((a, eo3) :: (X.pn ++ pz))) S3 hg hm hv q hnn hdbg
        refine asks (LMa.here ?_)
        cases b with
        | true =>
          refine codeAny_handlers_suite_as ?_
          refine HandSPX.lands_againZ lf3 fun hp4 lf4 uw4 => ?_
          have J4 : Inv X pz σ' H' { s' with heap := hp4 } := J.landed neb lf4.1 ((upw.trans uw3).trans uw4) osv agr
          obtain ⟨eo4, us4, ge4, gz4, gd4⟩ := lf4.there
          have S4 := J4.suite ge4 gd4 nea nLoc nFra
          refine store_ok (X := X.suite a ((a, eo4) :: (X.pn ++ pz))) (v := .ref a) S4 nod hi (Or.inl hln) rfl (fun s5 S5 => ?_) (.inr hln)
          refine wpAny_mono ((hsu a eo4 kls d (X.pn ++ pz) gz4 ⟨_, gd4⟩).run [] s5 _ H' _ S5 (hyy rfl a nea)) (fun f s6 hps => ?_) (fun _ _ z => False.elim z)
          have ends : ∀ {σ6 : L2.St} {H6 : Hp} {Qz : Shared → Prop}, Inv (X.suite a ((a, eo4) :: (X.pn ++ pz))) [] σ6 H6 s6 → (∀ s7, Inv X pz (σ6.set i none) H6 s7 → Qz s7) →
              wpAny (model X.prog X.w) X.A (do bindName X.env n .none; unbindBehindTheSuite X.env n pos') (fun _ s7 => Qz s7) X.xe s6 := fun {σ6 H6 Qz} S6 hq => gone_ok (S6.unsuite okX) nod hi hln hq
          cases f with
          | next =>
            obtain ⟨σ6, H6, S6, q6⟩ := hps
            exact ends S6 fun s7 J7 => ⟨_, _, J7, q6⟩
          | brk =>
            obtain ⟨σ6, H6, S6, q6⟩ := hps
            exact ends S6 fun s7 J7 => ⟨_, _, J7, q6⟩
          | cont =>
            obtain ⟨σ6, H6, S6, q6⟩ := hps
            exact ends S6 fun s7 J7 => ⟨_, _, J7, q6⟩
          | ret u =>
            obtain ⟨v6, σ6, H6, S6, r6, q6⟩ := hps
            exact ends S6 fun s7 J7 => ⟨_, _, _, J7, r6, q6⟩
        | false =>
          show wpAny _ X.A (handleBy (.ref a) X.env cls2) _ _ _
          exact step (hnn rfl)
    exact walk hcl w
  · cases f with
    | next =>
      obtain ⟨σ', H', J', q⟩ := hps
      exact wpAny_execs_nil ⟨σ', H', J'.ofTry okX, q⟩
    | brk =>
      obtain ⟨σ', H', J', q⟩ := hps
      exact ⟨σ', H', J'.ofTry okX, q⟩
    | cont =>
      obtain ⟨σ', H', J', q⟩ := hps
      exact ⟨σ', H', J'.ofTry okX, q⟩
    | ret u =>
      obtain ⟨v, σ', H', J', r, q⟩ := hps
      exact ⟨v, σ', H', J'.ofTry okX, r, q⟩
end
end Mine
namespace Mine
open PySem L2 PySem.Spec PyProof.Rows Pic LamX
abbrev sMet : Stmt := top 37
structure MetT (K : PySem.W.Frag) (mg : Str → Option Value) (BP BT : Addr) : Prop where
  gP : mg "BadPicture" = some (.ref BP)
  gT : mg "BadText" = some (.ref BT)
  xP : XfC K BP
  xT : XfC K BT
  nt : PySem.W.findIn K (.ref BP) "thing" = some none
  nl : PySem.W.findIn K (.ref BT) "line" = some none
  ns : PySem.W.findIn K (.ref BT) "sign" = some none
  pp : PySem.W.exmOne K (.ref BP) (.ref BP) = some true
  tp : PySem.W.exmOne K (.ref BT) (.ref BP) = some false
  tt : PySem.W.exmOne K (.ref BT) (.ref BT) = some true
/-- what the law's met makes of what is asked -/
def TMet (BP BT : Addr) : (XK → Hp → VK → Prop) → Hp → VK → Prop := fun tl H Q =>
  tl (fun cls d H' => (cls = .ref BP ∧ ∃ dx v, d = some dx ∧ H' dx = some (.xd [("thing", v)]) ∧ ∀ t H2, Same H' H2 → H2 t = some (.tup [.str "picture", v]) → Q (.ref t) H2) ∨
      (cls = .ref BT ∧ ∃ dx l g, d = some dx ∧ H' dx = some (.xd [("sign", .int g), ("line", .int l)]) ∧ ∀ t t1 H2, Same H' H2 → H2 t1 = some (.tup [.int l, .int g]) → H2 t = some (.tup [.str "text", .ref t1]) → Q (.ref t) H2)) H
    (fun v H1 => 2 ≤ sizeLine ∧ ∀ t, H1 t = none → Q (.ref t) (upd H1 t (.tup [.str "told", v])))
section
variable {X : Cx} {BP BT : Addr}
theorem scMet : FnScope ["_law_ask", "e"] ["_law_ask"] (defScope sMet) := ⟨rfl, rfl, rfl, by decide +kernel, rfl, by decide +kernel, by decide +kernel⟩
theorem met_gives {q : Str} {g : Addr} {cdg : Value} (M : MetT X.K X.mg BP BT) : GivesTo X ["_law_ask", "e"] "_law_met" (defScope sMet) g cdg (defBody sMet) "_law_ask" q (TMet BP BT) := by
  intro f c' s H Q tl act hc h
  have big : 2 ≤ sizeLine := by decide
  refine ⟨_, pss_one (try_named (X := (cxOf C8.CX0 X.prog X.w X.K X.mg X.base ["_law_ask", "e"] "_law_met" (defScope sMet) g cdg X.A X.stack s H C8.E0).nox)
      (tby := fun W D σ H => ∃ Ech : XK, (∀ cls d σ' H', σ'.length = 2 → Ech cls d H' → W cls d σ' H') ∧ σ[0]? = some (some (.ref f)) ∧ H c' = some (CodeO c' q) ∧ tl Ech H fun v H1 => 2 ≤ sizeLine ∧ ∀ t, H1 t = none → D.rt (.ref t) (upd H1 t (.tup [.str "told", v])))
      rfl rfl scMet.nd L2.takes0 (fun W pn xe tk _ => ?_)
      (.cons (i := 1) ⟨rfl, by decide, .inl M.gP⟩ rfl rfl (fun a oe cls d pn hz hf => pss_one (ps_ret (pe_tup (pa_cons pe_str (pa_cons (pe_xf M.xP M.nt hz hf (pv 1)) pa_nil)))))
      (.cons (i := 1) ⟨rfl, by decide, .inl M.gT⟩ rfl rfl (fun a oe cls d pn hz hf => pss_one (ps_ret (pe_tup (pa_cons pe_str (pa_cons (pe_tup (pa_cons (pe_xf M.xT M.nl hz hf (pv 1)) (pa_cons (pe_xf M.xT M.ns hz hf (pv 1)) pa_nil))) pa_nil))))) .nil))), ?_⟩
  · refine ⟨fun pins s' σ H' D I h' => ?_⟩
    obtain ⟨Ech, hW, h1, h2, h3⟩ := h'
    have tk2 : Takes ((cxOf C8.CX0 X.prog X.w X.K X.mg X.base ["_law_ask", "e"] "_law_met" (defScope sMet) g cdg X.A X.stack s H C8.E0).nox.tr pn xe) (fun cls d _ H' => Ech cls d H') := fun u s' ⟨a, B, sI, pz, ς, H, k, d, e, I, nb, u1, u2, u3, u4, u5, z⟩ =>
      tk u s' ⟨a, B, sI, pz, ς, H, k, d, e, I, nb, u1, u2, u3, u4, u5, hW k d ς H I.len z⟩
    exact (pss_one (ps_ret (pe_tup (pa_cons pe_str (pa_cons (act _ pn xe Ech _ _ tk2 (fun _ _ _ _ z => z)) pa_nil))))).run pins s' σ H' D I ⟨h1, h2, h3⟩
  · refine ⟨fun cls d H' => (cls = .ref BP ∧ ∃ dx v, d = some dx ∧ H' dx = some (.xd [("thing", v)]) ∧ ∀ t H2, Same H' H2 → H2 t = some (.tup [.str "picture", v]) → Q (.ref t) H2) ∨
      (cls = .ref BT ∧ ∃ dx l g, d = some dx ∧ H' dx = some (.xd [("sign", .int g), ("line", .int l)]) ∧ ∀ t t1 H2, Same H' H2 → H2 t1 = some (.tup [.int l, .int g]) → H2 t = some (.tup [.str "text", .ref t1]) → Q (.ref t) H2), fun cls d σ' H' hlen he => ?_, rfl, hc, ?_⟩
    · obtain ⟨u0, u1, rfl⟩ : ∃ u0 u1, σ' = [u0, u1] := by
        match σ', hlen with
        | [u0, u1], _ => exact ⟨u0, u1, rfl⟩
      rcases he with ⟨rfl, dx, v, rfl, hdx, k⟩ | ⟨rfl, dx, ln, sg, rfl, hdx, k⟩
      · exact ⟨true, M.pp, fun _ b0 nb0 => ⟨_, rfl, rfl, rfl, dx, _, _, rfl, hdx, rfl, big, fun t nt => k t _ (same_new nt) upd_same⟩, fun z => nomatch z⟩
      · refine ⟨false, M.tp, (fun z => nomatch z), fun _ => ⟨true, M.tt, fun _ b0 nb0 => ⟨_, rfl, rfl, rfl, dx, _, _, rfl, hdx, rfl, _, rfl, rfl, rfl, dx, _, _, rfl, hdx, rfl, big, fun t1 nt1 => ⟨big, fun t nt => ?_⟩⟩, fun z => nomatch z⟩⟩
        exact k t t1 _ (Same.trans (same_new nt1) (same_new nt)) (same_new nt _ _ upd_same) upd_same
    · exact h
end
end Mine
namespace Mine
open PySem L2 PySem.Spec PyProof.Rows Pic
/-! ### strings near to a text -/
abbrev sBent : Stmt := top 27
/-- signs and feeds of some strings -/
def wt (ys : List Str) : Nat := (ys.map (·.length)).sum + ys.length
theorem wt_app (a b : List Str) : wt (a ++ b) = wt a + wt b := by
  unfold wt
  rw [List.map_append, List.sum_append, List.length_append]
  omega
theorem wt_cons (a : Str) (b : List Str) : wt (a :: b) = a.length + 1 + wt b := by
  unfold wt
  rw [List.map_cons, List.sum_cons, List.length_cons]
  omega
theorem wt_take (xs : List Str) (i : Nat) : wt (xs.take i) ≤ wt xs := by
  have z := wt_app (xs.take i) (xs.drop i)
  rw [List.take_append_drop] at z
  omega
theorem wt_drop (xs : List Str) (i : Nat) : wt (xs.drop i) ≤ wt xs := by
  have z := wt_app (xs.take i) (xs.drop i)
  rw [List.take_append_drop] at z
  omega
theorem wt_mem {xs : List Str} {x : Str} (h : x ∈ xs) : x.length + 1 ≤ wt xs := by
  induction xs with
  | nil => cases h
  | cons y ys ih =>
    rw [wt_cons]
    rcases List.mem_cons.1 h with rfl | h
    · omega
    · have := ih h
      omega
theorem wt_set (xs : List Str) (i : Nat) (y : Str) : wt (xs.set i y) ≤ wt xs + y.length := by
  induction xs generalizing i with
  | nil => exact Nat.zero_le _
  | cons x xs ih =>
    cases i with
    | zero =>
      rw [List.set_cons_zero, wt_cons, wt_cons]
      omega
    | succ i =>
      have := ih i
      rw [List.set_cons_succ, wt_cons, wt_cons]
      omega
theorem wt_spl (l acc : List Nat) : wt ((TL.spl [10] 0 acc l).map SX.S) = acc.length + l.length + 1 := by
  induction l generalizing acc with
  | nil =>
    show wt [SX.S acc] = _
    rw [wt_cons, SX.S_len]
    rfl
  | cons c r ih =>
    show wt ((if TL.pre [10] (c :: r) = true then acc :: TL.spl [10] 0 [] r else TL.spl [10] 0 (acc ++ [c]) r).map SX.S) = _
    rw [List.length_cons]
    split
    · rw [List.map_cons, wt_cons, ih, SX.S_len, List.length_nil]
      omega
    · rw [ih, List.length_append]
      simp only [List.length_cons, List.length_nil]
      omega
theorem join_feed (ys : List Str) : (Txt.join "\n" ys).length ≤ wt ys := by
  have z := StrLaws.join_length_le "\n" ys
  have e : Txt.join "\n" ys = Str.join "\n" ys := TL.join_eq "\n" ys
  have e1 : (("\n" : Str)).length = 1 := rfl
  rw [e1, Nat.mul_one] at z
  rw [e]
  exact z
/-- the list's part from i to j -/
theorem cutV_part {α : Type} (xs : List V) (lo hi : Option Int) : ∃ i j, cutV xs lo hi = (xs.drop i).take j := ⟨_, _, rfl⟩
theorem part_strs (ys : List Str) (lo hi : Option Int) : ∃ zs : List Str, cutV (ys.map V.str) lo hi = zs.map V.str ∧ wt zs ≤ wt ys ∧ zs.length ≤ ys.length := by
  refine ⟨(ys.drop (HT.sIx (ys.map V.str).length 0 lo)).take (HT.sIx (ys.map V.str).length (ys.map V.str).length hi - HT.sIx (ys.map V.str).length 0 lo), ?_, Nat.le_trans (wt_take _ _) (wt_drop _ _), ?_⟩
  · unfold cutV
    rw [List.map_take, List.map_drop]
  · rw [List.length_take, List.length_drop]
    omega
/-- the stream of draws, n of them done -/
def StA (H : Hp) (a q : Addr) (n : Int) : Prop := ∃ cs l m, Strm H a q cs l n m
/-- all but the stream is as it was -/
def Kp (H H' : Hp) (a q : Addr) : Prop := ∀ b o, H b = some o → b ≠ a → b ≠ q → H' b = some o
theorem Kp.trans {H H1 H2 : Hp} {a q : Addr} (x : Kp H H1 a q) (y : Kp H1 H2 a q) : Kp H H2 a q := fun b o e n1 n2 => y b o (x b o e n1 n2) n1 n2
theorem Kp.of {H H' : Hp} {a q : Addr} (s : Same H H') : Kp H H' a q := fun b o e _ _ => s b o e
theorem StA.s {H H' : Hp} {a q : Addr} {n : Int} (S : StA H a q n) (k : Same H H') : StA H' a q n := by
  obtain ⟨cs, l, m, S⟩ := S
  exact ⟨cs, l, m, S.s k⟩
/-- a draw, its promise short -/
theorem sp_draw (k : Int) {H : Hp} {a q : Addr} {n : Int} {vs : List V} {Q : VK} {E : XK} (S : StA H a q n) (ev : vs = [.ref a, .int k]) (k0 : 0 < k) (k1 : k < 1073741824) (hn : n < 1000000000000) (go : ∀ d H', 0 ≤ d → d < k → StA H' a q (n + 1) → Kp H H' a q → Q (.int d) H') : spDraw vs H Q E := by
  obtain ⟨cs, l, m, S⟩ := S
  exact ⟨a, q, cs, l, n, m, k, ev, k0, k1, S, hn, fun d cs' l' m' H' d0 d1 S' k => go d H' d0 d1 ⟨_, _, _, S'⟩ k⟩
theorem sp_pick {K : PySem.W.Frag} {H : Hp} {a q b : Addr} {n : Int} {xs : List V} {vs : List V} {Q : VK} {E : XK} (S : StA H a q n) (ev : vs = [.ref a, .ref b]) (hn : n < 1000000000000) (hb : SqL K H b xs) (ne : xs ≠ []) (short : xs.length ≤ 1000000) (n1 : b ≠ a) (n2 : b ≠ q) (go : ∀ x H', x ∈ xs → StA H' a q (n + 1) → Kp H H' a q → Q x H') : spPick K vs H Q E := by
  obtain ⟨cs, l, m, S⟩ := S
  exact ⟨a, q, b, cs, l, n, m, xs, ev, S, hn, hb, ne, short, n1, n2, fun x H' hx dr => go x H' hx dr.1 dr.2⟩
section
variable {w : World} {P : Program} {base : Heap} {K : PySem.W.Frag} {mg : Str → Option Value}
theorem scBent : FnScope ["_law_stream", "_law_text", "_law_signs", "_law_way", "_law_at", "_law_rows", "_law_row", "_law_other"] ["_law_stream", "_law_text", "_law_signs"] (defScope sBent) := ⟨rfl, rfl, rfl, by decide +kernel, rfl, by decide +kernel, by decide +kernel⟩
def spBent (K : PySem.W.Frag) : Sp := fun vs H Q _ => ∃ (a q b : Addr) (n : Int) (t : Str) (sg : List Str), vs = [.ref a, .str t, .ref b] ∧ StA H a q n ∧ n < 900000000000 ∧ t.length ≤ 20000 ∧ SqL K H b (sg.map V.str) ∧ sg ≠ [] ∧ sg.length ≤ 100 ∧ (∀ s ∈ sg, s.length ≤ 5) ∧ b ≠ a ∧ b ≠ q ∧
  ∀ (x : Str) H' n', n' ≤ n + 5 → x.length ≤ 3 * t.length + 10 → StA H' a q n' → Kp H H' a q → Q (.str x) H'
theorem ok_bent {f : Addr} {fd : FuncData} (F : Fun K "_law_a_bent" "_law_a_bent" sBent f fd) (T : TI4 mg) (KD : Kn P w K mg base CX0 1 "_law_draw" ["_law_stream", "_law_many"] spDraw) (KP : Kn P w K mg base CX0 2 "_law_pick" ["_law_stream", "_law_some"] (spPick K)) : FnOk P w K mg base CX0 3 f fd ["_law_stream", "_law_text", "_law_signs"] (spBent K) := by
  obtain ⟨fD, fdD, GD, gD, kD, bD⟩ := KD
  obtain ⟨fP, fdP, GP, gP, kP, bP⟩ := KP
  refine F.ok scBent (fun vs H Q E h => ?_) (fun cdv A outer s H vs Q E hr h => ?_)
  · obtain ⟨a, q, b, n, t, sg, rfl, _⟩ := h
    rfl
  · obtain ⟨a, q, b, n, t, sg, rfl, S, hn, ht, hb, ne, shrt, sg5, nba, nbq, kk⟩ := h
    have hr1 := hr.mono (show 1 ≤ 2 by decide)
    refine ⟨_, pss_cons (ps_par (i := 3) (j := 4) rfl scBent.nd rfl rfl (by decide) rfl rfl (pa_cons (pe_call GD hr1 (by rfl) gD kD bD .nil pass0 (pa_cons (pv 0) (pa_cons pe_int pa_nil))) (pa_cons (pe_call GD hr1 (by rfl) gD kD bD .nil pass0 (pa_cons (pv 0) (pa_cons (pe_op op_add (pe_callB call_len (by rfl) T.len PySem.boot_len (pa_cons (pv 1) pa_nil)) pe_int) pa_nil))) pa_nil)) rfl)
      (pss_cons (ps_set (i := 5) scBent.nd rfl (Or.inl rfl) (pe_split (pv 1) pe_str))
      (pss_cons (ps_set (i := 6) scBent.nd rfl (Or.inl rfl) (pe_call GD hr1 (by rfl) gD kD bD .nil pass0 (pa_cons (pv 0) (pa_cons (pe_callB call_len_seq (by rfl) T.len PySem.boot_len (pa_cons (pv 5) pa_nil)) pa_nil))))
      (pss_cons (ps_if (pt_cmpR op_lt (pv 3) pe_int (nomark _)) (pss_one (ps_ret (pe_op op_add_str (pe_op op_add_str (pe_slice sl_str (pv 1) po_none (po_some (pv 4))) (pe_call GP hr (by rfl) gP kP bP .nil pass0 (pa_cons (pv 0) (pa_cons (pv 2) pa_nil)))) (pe_slice sl_str (pv 1) (po_some (pv 4)) po_none)))) pss_nil)
      (pss_cons (ps_if (pt_cmpR op_eq (pv 3) pe_int (nomark _)) (pss_one (ps_ret (pe_op op_add_str (pe_slice sl_str (pv 1) po_none (po_some (pv 4))) (pe_slice sl_str (pv 1) (po_some (pe_op op_add (pv 4) pe_int)) po_none)))) pss_nil)
      (pss_cons (ps_if (pt_cmpR op_eq (pv 3) pe_int (nomark _)) (pss_one (ps_ret (pe_op op_add_str (pe_op op_add_str (pe_slice sl_str (pv 1) po_none (po_some (pv 4))) (pe_call GP hr (by rfl) gP kP bP .nil pass0 (pa_cons (pv 0) (pa_cons (pv 2) pa_nil)))) (pe_slice sl_str (pv 1) (po_some (pe_op op_add (pv 4) pe_int)) po_none)))) pss_nil)
      (pss_cons (ps_if (pt_cmpR op_eq (pv 3) pe_int (nomark _)) (pss_one (ps_ret (pe_slice sl_str (pv 1) po_none (po_some (pv 4))))) pss_nil)
      (pss_cons (ps_if (pt_cmpR op_eq (pv 3) pe_int (nomark _)) (pss_one (ps_ret (pe_join pe_str (pe_op op_cat (pe_op op_cat (pe_slice sl_list (pv 5) po_none (po_some (pv 6))) (pe_slice sl_list (pv 5) (po_some (pv 6)) (po_some (pe_op op_add (pv 6) pe_int)))) (pe_slice sl_list (pv 5) (po_some (pv 6)) po_none))))) pss_nil)
      (pss_cons (ps_if (pt_cmpR op_eq (pv 3) pe_int (nomark _)) (pss_one (ps_ret (pe_join pe_str (pe_op op_cat (pe_slice sl_list (pv 5) po_none (po_some (pv 6))) (pe_slice sl_list (pv 5) (po_some (pe_op op_add (pv 6) pe_int)) po_none))))) pss_nil)
      (pss_cons (ps_set (i := 7) scBent.nd rfl (Or.inl rfl) (pe_call GD hr1 (by rfl) gD kD bD .nil pass0 (pa_cons (pv 0) (pa_cons (pe_callB call_len_seq (by rfl) T.len PySem.boot_len (pa_cons (pv 5) pa_nil)) pa_nil))))
      (pss_cons (ps_asg (pe_tup (pa_cons (pe_ix ix_list (pv 5) (pv 7) (fun _ _ => rfl)) (pa_cons (pe_ix ix_list (pv 5) (pv 6) (fun _ _ => rfl)) pa_nil))) (pg_tup rfl (pgs_cons (pg_sub (pv 5) (pv 6) set_list) (pgs_cons (pg_sub (pv 5) (pv 7) set_list) pgs_nil))))
      (pss_one (ps_ret (pe_join pe_str (pv 5)))))))))))))), ?_⟩
    have big : 10000000 ≤ sizeLine := by decide
    refine ⟨_, rfl, ?_⟩
    dsimp only [tCons, tNil, tC]
    refine sp_draw 8 S rfl (by decide) (by decide) (by omega) fun way H1 w0 w1 S1 k1 => ?_
    refine ⟨_, rfl, _, rfl, _, _, rfl, ⟨by omega, rfl⟩, _, _, rfl, rfl, ?_⟩
    dsimp only [tCons, tNil, tC]
    refine sp_draw ((t.length : Int) + 1) S1 rfl (by omega) (by omega) (by omega) fun at_ H2 a0 a1 S2 k2 => ⟨_, _, rfl, ?_⟩
    have k02 : Kp H H2 a q := k1.trans k2
    obtain ⟨ys, ey, ywt, y1⟩ : ∃ ys : List Str, Txt.split t "\n" = ys ∧ wt ys = t.length + 1 ∧ 1 ≤ ys.length := by
      refine ⟨_, rfl, ?_, ?_⟩
      · have e := split_feed t.cps.toList
        have e2 : tS t.cps.toList = t := SX.S_tl t
        rw [e2] at e
        rw [e, wt_spl, List.length_nil]
        show 0 + t.cps.toList.length + 1 = _
        rw [Array.length_toList, Nat.zero_add]
        rfl
      · have e := split_feed t.cps.toList
        have e2 : tS t.cps.toList = t := SX.S_tl t
        rw [e2] at e
        rw [e, List.length_map]
        exact List.length_pos_iff.mpr (spl_ne _ _)
    have yl : ys.length ≤ wt ys := Nat.le_add_left _ _
    refine ⟨_, rfl, ⟨_, rfl⟩, t, "\n", rfl, rfl, rfl, by omega, fun R nR => ?_⟩
    rw [ey]
    have s3 : Same H2 (upd H2 R (.lst (ys.map V.str))) := same_new nR
    have atR : (upd H2 R (.lst (ys.map V.str))) R = some (.lst (ys.map V.str)) := upd_same
    have S3 := S2.s s3
    have k03 : Kp H _ a q := k02.trans (Kp.of s3)
    have Ra : R ≠ a := fun e => by
      obtain ⟨_, _, _, z⟩ := S2
      rw [e, z.ha] at nR
      cases nR
    have Rq : R ≠ q := fun e => by
      obtain ⟨_, _, _, z⟩ := S2
      rw [e, z.hq] at nR
      cases nR
    generalize upd H2 R (.lst (ys.map V.str)) = H3 at s3 atR S3 k03 ⊢
    have lm : (ys.map V.str).length = ys.length := List.length_map ..
    refine ⟨_, rfl, _, rfl, R, _, rfl, .inl (SqL.of atR), ?_⟩
    dsimp only [tCons, tNil, tC]
    refine sp_draw ((ys.map V.str).length : Int) S3 rfl (by omega) (by omega) (by omega) fun row H4 r0 r1 S4 k4 => ?_
    have atR4 := k4 R _ atR Ra Rq
    have k04 := k03.trans k4
    have hb4 : SqL K H4 b (sg.map V.str) := sqL_at hb nba nbq k04
    have cl : ∀ lo hi, (cutS t lo hi).length ≤ t.length := fun lo hi => cutS_length t lo hi
    have pick : ∀ {Q2 : VK}, (∀ s H5, s ∈ sg → StA H5 a q (n + 3 + 1) → Kp H4 H5 a q → Q2 (.str s) H5) → ∀ vs, vs = [V.ref a, V.ref b] → spPick K vs H4 Q2 E0 := fun {Q2} go vs ev => by
      have e3 : n + 1 + 1 + 1 = n + 3 := by omega
      rw [e3] at S4
      refine sp_pick S4 ev (by omega) hb4 (fun z => ne (List.map_eq_nil_iff.mp z)) (by rw [List.length_map]; omega) nba nbq fun x H5 hx S5 k5 => ?_
      obtain ⟨s, hs, rfl⟩ := List.mem_map.1 hx
      exact go s H5 hs S5 k5
    refine ⟨_, rfl, _, _, rfl, rfl, _, rfl, ?_⟩
    refine ite2 (fun _ => ?_) fun _ => ?_
    · refine ⟨_, rfl, _, rfl, _, rfl, t, rfl, by omega, _, rfl, _, rfl, ?_⟩
      dsimp only [tCons, tNil, tC]
      refine pick (fun s H5 hs S5 k5 => ?_) _ rfl
      have l5 := sg5 s hs
      have c1 := cl none (some at_)
      have c2 := cl (some at_) none
      refine ⟨_, _, rfl, rfl, by omega, _, rfl, _, rfl, _, rfl, t, rfl, by omega, _, _, rfl, rfl, ?_, kk _ H5 _ ?_ ?_ S5 (k04.trans k5)⟩
      · rw [Str.length_append]
        omega
      · omega
      · rw [Str.length_append, Str.length_append]
        omega
    refine ⟨_, rfl, rfl, _, rfl, ?_⟩
    refine ite2 (fun _ => ?_) fun _ => ?_
    · have c1 := cl none (some at_)
      have c2 := cl (some (at_ + 1)) none
      refine ⟨_, rfl, _, rfl, _, rfl, t, rfl, by omega, _, rfl, _, rfl, _, _, rfl, rfl, _, rfl, t, rfl, by omega, _, _, rfl, rfl, by omega, kk _ H4 _ ?_ ?_ S4 k04⟩
      · omega
      · rw [Str.length_append]
        omega
    refine ⟨_, rfl, rfl, _, rfl, ?_⟩
    refine ite2 (fun _ => ?_) fun _ => ?_
    · refine ⟨_, rfl, _, rfl, _, rfl, t, rfl, by omega, _, rfl, _, rfl, ?_⟩
      dsimp only [tCons, tNil, tC]
      refine pick (fun s H5 hs S5 k5 => ?_) _ rfl
      have l5 := sg5 s hs
      have c1 := cl none (some at_)
      have c2 := cl (some (at_ + 1)) none
      refine ⟨_, _, rfl, rfl, by omega, _, rfl, _, rfl, _, _, rfl, rfl, _, rfl, t, rfl, by omega, _, _, rfl, rfl, ?_, kk _ H5 _ ?_ ?_ S5 (k04.trans k5)⟩
      · rw [Str.length_append]
        omega
      · omega
      · rw [Str.length_append, Str.length_append]
        omega
    refine ⟨_, rfl, rfl, _, rfl, ?_⟩
    refine ite2 (fun _ => ?_) fun _ => ?_
    · have c1 := cl none (some at_)
      exact ⟨_, rfl, _, rfl, _, rfl, t, rfl, by omega, kk _ H4 _ (by omega) (by omega) S4 k04⟩
    have fin : ∀ (zs : List Str) (p : Addr) (H5 : Hp) (n' : Int), wt zs ≤ 3 * (t.length + 1) → H5 p = some (.lst (zs.map V.str)) → n' ≤ n + 5 → StA H5 a q n' → Kp H H5 a q →
        ∃ s r, ∃ us : List Str, V.str "\n" = .str s ∧ [V.ref p] = [.ref r] ∧ (SqL K H5 r (us.map V.str) ∨ SqT K H5 r (us.map V.str)) ∧ (us.map (·.length)).sum + us.length * s.length ≤ 16777216 ∧ Q (.str (Txt.join s us)) H5 := by
      intro zs p H5 n' lz hp hn' S5 k5
      have j := join_feed zs
      refine ⟨"\n", p, zs, rfl, rfl, .inl (SqL.of hp), ?_, kk _ H5 n' hn' (by omega) S5 k5⟩
      have e1 : (("\n" : Str)).length = 1 := rfl
      rw [e1, Nat.mul_one]
      show wt zs ≤ _
      omega
    refine ⟨_, rfl, rfl, _, rfl, ?_⟩
    have keepS : ∀ {H5 : Hp}, Same H4 H5 → StA H5 a q (n + 1 + 1 + 1) ∧ Kp H H5 a q := fun {H5} s => ⟨S4.s s, k04.trans (Kp.of s)⟩
    obtain ⟨zA, eA, lA, cA⟩ := part_strs ys none (some row)
    obtain ⟨zB, eB, lB, cB⟩ := part_strs ys (some row) (some (row + 1))
    obtain ⟨zC, eC, lC, cC⟩ := part_strs ys (some row) none
    obtain ⟨zD, eD, lD, cD⟩ := part_strs ys (some (row + 1)) none
    refine ite2 (fun _ => ?_) fun _ => ?_
    · refine ⟨⟨_, rfl⟩, _, rfl, _, rfl, _, rfl, R, _, rfl, SqL.of atR4, fun p1 n1 => ?_⟩
      rw [eA]
      have s5 : Same H4 (upd H4 p1 (.lst (zA.map V.str))) := same_new n1
      have at5 : (upd H4 p1 (.lst (zA.map V.str))) p1 = some (.lst (zA.map V.str)) := upd_same
      generalize upd H4 p1 (.lst (zA.map V.str)) = H5 at s5 at5 ⊢
      refine ⟨_, rfl, _, rfl, _, rfl, _, rfl, _, _, rfl, rfl, _, rfl, R, _, rfl, SqL.of (s5 _ _ atR4), fun p2 n2 => ?_⟩
      dsimp only
      rw [eB]
      have s6 : Same H5 (upd H5 p2 (.lst (zB.map V.str))) := same_new n2
      have at6 : (upd H5 p2 (.lst (zB.map V.str))) p2 = some (.lst (zB.map V.str)) := upd_same
      generalize upd H5 p2 (.lst (zB.map V.str)) = H6 at s6 at6 ⊢
      refine ⟨p1, p2, _, _, rfl, rfl, s6 _ _ at5, at6, by rw [List.length_map, List.length_map]; omega, fun p3 n3 => ?_⟩
      rw [← List.map_append]
      have s7 : Same H6 (upd H6 p3 (.lst ((zA ++ zB).map V.str))) := same_new n3
      have at7 : (upd H6 p3 (.lst ((zA ++ zB).map V.str))) p3 = some (.lst ((zA ++ zB).map V.str)) := upd_same
      generalize upd H6 p3 (.lst ((zA ++ zB).map V.str)) = H7 at s7 at7 ⊢
      have s47 := Same.trans s5 (Same.trans s6 s7)
      refine ⟨_, rfl, _, rfl, _, rfl, R, _, rfl, SqL.of (s47 _ _ atR4), fun p4 n4 => ?_⟩
      rw [eC]
      have s8 : Same H7 (upd H7 p4 (.lst (zC.map V.str))) := same_new n4
      have at8 : (upd H7 p4 (.lst (zC.map V.str))) p4 = some (.lst (zC.map V.str)) := upd_same
      generalize upd H7 p4 (.lst (zC.map V.str)) = H8 at s8 at8 ⊢
      refine ⟨p3, p4, _, _, rfl, rfl, s8 _ _ at7, at8, by rw [List.length_map, List.length_map, List.length_append]; omega, fun p5 n5 => ?_⟩
      rw [← List.map_append]
      have ks := keepS (Same.trans s47 (Same.trans s8 (same_new (o := .lst ((zA ++ zB ++ zC).map V.str)) n5)))
      refine fin (zA ++ zB ++ zC) p5 _ _ ?_ upd_same (by omega) ks.1 ks.2
      rw [wt_app, wt_app]
      omega
    refine ⟨_, rfl, rfl, _, rfl, ?_⟩
    refine ite2 (fun _ => ?_) fun _ => ?_
    · refine ⟨⟨_, rfl⟩, _, rfl, _, rfl, _, rfl, R, _, rfl, SqL.of atR4, fun p1 n1 => ?_⟩
      rw [eA]
      have s5 : Same H4 (upd H4 p1 (.lst (zA.map V.str))) := same_new n1
      have at5 : (upd H4 p1 (.lst (zA.map V.str))) p1 = some (.lst (zA.map V.str)) := upd_same
      generalize upd H4 p1 (.lst (zA.map V.str)) = H5 at s5 at5 ⊢
      refine ⟨_, rfl, _, rfl, _, _, rfl, rfl, _, rfl, R, _, rfl, SqL.of (s5 _ _ atR4), fun p2 n2 => ?_⟩
      dsimp only
      rw [eD]
      have s6 : Same H5 (upd H5 p2 (.lst (zD.map V.str))) := same_new n2
      have at6 : (upd H5 p2 (.lst (zD.map V.str))) p2 = some (.lst (zD.map V.str)) := upd_same
      generalize upd H5 p2 (.lst (zD.map V.str)) = H6 at s6 at6 ⊢
      refine ⟨p1, p2, _, _, rfl, rfl, s6 _ _ at5, at6, by rw [List.length_map, List.length_map]; omega, fun p3 n3 => ?_⟩
      rw [← List.map_append]
      have ks := keepS (Same.trans s5 (Same.trans s6 (same_new (o := .lst ((zA ++ zD).map V.str)) n3)))
      refine fin (zA ++ zD) p3 _ _ ?_ upd_same (by omega) ks.1 ks.2
      rw [wt_app]
      omega
    refine ⟨_, rfl, _, rfl, R, _, rfl, .inl (SqL.of atR4), ?_⟩
    dsimp only [tCons, tNil, tC]
    refine sp_draw ((ys.map V.str).length : Int) S4 rfl (by omega) (by omega) (by omega) fun oth H5 o0 o1 S5 k5 => ?_
    have atR5 := k5 R _ atR4 Ra Rq
    obtain ⟨rj, rfl⟩ := Int.eq_ofNat_of_zero_le r0
    obtain ⟨oj, rfl⟩ := Int.eq_ofNat_of_zero_le o0
    have rl : rj < ys.length := by omega
    have ol : oj < ys.length := by omega
    have seqN : ∀ {j m : Nat}, j < m → ixN m (j : Int) = some j := fun {j m} h => by
      unfold ixN
      simp
      omega
    have ir : (ys.map V.str)[rj]? = some (V.str ys[rj]) := by rw [List.getElem?_map, List.getElem?_eq_getElem rl]; rfl
    have io : (ys.map V.str)[oj]? = some (V.str ys[oj]) := by rw [List.getElem?_map, List.getElem?_eq_getElem ol]; rfl
    refine ⟨_, rfl, _, rfl, R, _, _, _, rfl, rfl, SqL.of atR5, atI_nat io, _, rfl, _, rfl, R, _, _, _, rfl, rfl, SqL.of atR5, atI_nat ir, (by show 2 ≤ sizeLine; omega), fun T nT => ?_⟩
    have s6 : Same H5 (upd H5 T (.tup [V.str ys[oj], V.str ys[rj]])) := same_new nT
    refine ⟨T, [V.str ys[oj], V.str ys[rj]], rfl, .inl (.inl upd_same), rfl, _, _, rfl, ?_⟩
    generalize upd H5 T (.tup [V.str ys[oj], V.str ys[rj]]) = H6 at s6 ⊢
    have atR6 := s6 _ _ atR5
    refine ⟨_, rfl, _, rfl, R, _, _, rj, rfl, rfl, atR6, seqN (by omega), _, _, rfl, ?_⟩
    have m1 : (ys.map V.str).set rj (V.str ys[oj]) = (ys.set rj ys[oj]).map V.str := List.map_set.symm
    rw [m1]
    refine ⟨_, rfl, _, rfl, R, _, _, oj, rfl, rfl, upd_same, seqN (by rw [List.length_map, List.length_set]; omega), rfl, ?_⟩
    have m2 : ((ys.set rj ys[oj]).map V.str).set oj (V.str ys[rj]) = ((ys.set rj ys[oj]).set oj ys[rj]).map V.str := List.map_set.symm
    rw [m2]
    refine ⟨⟨_, rfl⟩, _, rfl, ?_⟩
    have w1 := wt_set ys rj ys[oj]
    have w2 := wt_set (ys.set rj ys[oj]) oj ys[rj]
    have w3 := wt_mem (List.getElem_mem rl)
    have w4 := wt_mem (List.getElem_mem ol)
    refine fin _ R _ (n + 1 + 1 + 1 + 1) (by omega) upd_same (by omega) ?_ ?_
    · obtain ⟨cs, l, m, z⟩ := S5.s s6
      exact ⟨cs, l, m, by rw [upd_ne Ra.symm, upd_ne Ra.symm]; exact z.ha, by rw [upd_ne Rq.symm, upd_ne Rq.symm]; exact z.hq, z.l0, z.n0, z.m0, z.m1⟩
    · intro b2 o e x1 x2
      have nbR : b2 ≠ R := fun z => by
        rw [z] at e
        have y := k02 R o e Ra Rq
        rw [nR] at y
        cases y
      rw [upd_ne nbR, upd_ne nbR]
      exact s6 _ _ (k5 b2 o (k04 b2 o e x1 x2) x1 x2)
end
end Mine
namespace Mine
open PySem L2 PySem.Spec PyProof.Rows Pic
/-! ### drawn pictures -/
abbrev sPict : Stmt := top 25
theorem part_ints (vals : List Int) (lo hi : Option Int) : ∃ zs : List Int, cutV (vals.map V.int) lo hi = zs.map V.int ∧ (∀ z ∈ zs, z ∈ vals) ∧ zs.length ≤ vals.length := by
  refine ⟨(vals.drop (HT.sIx (vals.map V.int).length 0 lo)).take (HT.sIx (vals.map V.int).length (vals.map V.int).length hi - HT.sIx (vals.map V.int).length 0 lo), ?_, fun z hz => List.mem_of_mem_drop (List.mem_of_mem_take hz), ?_⟩
  · unfold cutV
    rw [List.map_take, List.map_drop]
  · rw [List.length_take, List.length_drop]
    omega
/-- rows as data -/
abbrev rowD (r : List Int) : PyData := .list (r.map PyData.int)
abbrev picDt (rows : List (List Int)) : PyData := .list (rows.map rowD)
theorem lay_rows : ∀ rows : List (List Int), PyData.canLayAll0 (rows.map rowD) = true
  | [] => rfl
  | r :: rows => by
    show (PyData.canLay0 (rowD r) && PyData.canLayAll0 (rows.map rowD)) = true
    have e : PyData.canLay0 (rowD r) = PyData.canLayAll0 (r.map PyData.int) := rfl
    rw [e, lay_ints r, lay_rows rows]
    rfl
theorem depth_rows : ∀ rows : List (List Int), PyData.depthAll (rows.map rowD) ≤ 1
  | [] => Nat.zero_le _
  | r :: rows => by
    have h := depth_rows rows
    have e : PyData.depth (rowD r) = PyData.depthAll (r.map PyData.int) + 1 := rfl
    have e2 : PyData.depthAll ((r :: rows).map rowD) = max (PyData.depth (rowD r)) (PyData.depthAll (rows.map rowD)) := rfl
    rw [e2, e, depth_ints r]
    omega
theorem shaped_rows (rows : List (List Int)) : SeqAt.shaped (picDt rows) = true := by
  show (PyData.canLayAll0 (rows.map rowD) && decide (PyData.depth (picDt rows) ≤ 64)) = true
  rw [lay_rows rows, Bool.true_and]
  have e : PyData.depth (picDt rows) = PyData.depthAll (rows.map rowD) + 1 := rfl
  have h := depth_rows rows
  exact decide_eq_true (by rw [e]; omega)
theorem dp_rows {K : PySem.W.Frag} {H : Hp} : ∀ {qs : List Addr} {rows : List (List Int)}, RowsAt H qs rows → DpAll K H (qs.map V.ref) (rows.map rowD)
  | _, _, .nil => .nil
  | _, _, .cons h t => .cons (.lst (SqL.of h) (dp_ints _ _ _)) (dp_rows t)
theorem dp_pic {K : PySem.W.Frag} {H : Hp} {p : Addr} {qs : List Addr} {rows : List (List Int)} (hp : H p = some (.lst (qs.map V.ref))) (h : RowsAt H qs rows) : Dp K H (.ref p) (picDt rows) := .lst (SqL.of hp) (dp_rows h)
theorem rowsAt_mono {H H' : Hp} {qs : List Addr} {rows : List (List Int)} (h : RowsAt H qs rows) (k : ∀ b o, H b = some o → b ∈ qs → H' b = some o) : RowsAt H' qs rows := paired_mem h fun q xs hm e => k q _ e hm
/-- what stands while a row is drawn -/
def PG (H : Hp) (a q F L : Addr) (qs : List Addr) (rows : List (List Int)) (vals : List Int) (n : Int) (H' : Hp) : Prop := StA H' a q n ∧ Kp H H' a q ∧ H' F = some (.lst (qs.map V.ref)) ∧ RowsAt H' qs rows ∧ H' L = some (.lst (vals.map V.int))
theorem PG.s {H : Hp} {a q F L : Addr} {qs : List Addr} {rows : List (List Int)} {vals : List Int} {n : Int} {H1 H2 : Hp} (g : PG H a q F L qs rows vals n H1) (s : Same H1 H2) : PG H a q F L qs rows vals n H2 :=
  ⟨g.1.s s, g.2.1.trans (Kp.of s), s _ _ g.2.2.1, rowsAt_mono g.2.2.2.1 fun b o e _ => s b o e, s _ _ g.2.2.2.2⟩
theorem PG.k {H : Hp} {a q F L : Addr} {qs : List Addr} {rows : List (List Int)} {vals : List Int} {n n' : Int} {H1 H2 : Hp} (g : PG H a q F L qs rows vals n H1) (S : StA H2 a q n') (k : Kp H1 H2 a q) (x : F ≠ a ∧ F ≠ q ∧ L ≠ a ∧ L ≠ q ∧ ∀ b ∈ qs, b ≠ a ∧ b ≠ q) : PG H a q F L qs rows vals n' H2 :=
  ⟨S, g.2.1.trans k, k _ _ g.2.2.1 x.1 x.2.1, rowsAt_mono g.2.2.2.1 fun b o e m => k b o e (x.2.2.2.2 b m).1 (x.2.2.2.2 b m).2, k _ _ g.2.2.2.2 x.2.2.1 x.2.2.2.1⟩
section
variable {w : World} {P : Program} {base : Heap} {K : PySem.W.Frag} {mg : Str → Option Value}
theorem scPict : FnScope ["_law_stream", "_law_rows", "_law_columns", "_law_shades", "_law_found", "_law_row", "_law_line", "_law_column", "_law_near", "_law_is_flat"] ["_law_stream", "_law_rows", "_law_columns", "_law_shades"] (defScope sPict) := ⟨rfl, rfl, rfl, by decide +kernel, rfl, by decide +kernel, by decide +kernel⟩
def Sh (i : Int) : Prop := 0 ≤ i ∧ i < 9
def spPict : Sp := fun vs H Q _ => ∃ (a q : Addr) (n : Int) (R C : Nat), vs = [.ref a, .int R, .int C, .int 9] ∧ StA H a q n ∧ n < 800000000000 ∧ R ≤ 50 ∧ C ≤ 50 ∧
  ∀ p qs rows H' n', n' ≤ n + 10000 → StA H' a q n' → Kp H H' a q → H p = none → (∀ b ∈ qs, H b = none) → H' p = some (.lst (qs.map V.ref)) → RowsAt H' qs rows → rows.length = R → (∀ r ∈ rows, r.length = C ∧ ∀ i ∈ r, Sh i) → Q (.ref p) H'
theorem ok_pict {f : Addr} {fd : FuncData} (F : Fun K "_law_a_picture" "_law_a_picture" sPict f fd) (T : TI4 mg) (KD : Kn P w K mg base CX0 1 "_law_draw" ["_law_stream", "_law_many"] spDraw) (KP : Kn P w K mg base CX0 2 "_law_pick" ["_law_stream", "_law_some"] (spPick K)) : FnOk P w K mg base CX0 3 f fd ["_law_stream", "_law_rows", "_law_columns", "_law_shades"] spPict := by
  obtain ⟨fD, fdD, GD, gD, kD, bD⟩ := KD
  obtain ⟨fP, fdP, GP, gP, kP, bP⟩ := KP
  refine F.ok scPict (fun vs H Q E h => ?_) (fun cdv A outer s H vs Q E hr h => ?_)
  · obtain ⟨a, q, n, R, C, rfl, _⟩ := h
    rfl
  · obtain ⟨a, q, n, R, C, rfl, S, hn, hR, hC, kk⟩ := h
    have hr1 := hr.mono (show 1 ≤ 2 by decide)
    refine ⟨_, pss_cons (ps_set (i := 4) scPict.nd rfl (Or.inl rfl) (pe_lst pa_nil))
      (pss_cons (ps_for PassesOwn.never rfl (pi_range1 rfl T.range (pa_cons (pv 1) pa_nil)) (pg_name (i := 5) scPict.nd rfl (Or.inl rfl))
        (pss_cons (ps_set (i := 6) scPict.nd rfl (Or.inl rfl) (pe_lst pa_nil))
        (pss_cons (ps_for PassesOwn.never rfl (pi_range1 rfl T.range (pa_cons (pv 2) pa_nil)) (pg_name (i := 7) scPict.nd rfl (Or.inl rfl))
          (pss_cons (ps_set (i := 8) scPict.nd rfl (Or.inl rfl) (pe_op op_cat (pe_slice sl_list (pv 6) (po_some (pe_un un_neg pe_int)) po_none) (pe_ifExp (pt_cmpR (op_neD hr.units) (pv 4) (pe_lst pa_nil) (nomark _)) (pe_slice sl_list (pe_ix ix_list (pv 4) (pe_un un_neg pe_int) (fun _ _ => rfl)) (po_some (pv 7)) (po_some (pe_op op_add (pv 7) pe_int))) (pe_lst pa_nil))))
          (pss_cons (ps_set (i := 9) scPict.nd rfl (Or.inl rfl) (pe_and (pe_cmpR (op_neD hr.units) (pv 8) (pe_lst pa_nil) (nomark _)) (pe_one (pe_cmpR op_gt (pe_call GD hr1 (by rfl) gD kD bD .nil pass0 (pa_cons (pv 0) (pa_cons pe_int pa_nil))) pe_int (nomark _)))))
          (pss_one (ps_expr (pe_bm PySem.F.plainAttrs_list PySem.F.slot_list_append PySem.F.type_list_append mt_append (pv 6) (pa_cons (pe_ifExp (pt_val (pv 9)) (pe_call GP hr (by rfl) gP kP bP .nil pass0 (pa_cons (pv 0) (pa_cons (pv 8) pa_nil))) (pe_call GD hr1 (by rfl) gD kD bD .nil pass0 (pa_cons (pv 0) (pa_cons (pv 3) pa_nil)))) pa_nil)))))))
        (pss_one (ps_expr (pe_bm PySem.F.plainAttrs_list PySem.F.slot_list_append PySem.F.type_list_append mt_append (pv 4) (pa_cons (pv 6) pa_nil)))))))
      (pss_one (ps_ret (pv 4)))), ?_⟩
    have big : 10000000 ≤ sizeLine := by decide
    obtain ⟨cs0, l0, m0, Z0⟩ := id S
    have ha := Z0.ha
    have hq := Z0.hq
    refine ⟨Nat.zero_le _, fun F0 nF => ?_⟩
    have nFa : F0 ≠ a := fun e => by rw [e, ha] at nF; cases nF
    have nFq : F0 ≠ q := fun e => by rw [e, hq] at nF; cases nF
    refine ⟨_, rfl, _, rfl, by omega, by omega, ?_⟩
    refine for_any (n := R) (fun i σ H' => ∃ (qs : List Addr) (rows : List (List Int)) (n' : Int) (v5 v6 v7 v8 v9 : Option V), σ = [some (.ref a), some (.int R), some (.int C), some (.int 9), some (.ref F0), v5, v6, v7, v8, v9] ∧ n' ≤ n + 200 * i ∧ StA H' a q n' ∧ Kp H H' a q ∧ H' F0 = some (.lst (qs.map V.ref)) ∧ RowsAt H' qs rows ∧ F0 ∉ qs ∧ (∀ b ∈ qs, H b = none) ∧ rows.length = i ∧ (∀ r ∈ rows, r.length = C ∧ ∀ i ∈ r, Sh i)) ?_ (fun j _ _ lt _ => lt) (fun _ _ _ => Nat.le_refl _) ?_ ?_
    · exact ⟨[], [], n, _, _, _, _, _, rfl, by simp, S.s (same_new nF), Kp.of (same_new nF), upd_same, .nil, List.not_mem_nil, fun b hb => (nomatch hb), rfl, fun r hr => (nomatch hr)⟩
    · rintro i σ H1 x H2 lt ⟨qs, rows, n1, v5, v6, v7, v8, v9, rfl, hn1, S1, k1, atF, rs, nin, fresh, lrows, good⟩ ⟨rfl, rfl⟩
      have fromH : ∀ {b : Addr}, H b = none → b ≠ a ∧ b ≠ q := fun {b} hb => ⟨(fun e => by rw [e, ha] at hb; cases hb), (fun e => by rw [e, hq] at hb; cases hb)⟩
      refine ⟨Nat.zero_le _, fun L nL => ?_⟩
      have La : L ≠ a := fun e => by
        obtain ⟨_, _, _, z⟩ := S1
        rw [e, z.ha] at nL
        cases nL
      have Lq : L ≠ q := fun e => by
        obtain ⟨_, _, _, z⟩ := S1
        rw [e, z.hq] at nL
        cases nL
      have LF : L ≠ F0 := fun e => by rw [e, atF] at nL; cases nL
      have Lqs : L ∉ qs := fun hm => by
        obtain ⟨r, _, e⟩ := paired_left rs hm
        rw [e] at nL
        cases nL
      have LH : H L = none := by
        cases e : H L with
        | none => rfl
        | some o =>
          rw [k1 L o e La Lq] at nL
          cases nL
      have ne5 : F0 ≠ a ∧ F0 ≠ q ∧ L ≠ a ∧ L ≠ q ∧ ∀ b ∈ qs, b ≠ a ∧ b ≠ q := ⟨nFa, nFq, La, Lq, fun b hb => fromH (fresh b hb)⟩
      have sL : Same H2 (upd H2 L (.lst [])) := same_new nL
      have g0 : PG H a q F0 L qs rows [] n1 (upd H2 L (.lst [])) := ⟨S1.s sL, k1.trans (Kp.of sL), sL _ _ atF, rowsAt_mono rs fun b o e _ => sL b o e, upd_same⟩
      generalize upd H2 L (.lst []) = HL at g0 ⊢
      refine ⟨_, rfl, _, rfl, by omega, by omega, ?_⟩
      refine for_any (n := C) (fun j σ H' => ∃ (vals : List Int) (n2 : Int) (v7 v8 v9 : Option V), σ = [some (.ref a), some (.int R), some (.int C), some (.int 9), some (.ref F0), some (.int (0 + (i : Int))), some (.ref L), v7, v8, v9] ∧ n2 ≤ n1 + 3 * j ∧ PG H a q F0 L qs rows vals n2 H' ∧ vals.length = j ∧ ∀ i ∈ vals, Sh i) ?_ (fun j _ _ lt _ => lt) (fun _ _ _ => Nat.le_refl _) ?_ ?_
      · exact ⟨[], n1, _, _, _, rfl, by simp, g0, rfl, fun i hi => (nomatch hi)⟩
      · rintro j σ H3 x H4 ltj ⟨vals, n2, v7, v8, v9, rfl, hn2, g3, lv, sh⟩ ⟨rfl, rfl⟩
        obtain ⟨z1, e1, m1, c1⟩ := part_ints vals (some (-1)) none
        refine ⟨_, rfl, _, rfl, _, rfl, L, _, rfl, SqL.of g3.2.2.2.2, fun p1 np1 => ?_⟩
        rw [show (- (1 : Int)) = -1 from rfl, e1]
        have g4 := g3.s (same_new (o := .lst (z1.map V.int)) np1)
        have at4 : (upd H4 p1 (.lst (z1.map V.int))) p1 = some (.lst (z1.map V.int)) := upd_same
        generalize upd H4 p1 (.lst (z1.map V.int)) = H5 at g4 at4 ⊢
        refine ⟨_, rfl, Nat.zero_le _, fun p2 np2 => ?_⟩
        have s5 : Same H5 (upd H5 p2 (.lst [])) := same_new np2
        have g5 := g4.s s5
        refine ⟨picDt rows, .list [], dp_pic g5.2.2.1 g5.2.2.2.1, .lst (SqL.of upd_same) .nil, shaped_rows rows, by decide +kernel, _, rfl, ?_⟩
        have at5 := s5 _ _ at4
        generalize upd H5 p2 (.lst []) = H6 at s5 g5 at5 ⊢
        rw [eqv_nil]
        have fin : ∀ (v : Int) (H7 : Hp) (n' : Int) (v8 v9 : Option V), PG H a q F0 L qs rows vals n' H7 → Sh v → n' ≤ n2 + 3 →
            ∃ (vals' : List Int) (n3 : Int) (v7' v8' v9' : Option V), [some (V.ref a), some (.int R), some (.int C), some (.int 9), some (.ref F0), some (.int (0 + (i : Int))), some (.ref L), some (.int (0 + (j : Int))), v8, v9] = [some (.ref a), some (.int R), some (.int C), some (.int 9), some (.ref F0), some (.int (0 + (i : Int))), some (.ref L), v7', v8', v9'] ∧
              n3 ≤ n1 + 3 * ((j + 1 : Nat) : Int) ∧ PG H a q F0 L qs rows vals' n3 (upd H7 L (.lst (vals.map V.int ++ [V.int v]))) ∧ vals'.length = j + 1 ∧ ∀ i ∈ vals', Sh i := by
          intro v H7 n' v8 v9 g7 sv hn'
          refine ⟨vals ++ [v], n', _, _, _, rfl, by omega, ⟨?_, ?_, ?_, ?_, ?_⟩, by rw [List.length_append, lv]; rfl, fun i hi => ?_⟩
          · obtain ⟨cs, l, m, z⟩ := g7.1
            exact ⟨cs, l, m, by rw [upd_ne La.symm]; exact z.ha, by rw [upd_ne Lq.symm]; exact z.hq, z.l0, z.n0, z.m0, z.m1⟩
          · intro b o e x1 x2
            rw [upd_ne (ne_of_none e LH)]
            exact g7.2.1 b o e x1 x2
          · rw [upd_ne LF.symm]
            exact g7.2.2.1
          · refine rowsAt_mono g7.2.2.2.1 fun b o e hm => ?_
            rw [upd_ne (fun h : b = L => Lqs (h ▸ hm))]
            exact e
          · rw [upd_same, List.map_append]
            rfl
          · rcases List.mem_append.1 hi with h | h
            · exact sh i h
            · rw [List.mem_singleton.1 h]
              exact sv
        have lz1 : z1.length ≤ 50 := by omega
        have sz1 : ∀ z ∈ z1, Sh z := fun z hz => sh z (m1 z hz)
        have notS : ∀ {H7 H8 : Hp} {N : Addr} {o : HO}, PG H a q F0 L qs rows vals n2 H7 → H7 N = none → N ≠ a ∧ N ≠ q := fun {H7 H8 N o} g h => by
          obtain ⟨_, _, _, z⟩ := g.1
          exact ⟨(fun e => by rw [e, z.ha] at h; cases h), (fun e => by rw [e, z.hq] at h; cases h)⟩
        have near : ∃ zs : List Int, zs = zs := ⟨[], rfl⟩
        refine ite2 (fun c => ?A) (fun c => ?B)
        case' A =>
          have rne : rows ≠ [] := fun e => by
            rw [e] at c
            cases c
          obtain ⟨ri, rj, erow⟩ : ∃ rs' r, rows = rs' ++ [r] := ⟨_, _, (List.dropLast_concat_getLast rne).symm⟩
          have ll := Paired.length rs
          obtain ⟨qi, qj, eqs⟩ : ∃ qs' q', qs = qs' ++ [q'] := by
            have qne : qs ≠ [] := fun e => by
              rw [e, erow] at ll
              simp at ll
            exact ⟨_, _, (List.dropLast_concat_getLast qne).symm⟩
          have lq1 : qi.length = ri.length := by
            rw [eqs, erow, List.length_append, List.length_append] at ll
            simpa using ll
          have atq : H6 qj = some (.lst (rj.map V.int)) := by
            have eq : qs[qi.length]? = some qj := by rw [eqs, List.getElem?_append_right (Nat.le_refl _), Nat.sub_self]; rfl
            obtain ⟨r, er, hr⟩ := LiI.paired_get g5.2.2.2.1 eq
            rw [erow, lq1, List.getElem?_append_right (Nat.le_refl _), Nat.sub_self] at er
            cases er
            exact hr
          have lastI : atI (qs.map V.ref) (-1) = some (V.ref qj) := by
            rw [eqs, List.map_append]
            exact atI_last _ _
          obtain ⟨z2, e2, m2, c2⟩ := part_ints rj (some (0 + (j : Int))) (some (0 + (j : Int) + 1))
          have gr := good rj (by rw [erow]; exact List.mem_append_right _ (List.mem_singleton.2 rfl))
          refine ⟨_, rfl, _, rfl, F0, _, _, _, rfl, rfl, SqL.of g5.2.2.1, lastI, _, rfl, _, rfl, _, rfl, _, _, rfl, rfl, _, rfl, qj, _, rfl, SqL.of atq, fun p3 np3 => ?_⟩
          dsimp only
          rw [e2]
          have lz2 : z2.length ≤ 50 := by omega
          have sz2 : ∀ z ∈ z2, Sh z := fun z hz => gr.2 z (m2 z hz)
        case' B =>
          refine ⟨Nat.zero_le _, fun p3 np3 => ?_⟩
          obtain ⟨z2, e2, lz2, sz2⟩ : ∃ z2 : List Int, [] = z2.map V.int ∧ z2.length ≤ 50 ∧ ∀ z ∈ z2, Sh z := ⟨[], rfl, Nat.zero_le _, fun z hz => (nomatch hz)⟩
          rw [congrArg HO.lst e2]
        all_goals
          have s6 : Same H6 (upd H6 p3 (.lst (z2.map V.int))) := same_new np3
          have g6 := g5.s s6
          have at6 : (upd H6 p3 (.lst (z2.map V.int))) p3 = some (.lst (z2.map V.int)) := upd_same
          generalize upd H6 p3 (.lst (z2.map V.int)) = H7 at s6 g6 at6 ⊢
          refine ⟨p1, p3, _, _, rfl, rfl, s6 _ _ at5, at6, by rw [List.length_map, List.length_map]; omega, fun N nN => ?_⟩
          rw [← List.map_append]
          obtain ⟨nNa, nNq⟩ := notS (H8 := H7) (o := .lst []) g6 nN
          have s7 : Same H7 (upd H7 N (.lst ((z1 ++ z2).map V.int))) := same_new nN
          have g7 := g6.s s7
          have at7 : (upd H7 N (.lst ((z1 ++ z2).map V.int))) N = some (.lst ((z1 ++ z2).map V.int)) := upd_same
          generalize upd H7 N (.lst ((z1 ++ z2).map V.int)) = H8 at s7 g7 at7 ⊢
          have szs : ∀ z ∈ z1 ++ z2, Sh z := fun z hz => (List.mem_append.1 hz).elim (sz1 z) (sz2 z)
          have lzs : (z1 ++ z2).length ≤ 100 := by rw [List.length_append]; omega
          generalize z1 ++ z2 = zs at at7 szs lzs ⊢
          refine ⟨_, rfl, Nat.zero_le _, fun p8 np8 => ?_⟩
          have s8 : Same H8 (upd H8 p8 (.lst [])) := same_new np8
          refine ⟨.list (zs.map PyData.int), .list [], .lst (SqL.of (s8 _ _ at7)) (dp_ints _ _ _), .lst (SqL.of upd_same) .nil, shaped_ints _, by decide +kernel, _, rfl, ?_⟩
          have g8 := g7.s s8
          have at8 := s8 _ _ at7
          generalize upd H8 p8 (.lst []) = H9 at g8 at8 ⊢
          rw [eqv_nil]
          refine ite2 (fun cz => ?_) (fun cz => ?_)
          case' refine_1 =>
            have zne : zs ≠ [] := fun e => by
              rw [e] at cz
              cases cz
            refine ⟨_, rfl, ?_⟩
            dsimp only [tCons, tNil, tC]
            refine sp_draw 3 g8.1 rfl (by decide) (by decide) (by omega) fun d H10 d0 d1 S10 k10 => ⟨_, _, rfl, rfl, ?_⟩
            dsimp only
            have at9 := k10 N _ at8 nNa nNq
            have g9 := g8.k S10 k10 ne5
            obtain ⟨fl, hfl⟩ : ∃ fl, decide ((0 : Int) < d) = fl := ⟨_, rfl⟩
            rw [hfl]
            have flz : fl = true → zs ≠ [] := fun _ => zne
            obtain ⟨n9, e9⟩ : ∃ n9, n2 + 1 = n9 := ⟨_, rfl⟩
            rw [e9] at g9
            have hn9 : n9 ≤ n2 + 1 := by omega
            clear hfl
          case' refine_2 =>
            obtain ⟨fl, hfl⟩ : ∃ fl, false = fl := ⟨_, rfl⟩
            rw [hfl]
            have flz : fl = true → zs ≠ [] := fun e => by
              rw [← hfl] at e
              cases e
            have g9 := g8
            have at9 := at8
            obtain ⟨n9, e9⟩ : ∃ n9, n2 = n9 := ⟨_, rfl⟩
            have hn9 : n9 ≤ n2 + 1 := by omega
            rw [e9] at g9
            obtain ⟨H10, e10⟩ : ∃ H10, H9 = H10 := ⟨_, rfl⟩
            rw [e10] at g9 at9
            rw [e10]
            clear hfl
          all_goals
            refine ⟨_, rfl, .inl ⟨rfl, _, SqL.of g9.2.2.2.2⟩, _, rfl, fl, rfl, ?_⟩
            cases fl with
            | true =>
              refine iteT ⟨_, rfl, _, rfl, ?_⟩
              dsimp only [tCons, tNil, tC]
              refine sp_pick g9.1 rfl (by omega) (SqL.of at9) (fun e => flz rfl (List.map_eq_nil_iff.mp e)) (by rw [List.length_map]; omega) nNa nNq fun x H11 hx S11 k11 => ?_
              obtain ⟨v, hv, rfl⟩ := List.mem_map.1 hx
              have g10 := g9.k S11 k11 ne5
              exact ⟨L, _, _, rfl, rfl, g10.2.2.2.2, by rw [List.length_map]; omega, fin v H11 _ _ _ g10 (szs v hv) (by omega)⟩
            | false =>
              refine iteF ⟨_, rfl, _, rfl, ?_⟩
              dsimp only [tCons, tNil, tC]
              refine sp_draw 9 g9.1 rfl (by decide) (by decide) (by omega) fun d H11 d0 d1 S11 k11 => ?_
              have g10 := g9.k S11 k11 ne5
              exact ⟨L, _, _, rfl, rfl, g10.2.2.2.2, by rw [List.length_map]; omega, fin d H11 _ _ _ g10 ⟨d0, d1⟩ (by omega)⟩
      · rintro σ H3 ⟨vals, n2, v7, v8, v9, rfl, hn2, g3, lv, sh⟩
        refine ⟨_, rfl, .inl ⟨rfl, _, SqL.of g3.2.2.1⟩, _, rfl, F0, _, _, rfl, rfl, g3.2.2.1, ?_, ?_⟩
        · have lq := Paired.length rs
          rw [List.length_map]
          omega
        · have nLF : F0 ∉ qs ++ [L] := fun hm => by
            rcases List.mem_append.1 hm with h | h
            · exact nin h
            · exact LF (List.mem_singleton.1 h).symm
          refine ⟨qs ++ [L], rows ++ [vals], n2, _, _, _, _, _, rfl, by omega, ?_, ?_, ?_, ?_, nLF, ?_, ?_, ?_⟩
          · obtain ⟨cs, l, m, z⟩ := g3.1
            exact ⟨cs, l, m, by rw [upd_ne nFa.symm]; exact z.ha, by rw [upd_ne nFq.symm]; exact z.hq, z.l0, z.n0, z.m0, z.m1⟩
          · intro b o e x1 x2
            rw [upd_ne (ne_of_none e nF)]
            exact g3.2.1 b o e x1 x2
          · rw [upd_same, List.map_append]
            rfl
          · refine paired_app (rowsAt_mono g3.2.2.2.1 fun b o e hm => ?_) ?_
            · rw [upd_ne (fun h : b = F0 => nin (h ▸ hm))]
              exact e
            · rw [upd_ne LF]
              exact g3.2.2.2.2
          · intro b hb
            rcases List.mem_append.1 hb with h | h
            · exact fresh b h
            · rw [List.mem_singleton.1 h]
              exact LH
          · rw [List.length_append, lrows]
            rfl
          · intro r hr
            rcases List.mem_append.1 hr with h | h
            · exact good r h
            · rw [List.mem_singleton.1 h]
              exact ⟨lv, sh⟩
    · rintro σ H1 ⟨qs, rows, n1, v5, v6, v7, v8, v9, rfl, hn1, S1, k1, atF, rs, nin, fresh, lrows, good⟩
      exact ⟨_, rfl, kk F0 qs rows H1 n1 (by omega) S1 k1 nF fresh atF rs lrows good⟩
end
end Mine
namespace Mine
open PySem L2 PySem.Spec PyProof.Rows Pic
abbrev sDrawn : Stmt := top 41
theorem fresh_of {H H1 : Hp} {a q b : Addr} {n : Int} (k : Kp H H1 a q) (S : StA H1 a q n) (e : H1 b = none) : H b = none := by
  obtain ⟨_, _, _, z⟩ := S
  cases h : H b with
  | none => rfl
  | some o =>
    have na : b ≠ a := fun w => by rw [w, z.ha] at e; cases e
    have nq : b ≠ q := fun w => by rw [w, z.hq] at e; cases e
    rw [k b o h na nq] at e
    cases e
section
variable {w : World} {P : Program} {base : Heap} {K : PySem.W.Frag} {mg : Str → Option Value}
theorem scDrawn : FnScope ["_law_stream", "_law_rows", "_law_columns", "_law_low", "_law_step", "_law_row", "_law_shade"] ["_law_stream", "_law_rows", "_law_columns"] (defScope sDrawn) := ⟨rfl, rfl, rfl, by decide +kernel, rfl, by decide +kernel, by decide +kernel⟩
/-- a drawn picture's rows -/
def DrOk (R C : Nat) (rows : List (List Int)) : Prop := rows.length = R ∧ ∀ r ∈ rows, r.length = C ∧ ∀ i ∈ r, i.natAbs < 10 ^ 10
def spDrawn : Sp := fun vs H Q _ => ∃ (a q : Addr) (n : Int) (R C : Nat), vs = [.ref a, .int R, .int C] ∧ StA H a q n ∧ n < 700000000000 ∧ R ≤ 50 ∧ C ≤ 50 ∧
  ∀ p qs rows H' n', n' ≤ n + 20000 → StA H' a q n' → Kp H H' a q → H' p = some (.lst (qs.map V.ref)) → RowsAt H' qs rows → DrOk R C rows → (∀ b ∈ p :: qs, b ≠ a ∧ b ≠ q) → Q (.ref p) H'
theorem ok_drawn {f : Addr} {fd : FuncData} (F : Fun K "_law_drawn" "_law_drawn" sDrawn f fd) (KP : Kn P w K mg base CX0 2 "_law_pick" ["_law_stream", "_law_some"] (spPick K)) (KA : Kn P w K mg base CX0 3 "_law_a_picture" ["_law_stream", "_law_rows", "_law_columns", "_law_shades"] spPict) : FnOk P w K mg base CX0 4 f fd ["_law_stream", "_law_rows", "_law_columns"] spDrawn := by
  obtain ⟨fP, fdP, GP, gP, kP, bP⟩ := KP
  obtain ⟨fA, fdA, GA, gA, kA, bA⟩ := KA
  refine F.ok scDrawn (fun vs H Q E h => ?_) (fun cdv A outer s H vs Q E hr h => ?_)
  · obtain ⟨a, q, n, R, C, rfl, _⟩ := h
    rfl
  · obtain ⟨a, q, n, R, C, rfl, S, hn, hR, hC, kk⟩ := h
    refine ⟨_, pss_cons (ps_asg (pe_call GP (hr.mono (by decide)) (by rfl) gP kP bP .nil pass0 (pa_cons (pv 0) (pa_cons (pe_lst (pa_cons (pe_tup (pa_cons pe_int (pa_cons pe_int pa_nil))) (pa_cons (pe_tup (pa_cons (pe_un un_neg pe_int) (pa_cons pe_int pa_nil))) (pa_cons (pe_tup (pa_cons (pe_un un_neg pe_int) (pa_cons pe_int pa_nil))) (pa_cons (pe_tup (pa_cons pe_int (pa_cons pe_int pa_nil))) pa_nil))))) pa_nil)))
        (pg_tup rfl (pgs_cons (pg_name (i := 3) scDrawn.nd rfl (Or.inr rfl)) (pgs_cons (pg_name (i := 4) scDrawn.nd rfl (Or.inr rfl)) pgs_nil))))
      (pss_one (ps_ret (pe_lc (own := [("_law_row", 5)]) (g := gName 5) (tt := tYes) (te := tLc (iSeq K 5) (gName 6) tYes (tOp (rI0 fun (i j : Int) => V.int (i + j)) (tVar 3) (tOp (rI CMul fun (i j : Int) => V.int (i * j)) (tVar 4) (tVar 6))) [6]) rfl scDrawn.nd
        (pi_list (pe_call GA hr (by rfl) gA kA bA .nil pass0 (pa_cons (pv 0) (pa_cons (pv 1) (pa_cons (pv 2) (pa_cons pe_int pa_nil))))))
        (blkOk_by (own := [("_law_row", 5)]) (N := ["_law_stream", "_law_rows", "_law_columns", "_law_low", "_law_step", "_law_row", "_law_shade"]) (sc := defScope sDrawn) (by decide +kernel)) (fun _ _ _ _ _ => pg_name (i := 5) scDrawn.nd rfl (Or.inl rfl)) (fun _ _ _ _ _ => pts_nil)
        (fun _ _ _ _ _ => pe_lc (own := [("_law_shade", 6)]) (g := gName 6) (tt := tYes) (te := tOp (rI0 fun (i j : Int) => V.int (i + j)) (tVar 3) (tOp (rI CMul fun (i j : Int) => V.int (i * j)) (tVar 4) (tVar 6))) rfl scDrawn.nd (pi_seq (pv 5))
          (blkOk_by (own := [("_law_shade", 6)]) (by rfl)) (fun _ _ _ _ _ => pg_name (i := 6) scDrawn.nd rfl (Or.inl rfl)) (fun _ _ _ _ _ => pts_nil)
          (fun _ _ _ _ _ => pe_op op_add (pv 3) (pe_op op_mul (pv 4) (pv 6))))))), ?_⟩
    have big : 10000000 ≤ sizeLine := by decide
    refine ⟨_, rfl, (by show 2 ≤ sizeLine; omega), fun T1 n1 => ⟨_, rfl, (by show 2 ≤ sizeLine; omega), fun T2 n2 => ⟨_, rfl, (by show 2 ≤ sizeLine; omega), fun T3 n3 => ⟨(by show 2 ≤ sizeLine; omega), fun T4 n4 => ⟨(by show 4 ≤ sizeLine; omega), fun Lp nL => ?_⟩⟩⟩⟩⟩
    have s1 := same_new (o := .tup [.int 0, .int 1]) n1
    have e1 : (upd H T1 (.tup [.int 0, .int 1])) T1 = some (.tup [.int 0, .int 1]) := upd_same
    generalize upd H T1 (.tup [.int 0, .int 1]) = H1 at *
    have s2 := same_new (o := .tup [.int (-5), .int 1]) n2
    have e2 : (upd H1 T2 (.tup [.int (-5), .int 1])) T2 = some (.tup [.int (-5), .int 1]) := upd_same
    generalize upd H1 T2 (.tup [.int (-5), .int 1]) = H2 at *
    have s3 := same_new (o := .tup [.int (-900000000), .int 200000000]) n3
    have e3 : (upd H2 T3 (.tup [.int (-900000000), .int 200000000])) T3 = some (.tup [.int (-900000000), .int 200000000]) := upd_same
    generalize upd H2 T3 (.tup [.int (-900000000), .int 200000000]) = H3 at *
    have s4 := same_new (o := .tup [.int 0, .int 99999999]) n4
    have e4 : (upd H3 T4 (.tup [.int 0, .int 99999999])) T4 = some (.tup [.int 0, .int 99999999]) := upd_same
    generalize upd H3 T4 (.tup [.int 0, .int 99999999]) = H4 at *
    have s5 := same_new (o := .lst [.ref T1, .ref T2, .ref T3, .ref T4]) nL
    have e5 : (upd H4 Lp (.lst [.ref T1, .ref T2, .ref T3, .ref T4])) Lp = some (.lst [.ref T1, .ref T2, .ref T3, .ref T4]) := upd_same
    generalize upd H4 Lp (.lst [.ref T1, .ref T2, .ref T3, .ref T4]) = H5 at *
    have s05 := Same.trans s1 (Same.trans s2 (Same.trans s3 (Same.trans s4 s5)))
    have S5 := S.s s05
    have off : ∀ {b : Addr} {o : HO} {H7 : Hp}, StA H7 a q n → H7 b = none → b ≠ a ∧ b ≠ q := fun {b o H7} z h => by
      obtain ⟨_, _, _, z⟩ := z
      exact ⟨(fun e => by rw [e, z.ha] at h; cases h), (fun e => by rw [e, z.hq] at h; cases h)⟩
    have ne1 := off (o := .lst []) S n1
    have ne2 := off (o := .lst []) (S.s s1) n2
    have ne3 := off (o := .lst []) (S.s (Same.trans s1 s2)) n3
    have ne4 := off (o := .lst []) (S.s (Same.trans s1 (Same.trans s2 s3))) n4
    have neL := off (o := .lst []) (S.s (Same.trans s1 (Same.trans s2 (Same.trans s3 s4)))) nL
    dsimp only [tCons, tNil, tC]
    refine sp_pick S5 rfl (by omega) (SqL.of e5) (List.cons_ne_nil _ _) (by show 4 ≤ 1000000; decide) neL.1 neL.2 fun x H6 hx S6 k6 => ?_
    obtain ⟨T, lo, st, rfl, at6, b1, b2, b3⟩ : ∃ (T : Addr) (lo st : Int), x = .ref T ∧ H6 T = some (.tup [.int lo, .int st]) ∧ lo.natAbs ≤ 900000000 ∧ 0 ≤ st ∧ st ≤ 200000000 := by
      simp only [List.mem_cons, List.not_mem_nil, or_false] at hx
      rcases hx with rfl | rfl | rfl | rfl
      · exact ⟨T1, 0, 1, rfl, k6 _ _ (s5 _ _ (s4 _ _ (s3 _ _ (s2 _ _ e1)))) ne1.1 ne1.2, by decide, by decide, by decide⟩
      · exact ⟨T2, -5, 1, rfl, k6 _ _ (s5 _ _ (s4 _ _ (s3 _ _ e2))) ne2.1 ne2.2, by decide, by decide, by decide⟩
      · exact ⟨T3, -900000000, 200000000, rfl, k6 _ _ (s5 _ _ (s4 _ _ e3)) ne3.1 ne3.2, by decide, by decide, by decide⟩
      · exact ⟨T4, 0, 99999999, rfl, k6 _ _ (s5 _ _ e4) ne4.1 ne4.2, by decide, by decide, by decide⟩
    refine ⟨T, _, rfl, .inl (.inl at6), rfl, _, _, rfl, _, _, rfl, rfl, ?_⟩
    refine ⟨_, rfl, _, rfl, _, rfl, a, q, n + 1, R, C, rfl, S6, by omega, hR, hC, fun p0 qs0 rows0 H7 n7 hn7 S7 k7 np0 _ at7 rs7 lr0 good => ?_⟩
    refine ⟨p0, rfl, ⟨_, SqL.of at7⟩, fun D hD => ?_⟩
    have lq := Paired.length rs7
    have off7 : ∀ {b : Addr}, H7 b = none → b ≠ a ∧ b ≠ q := fun {b} h => by
      obtain ⟨_, _, _, z⟩ := S7
      exact ⟨(fun e => by rw [e, z.ha] at h; cases h), (fun e => by rw [e, z.hq] at h; cases h)⟩
    refine lc_any (n := qs0.length) (fun i H8 => ∃ qs rows, H8 D = some (.lst (qs.map V.ref)) ∧ RowsAt H8 qs rows ∧ D ∉ qs ∧ rows.length = i ∧ Same H7 H8 ∧ (∀ r ∈ rows, r.length = C ∧ ∀ i ∈ r, i.natAbs < 10 ^ 10) ∧ ∀ b ∈ qs, H7 b = none) ⟨[], [], upd_same, .nil, List.not_mem_nil, rfl, same_new hD, fun r hr => (nomatch hr), fun b hb => (nomatch hb)⟩ ?_ ?_ ?_ ?_
    · rintro i H8 lt ⟨_, _, _, _, _, _, s8, _⟩
      exact ⟨_, V.ref qs0[i], SqL.of (s8 _ _ at7), by rw [List.getElem?_map, List.getElem?_eq_getElem lt]; rfl⟩
    · rintro H8 ⟨_, _, _, _, _, _, s8, _⟩
      exact ⟨_, SqL.of (s8 _ _ at7), by rw [List.length_map]; exact Nat.le_refl _⟩
    · rintro i H8 x H9 lt ⟨qs, rows, atD, rs8, nin, lr, s8, gd, fr⟩ ⟨rfl, hx⟩
      have ex := hx _ (SqL.of (s8 _ _ at7))
      rw [List.getElem?_map, List.getElem?_eq_getElem lt] at ex
      cases ex
      obtain ⟨r, er, hr⟩ := LiI.paired_get rs7 (List.getElem?_eq_getElem lt)
      obtain ⟨g1, g2⟩ := good r (List.mem_of_getElem? er)
      refine ⟨rfl, ?_⟩
      dsimp only [tYes]
      refine iteT ?_
      refine lc_over (a := qs0[i]) (xs := r.map V.int) (r.map fun s => V.int (lo + st * s)) rfl (.inl (SqL.of (s8 _ _ hr))) (by rw [List.length_map, List.length_map]) (by rw [List.length_map]; omega) (fun j x y H10 R' ex ey s10 k => ?_) fun p2 H10 s10 np2 hp2 => ?_
      · rw [List.getElem?_map] at ex ey
        cases es : r[j]? with
        | none =>
          rw [es] at ex
          cases ex
        | some sv =>
          rw [es] at ex ey
          cases ex
          cases ey
          exact ⟨rfl, _, rfl, _, rfl, _, rfl, _, _, rfl, rfl, .inl ⟨by omega, by omega⟩, _, _, rfl, rfl, k H10 (Same.refl _)⟩
      · have mint : (r.map fun s => V.int (lo + st * s)) = (r.map fun s => lo + st * s).map V.int := by
          rw [List.map_map]
          rfl
        rw [mint] at hp2
        have p2D : p2 ≠ D := fun e => by rw [e, atD] at np2; cases np2
        have p2q : p2 ∉ qs := fun hm => by
          obtain ⟨_, _, e⟩ := paired_left rs8 hm
          rw [e] at np2
          cases np2
        have big2 : 100000 ≤ sizeLine := by decide
        refine ⟨_, s10 _ _ atD, ?_, qs ++ [p2], rows ++ [r.map fun s => lo + st * s], ?_, ?_, ?_, ?_, fun b o e => ?_, fun r' hr' => ?_, fun b hb => ?_⟩
        · have l2 := Paired.length rs8
          rw [List.length_map]
          omega
        · rw [upd_same, List.map_append]
          rfl
        · refine paired_app (rowsAt_mono rs8 fun b o e hm => ?_) ?_
          · rw [upd_ne (fun h : b = D => nin (h ▸ hm))]
            exact s10 _ _ e
          · rw [upd_ne p2D]
            exact hp2
        · intro hm
          rcases List.mem_append.1 hm with h | h
          · exact nin h
          · exact p2D (List.mem_singleton.1 h).symm
        · rw [List.length_append, lr]
          rfl
        · rw [upd_ne (ne_of_none e hD)]
          exact s10 _ _ (s8 _ _ e)
        · rcases List.mem_append.1 hr' with h | h
          · exact gd r' h
          · rw [List.mem_singleton.1 h]
            refine ⟨by rw [List.length_map, g1], fun i hi => ?_⟩
            obtain ⟨sv, hs, rfl⟩ := List.mem_map.1 hi
            obtain ⟨z0, z9⟩ := g2 sv hs
            have m1 : 0 ≤ st * sv := Int.mul_nonneg b2 z0
            have m2 : st * sv ≤ 200000000 * 9 := Int.mul_le_mul b3 (by omega) z0 (by decide)
            show (lo + st * sv).natAbs < 10000000000
            omega
        · rcases List.mem_append.1 hb with h | h
          · exact fr b h
          · rw [List.mem_singleton.1 h]
            exact s8.free np2
    · rintro H8 ⟨qs, rows, atD, rs8, nin, lr, s8, gd, fr⟩
      exact kk D qs rows H8 n7 (by omega) (S7.s s8) ((Kp.of s05).trans (k6.trans (k7.trans (Kp.of s8)))) atD rs8 ⟨by omega, gd⟩ fun b hb => by
        refine off7 ?_
        rcases List.mem_cons.1 hb with h | h
        · rw [h]
          exact hD
        · exact fr b h
end
end Mine
namespace Mine
open PySem L2 PySem.Spec PyProof.Rows Pic LamX
/-- a def's promise, kept where no repr is under way -/
structure FnG (P : Program) (w : World) (K : PySem.W.Frag) (mg : Str → Option Value) (base : Heap) (k : Nat) (f : Addr) (fd : FuncData) (ps : List Str) (sp : Sp) : Prop where
  many : ∀ vs H Q E, sp vs H Q E → vs.length = ps.length
  does : ∀ (A : Around) (outer : List Env) (s : Shared) (H : Hp) (args : Args) (us : List Value) (vs : List V) (Q : VK) (E : XK), Room k A → A.guards = some [] → Env0 P w K mg base A outer s H → BindsTo s fd args (ps.zip us) → Vals vs us → sp vs H Q E → codeAny (model P w) A (.call (.ref f) args) (CR CX0 outer P w H s Q E) s
section
variable {w : World} {P : Program} {base : Heap} {K : PySem.W.Frag} {mg : Str → Option Value}
theorem Fun.okG {x qual : Str} {st : Stmt} {f : Addr} {fd : FuncData} {N ps : List Str} {k : Nat} {sp : Sp} (F : Fun K x qual st f fd) (S : FnScope N ps (defScope st)) (len : ∀ vs H Q E, sp vs H Q E → vs.length = ps.length)
    (hbody : ∀ (cdv : Value) (A : Around) (outer : List Env) (s : Shared) (H : Hp) (vs : List V) (Q : VK) (E : XK), Room k (A.deeper (envOfC qual (defScope st) s.heap.objs.size f cdv)) → (A.deeper (envOfC qual (defScope st) s.heap.objs.size f cdv)).guards = some [] → sp vs H Q E →
      ∃ t, PSs (cxOf CX0 P w K mg base N qual (defScope st) f cdv A outer s H E).nox (defBody st) t ∧ t { nx := fun _ H' => Q .non H', rt := Q } (start N vs) H) : FnG P w K mg base (k + 1) f fd ps sp := by
  obtain ⟨_, _, _, _, _, _, cdv, _, _, rfl, lk, hcd⟩ := F.ex
  refine ⟨len, fun A outer s H args us vs Q E hr hg e0 hb r hsp => ?_⟩
  refine run_ofS (CX := CX0) (N := N) (ps := ps) lk hcd S hr e0 hb r (len _ _ _ _ hsp) fun hr2 => ?_
  obtain ⟨t, h, q⟩ := hbody cdv A outer s H vs Q E hr2 hg hsp
  exact ⟨t, h.nox, q⟩
end
section
variable {X : Cx} {k : Nat} {f : Addr} {fd : FuncData} {ps : List Str} {sp : Sp} {x : Str} {p pos : Pos} {e : Expr} {es : List Expr} {t : TA}
theorem pe_callG (G : FnG X.prog X.w X.K X.mg X.base k f fd ps sp) (room : Room k X.A) (calm : X.A.guards = some []) (glob : Gl X x) (mf : X.mg x = some (.ref f)) (kept : PySem.W.keepIn X.K (.ref f) = true) (bnd : Binds X.K fd ps []) (args : PA X (e :: es) t) (nd : (x == ("__debug__" : Str)) = false := by decide)
    (line : starEach (e :: es) X.env = (false, eval e X.env) :: starEach es X.env := by rfl) (none2 : (backTo pos (starEach es X.env)).any (·.1) = false := by rfl) : PE X (.Call (.Name x p) (e :: es) [] pos) (tCall sp [] E0 t) := by
  refine ⟨fun pins s0 σ H Q I0 h => wpAny_Call_Name_kw (ld_glob I0 glob mf ?_ nd)⟩
  refine PySem.W.callWith_K (h₀ := X.base) I0.ok.mod.kin kept (thn (args.run pos pins s0 σ H _ I0 h) fun us s ⟨vs, H1, I, r, q⟩ => ⟨I.kIn, ?_⟩) line none2
  have q : sp (vs ++ []) H1 Q E0 := q
  rw [List.append_nil] at q
  have le : us.length = ps.length := r.length.symm.trans (G.many _ _ _ _ q)
  have bs := bnd s us I.kIn (by rw [List.append_nil]; exact le)
  rw [List.append_nil] at bs
  refine wpAny_call (codeAny_mono (G.does X.A X.stack s H1 ⟨us, []⟩ us vs Q E0 room calm I.env0 bs r q) fun z s2 hz => ?_)
  match z, hz with
  | .ok (.ret u), hz => exact I.after hz
end

/-! ### a def called by keywords alone; repr of data -/
theorem passX {P : Program} {w : World} {X : Cx} : Passes (L2.CX P w) X E0 := fun pins σ H s e s' I h => by
  obtain ⟨_, _, _, _, _, _, _, _, _, _, _, _, z⟩ := h
  exact z.elim
def tCallKw (sp : Sp) (n : Nat) (gV : List V → List V → List V) (tk : TA) : TE := fun σ H Q => tk σ H fun zs H1 => zs.length = n ∧ sp (gV [] zs) H1 Q E0
theorem pe_callKw {X : Cx} {CX : CXT} {k : Nat} {f : Addr} {fd : FuncData} {ps : List Str} {sp : Sp} {x : Str} {p pos : Pos} {ks : List Str} {kws : List Keyword} {tk : TA} {g : List Value → List Value → List Value} {gV : List V → List V → List V} (G : FnOk X.prog X.w X.K X.mg X.base CX k f fd ps sp) (room : Room k X.A) (glob : Gl X x) (mf : X.mg x = some (.ref f)) (kept : PySem.W.keepIn X.K (.ref f) = true) (bnd : KBn X.K fd ps 0 ks g gV) (out : Passes CX X E0) (keys : PK X kws tk)
    (named : (backToKw pos (keywordEach kws X.env)).all (·.1.isSome) = true := by rfl) (names : (backToKw pos (keywordEach kws X.env)).filterMap (·.1) = ks := by rfl) (nd : (x == ("__debug__" : Str)) = false := by decide) (none2 : ((backTo pos (starEach [] X.env)).any (·.1) || (backToKw pos (keywordEach kws X.env)).any (·.1.isNone)) = false := by rfl) : PE X (.Call (.Name x p) [] kws pos) (tCallKw sp ks.length gV tk) := by
  refine ⟨fun pins s0 σ H Q I0 h => wpAny_Call_Name_kw (ld_glob I0 glob mf ?_ nd)⟩
  refine PySem.W.callWith_KW0 (h₀ := X.base) I0.ok.mod.kin kept named (thn (keys.run pos pins s0 σ H _ I0 h) fun ws s ⟨zs, H1, I, r, len, q⟩ => ⟨I.kIn, ?_⟩) none2
  rw [names]
  have rv := bnd.rel (vs := []) .nil r
  refine wpAny_call (codeAny_mono (G.run X.A X.stack s H1 ⟨[], ks.zip ws⟩ _ _ Q E0 room I.env0 (bnd.to s [] ws I.kIn rfl (r.length.symm.trans len)) rv q) fun z s2 hz => ?_)
  match z, hz with
  | .error er, hz => exact out pins σ H1 s er s2 I hz
  | .ok (.ret u), hz => exact I.after hz
/-- repr(x), x data of lists and tuples -/
def rReprD (K : PySem.W.Frag) : List V → Hp → VK → Prop := fun xs H Q => ∃ (a : Addr) (d : PyData), xs = [.ref a] ∧ Dp K H (.ref a) d ∧ d.hasDict = false ∧ d.showable = true ∧ d.depth ≤ 60 ∧ d.shown.length ≤ sizeLine ∧ Q (.str d.shown) H
theorem call_reprD {X : Cx} (hg : X.A.guards = some []) (hu : X.A.units + 64 < cLine) : CallR X (.builtin "repr") (rReprD X.K) := by
  rintro pins s σ H xs us Q I r ⟨a, d, rfl, hd, nd, sh, dep, len, q⟩
  cases r with
  | cons r1 rr =>
    cases rr
    cases r1
    obtain ⟨as, y⟩ := Dp.reads I d (.ref a) (.ref a) hd rfl
    exact repr_of_reads' y sh (fun z => by rw [nd] at z; cases z) hg (by omega) (fun _ _ z => z) (fun h' u tk k => ⟨.str _, H, I.kept k, ⟨_, rfl⟩, q⟩) len
/-! ### what is alike to a picture's data -/
theorem core_ints : ∀ {ds : List PyData} {r : List Int}, coreAll ds = r.map PyData.int → ds = r.map PyData.int
  | [], [], _ => rfl
  | [], _ :: _, h => by cases h
  | _ :: _, [], h => by cases h
  | d :: ds, i :: r, h => by
    have h1 : core d = .int i := (List.cons.inj h).1
    have h2 : coreAll ds = r.map PyData.int := (List.cons.inj h).2
    rw [core_ints h2]
    cases d with
    | int j =>
      have e : PyData.int j = .int i := h1
      rw [e]
      rfl
    | none => cases h1
    | bool b => cases h1
    | str b => cases h1
    | list b => cases h1
    | tuple b => cases h1
    | dict b => cases h1
/-- a row, a list or a tuple -/
def RowLike (e : PyData) (r : List Int) : Prop := e = .list (r.map PyData.int) ∨ e = .tuple (r.map PyData.int)
theorem core_row {e : PyData} {r : List Int} (h : core e = .list (r.map PyData.int)) : RowLike e r := by
  cases e with
  | list ds =>
    have z : coreAll ds = r.map PyData.int := PyData.list.inj h
    rw [core_ints z]
    exact .inl rfl
  | tuple ds =>
    have z : coreAll ds = r.map PyData.int := PyData.list.inj h
    rw [core_ints z]
    exact .inr rfl
  | none => cases h
  | bool b => cases h
  | str b => cases h
  | int b => cases h
  | dict b => cases h
theorem core_rows : ∀ {ds : List PyData} {rows : List (List Int)}, coreAll ds = rows.map rowD → Paired RowLike ds rows
  | [], [], _ => .nil
  | [], _ :: _, h => by cases h
  | _ :: _, [], h => by cases h
  | d :: ds, r :: rows, h => .cons (core_row (List.cons.inj h).1) (core_rows (List.cons.inj h).2)
theorem coreAll_ints : ∀ r : List Int, coreAll (r.map PyData.int) = r.map PyData.int
  | [] => rfl
  | i :: r => congrArg (PyData.int i :: ·) (coreAll_ints r)
theorem coreAll_rows : ∀ rows : List (List Int), coreAll (rows.map rowD) = rows.map rowD
  | [] => rfl
  | r :: rows => by
    show PyData.list (coreAll (r.map PyData.int)) :: coreAll (rows.map rowD) = rowD r :: rows.map rowD
    rw [coreAll_ints, coreAll_rows rows]
/-- a picture, lists or tuples -/
def PicLike (d : PyData) (rows : List (List Int)) : Prop := ∃ ds, (d = .list ds ∨ d = .tuple ds) ∧ Paired RowLike ds rows
theorem core_pic {d : PyData} {rows : List (List Int)} (h : core d = core (picDt rows)) : PicLike d rows := by
  have e : core (picDt rows) = .list (rows.map rowD) := congrArg PyData.list (coreAll_rows rows)
  rw [e] at h
  cases d with
  | list ds => exact ⟨ds, .inl rfl, core_rows (PyData.list.inj h)⟩
  | tuple ds => exact ⟨ds, .inr rfl, core_rows (PyData.list.inj h)⟩
  | none => cases h
  | bool b => cases h
  | str b => cases h
  | int b => cases h
  | dict b => cases h
/-- rows of one width, not too many -/
def Shape (rows : List (List Int)) : Prop := rows.length ≤ 50 ∧ ∃ w, 0 < w ∧ w ≤ 50 ∧ ∀ r ∈ rows, r.length = w ∧ ∀ i ∈ r, i.natAbs < 10 ^ 16
theorem Shape.small {rows : List (List Int)} (h : Shape rows) : Small rows := by
  obtain ⟨l, w, w0, w1, hr⟩ := h
  exact ⟨by omega, fun r hm => ⟨by have := (hr r hm).1; omega, (hr r hm).2⟩⟩
theorem Shape.ok {rows : List (List Int)} (h : Shape rows) : PicOk rows := by
  obtain ⟨l, w, w0, w1, hr⟩ := h
  exact ⟨w, w0, hr⟩
theorem rowLike_of {e : PyData} {r : List Int} (h : RowLike e r) : rowsOf e = some (r.map PyData.int) := by
  rcases h with rfl | rfl <;> rfl
theorem isInt_all (r : List Int) : (r.map PyData.int).all isInt = true := by
  rw [List.all_map]
  exact List.all_eq_true.mpr fun x _ => rfl
theorem picLike_rows {d : PyData} {rows : List (List Int)} (h : PicLike d rows) : PicV d rows := by
  obtain ⟨ds, e, pr⟩ := h
  refine ⟨ds, ?_, paired_mem pr fun a b _ hr => rowLike_of hr⟩
  rcases e with rfl | rfl <;> rfl
theorem lenD_row {e : PyData} {r : List Int} (h : RowLike e r) : lenD e = r.length := by
  unfold lenD
  rw [rowLike_of h]
  show (r.map PyData.int).length = _
  rw [List.length_map]
theorem all_of {p : PyData → Bool} {pa : List PyData → Bool} (h0 : pa [] = true) (h1 : ∀ x xs, pa (x :: xs) = (p x && pa xs)) : ∀ {ds : List PyData}, (∀ d ∈ ds, p d = true) → pa ds = true
  | [], _ => h0
  | d :: ds, h => by
    rw [h1, h d (List.mem_cons_self ..), all_of h0 h1 fun x hx => h x (List.mem_cons_of_mem _ hx)]
    rfl
theorem row_depth {e : PyData} {r : List Int} (h : RowLike e r) : e.depth ≤ 1 ∧ deepE e ≤ 1 := by
  have z : ∀ r : List Int, deepEAll (r.map PyData.int) = 0 := fun r => by
    induction r with
    | nil => rfl
    | cons i r ih =>
      show max 0 (deepEAll (r.map PyData.int)) = 0
      rw [ih]
      rfl
  rcases h with rfl | rfl
  · constructor
    · show PyData.depthAll (r.map PyData.int) + 1 ≤ 1
      rw [depth_ints]
      exact Nat.le_refl _
    · show deepEAll (r.map PyData.int) + 1 ≤ 1
      rw [z]
      exact Nat.le_refl _
  · constructor
    · show PyData.depthAll (r.map PyData.int) + 1 ≤ 1
      rw [depth_ints]
      exact Nat.le_refl _
    · show deepEAll (r.map PyData.int) + 1 ≤ 1
      rw [z]
      exact Nat.le_refl _
theorem rows_depth : ∀ {ds : List PyData} {rows : List (List Int)}, Paired RowLike ds rows → PyData.depthAll ds ≤ 1 ∧ deepEAll ds ≤ 1
  | _, _, .nil => ⟨Nat.zero_le _, Nat.zero_le _⟩
  | _, _, .cons h t => ⟨Nat.max_le.mpr ⟨(row_depth h).1, (rows_depth t).1⟩, Nat.max_le.mpr ⟨(row_depth h).2, (rows_depth t).2⟩⟩
theorem int_shown {i : Int} (h : i.natAbs < 10 ^ 16) : (PyData.int i).shown.length ≤ 17 := by
  rw [PyData.shown_int, int_text, SX.S_len]
  exact intL_len h
theorem shownAll_sum {k : Nat} : ∀ {ds : List PyData}, (∀ d ∈ ds, d.shown.length ≤ k) → ((PyData.shownAll ds).map (·.length)).sum ≤ k * ds.length ∧ (PyData.shownAll ds).length = ds.length
  | [], _ => ⟨by simp [PyData.shownAll], by simp [PyData.shownAll]⟩
  | d :: ds, h => by
    have h1 := h d (List.mem_cons_self ..)
    obtain ⟨h2, h3⟩ := shownAll_sum (ds := ds) fun x hx => h x (List.mem_cons_of_mem _ hx)
    rw [PyData.shownAll_cons, List.map_cons, List.sum_cons, List.length_cons, List.length_cons, h3, Nat.mul_add, Nat.mul_one]
    exact ⟨by omega, rfl⟩
theorem seq_shown {k : Nat} {ds : List PyData} (h : ∀ d ∈ ds, d.shown.length ≤ k) : (PyData.list ds).shown.length ≤ k * ds.length + 2 * ds.length + 3 ∧ (PyData.tuple ds).shown.length ≤ k * ds.length + 2 * ds.length + 3 := by
  obtain ⟨h1, h2⟩ := shownAll_sum h
  have l := listText_len_le (PyData.shownAll ds)
  have t := tupleText_len_le (PyData.shownAll ds)
  have e1 : (PyData.list ds).shown = listText (PyData.shownAll ds) := by simp only [PyData.shown]
  have e2 : (PyData.tuple ds).shown = tupleText (PyData.shownAll ds) := by simp only [PyData.shown]
  rw [e1, e2]
  rw [h2] at l t
  exact ⟨by omega, by omega⟩
theorem row_shown {e : PyData} {r : List Int} (h : RowLike e r) (l : r.length ≤ 50) (s : ∀ i ∈ r, i.natAbs < 10 ^ 16) : e.shown.length ≤ 1000 := by
  have z := seq_shown (k := 17) (ds := r.map PyData.int) fun d hd => by
    obtain ⟨i, hi, rfl⟩ := List.mem_map.1 hd
    exact int_shown (s i hi)
  rw [List.length_map] at z
  rcases h with rfl | rfl
  · have := z.1
    omega
  · have := z.2
    omega
theorem picLike_facts {d : PyData} {rows : List (List Int)} (h : PicLike d rows) (s : Shape rows) : picD d = true ∧ lenOk d = true ∧ fits d = true ∧ d.hasDict = false ∧ d.showable = true ∧ d.depth ≤ 60 ∧ d.shown.length ≤ sizeLine ∧ deepE d ≤ 2 := by
  obtain ⟨ds, hd, pr⟩ := h
  obtain ⟨l50, w, w0, w1, hr⟩ := s
  have er : rowsOf d = some ds := by rcases hd with rfl | rfl <;> rfl
  have ld : ds.length = rows.length := Paired.length pr
  have each : ∀ e ∈ ds, ∃ r ∈ rows, RowLike e r := fun e he => paired_left pr he
  have lw : ∀ e ∈ ds, lenD e = w := fun e he => by
    obtain ⟨r, hm, rl⟩ := each e he
    rw [lenD_row rl]
    exact (hr r hm).1
  have dp := rows_depth pr
  refine ⟨?_, ?_, ?_, ?_, ?_, ?_, ?_, ?_⟩
  · unfold picD
    rw [er]
    simp only [Bool.and_eq_true, List.all_eq_true]
    refine ⟨fun e he => ?_, fun e he => ?_, fun x hx => ?_⟩
    · obtain ⟨r, _, rl⟩ := each e he
      rw [rowLike_of rl]
      rfl
    · have e0 : lenD (ds.headD .none) = w := by
        cases ds with
        | nil => cases he
        | cons a t => exact lw a (List.mem_cons_self ..)
      rw [lw e he, e0]
      exact ⟨decide_eq_true w0, decide_eq_true rfl⟩
    · obtain ⟨l, hl, hx⟩ := List.mem_flatten.1 hx
      obtain ⟨e, he, rfl⟩ := List.mem_map.1 hl
      obtain ⟨r, _, rl⟩ := each e he
      rw [rowLike_of rl] at hx
      exact List.all_eq_true.mp (isInt_all r) x hx
  · have allOk : lenAll ds = true := all_of (p := lenOk) (pa := lenAll) rfl (fun _ _ => rfl) fun e he => by
      obtain ⟨r, hm, rl⟩ := each e he
      have intsOk : lenAll (r.map PyData.int) = true := all_of (p := lenOk) (pa := lenAll) rfl (fun _ _ => rfl) fun x hx => by
        obtain ⟨i, _, rfl⟩ := List.mem_map.1 hx
        rfl
      have lr := (hr r hm).1
      have b : Nat.ble (r.map PyData.int).length 100000 = true := Nat.ble_eq.mpr (by rw [List.length_map]; omega)
      rcases rl with rfl | rfl
      · show (Nat.ble (r.map PyData.int).length 100000 && lenAll (r.map PyData.int)) = true
        rw [b, intsOk]
        rfl
      · show (Nat.ble (r.map PyData.int).length 100000 && lenAll (r.map PyData.int)) = true
        rw [b, intsOk]
        rfl
    have b : Nat.ble ds.length 100000 = true := Nat.ble_eq.mpr (by omega)
    rcases hd with rfl | rfl
    · show (Nat.ble ds.length 100000 && lenAll ds) = true
      rw [b, allOk]
      rfl
    · show (Nat.ble ds.length 100000 && lenAll ds) = true
      rw [b, allOk]
      rfl
  · unfold fits
    rw [er]
    have z : (ds.map lenD).sum ≤ 50 * ds.length := sum_le fun e he => by rw [lw e he]; exact w1
    show Nat.ble (ds.map lenD).sum 100000 = true
    exact Nat.ble_eq.mpr (by omega)
  · have no : ∀ {es : List PyData}, (∀ e ∈ es, e.hasDict = false) → PyData.hasDictAll es = false := fun {es} h => by
      induction es with
      | nil => simp only [PyData.hasDictAll]
      | cons e es ih =>
        simp only [PyData.hasDictAll]
        rw [h e (List.mem_cons_self ..), ih fun x hx => h x (List.mem_cons_of_mem _ hx)]
        rfl
    have row : ∀ e ∈ ds, e.hasDict = false := fun e he => by
      obtain ⟨r, _, rl⟩ := each e he
      have intsOk : PyData.hasDictAll (r.map PyData.int) = false := no fun x hx => by
        obtain ⟨i, _, rfl⟩ := List.mem_map.1 hx
        simp only [PyData.hasDict]
      rcases rl with rfl | rfl <;> (simp only [PyData.hasDict]; exact intsOk)
    rcases hd with rfl | rfl <;> (simp only [PyData.hasDict]; exact no row)
  · have row : ∀ e ∈ ds, PyData.showable e = true := fun e he => by
      obtain ⟨r, hm, rl⟩ := each e he
      have intsOk : PyData.showableAll (r.map PyData.int) = true := PyData.showableAll_ints r fun n hn => log2_small ((hr r hm).2 n hn)
      rcases rl with rfl | rfl <;> (simp only [PyData.showable]; exact intsOk)
    rcases hd with rfl | rfl <;> (simp only [PyData.showable]; exact showableAll_of row)
  · rcases hd with rfl | rfl
    · show PyData.depthAll ds + 1 ≤ 60
      omega
    · show PyData.depthAll ds + 1 ≤ 60
      omega
  · have big : 1000000 ≤ sizeLine := by decide
    have z := seq_shown (k := 1000) (ds := ds) fun e he => by
      obtain ⟨r, hm, rl⟩ := each e he
      exact row_shown rl (by have := (hr r hm).1; omega) (hr r hm).2
    rcases hd with rfl | rfl
    · have := z.1
      omega
    · have := z.2
      omega
  · rcases hd with rfl | rfl
    · show deepEAll ds + 1 ≤ 2
      omega
    · show deepEAll ds + 1 ≤ 2
      omega
mutual
theorem sameE_refl : ∀ d : PyData, sameE d d = true
  | .none => rfl
  | .bool b => by
    show decide (b = b) = true
    exact decide_eq_true rfl
  | .int b => by
    show decide (b = b) = true
    exact decide_eq_true rfl
  | .str b => by
    show decide (b = b) = true
    exact decide_eq_true rfl
  | .list ds => sameEAll_refl ds
  | .tuple ds => sameEAll_refl ds
  | .dict _ => rfl
theorem sameEAll_refl : ∀ ds : List PyData, sameEAll ds ds = true
  | [] => rfl
  | d :: ds => by
    show (sameE d d && sameEAll ds ds) = true
    rw [sameE_refl d, sameEAll_refl ds]
    rfl
end
end Mine
namespace Mine
open PySem L2 PySem.Spec PyProof.Rows Pic LamX
abbrev sRight : Stmt := top 39
def rJoin (K : PySem.W.Frag) : V → List V → Hp → VK → Prop := fun x xs H Q => ∃ a p, ∃ ys : List Str, x = .str a ∧ xs = [.ref p] ∧ (SqL K H p (ys.map V.str) ∨ SqT K H p (ys.map V.str)) ∧ (ys.map (·.length)).sum + ys.length * a.length ≤ 16777216 ∧ Q (.str (Txt.join a ys)) H
abbrev rCatS : R2 := fun x y H Q => ∃ i j, x = V.str i ∧ y = V.str j ∧ i.length + j.length ≤ sizeLine ∧ Q (.str (i ++ j)) H
abbrev rStrI : List V → Hp → VK → Prop := fun xs H Q => ∃ i, xs = [V.int i] ∧ i.natAbs.log2 < 1920 ∧ Q (.str (toString i)) H
/-- how a row is written, how all are -/
abbrev tRowT (K : PySem.W.Frag) (k m : Nat) : TE := tOp rCatS (tM1 (rJoin K) (tC (.str " ")) (tLc (iSeq K k) (gName m) tYes (tCB rStrI (tCons (tVar m) tNil)) [m])) (tC (.str "\n"))
abbrev tWhole (K : PySem.W.Frag) (i k m : Nat) : TE := tM1 (rJoin K) (tC (.str "")) (tLc (iSeq K i) (gName k) tYes (tRowT K k m) [k])
theorem rd_whole {K : PySem.W.Frag} {i k m : Nat} {σ : L2.St} {H : Hp} {Q : VK} {p : Addr} {qs : List Addr} {rows : List (List Int)} (hs : σ[i]? = some (some (.ref p))) (hp : H p = some (.lst (qs.map V.ref))) (hr : RowsAt H qs rows) (sm : Small rows)
    (w1 : ∀ x : V, wipe ((wipe σ [k]).set k (some x)) [k] = wipe σ [k]) (g1 : ∀ x : V, ((wipe σ [k]).set k (some x))[k]? = some (some x)) (w2 : ∀ x z : V, wipe ((wipe ((wipe σ [k]).set k (some x)) [m]).set m (some z)) [m] = wipe ((wipe σ [k]).set k (some x)) [m]) (g2 : ∀ x z : V, ((wipe ((wipe σ [k]).set k (some x)) [m]).set m (some z))[m]? = some (some z))
    (kk : ∀ H', Same H H' → Q (.str (tS (picL rows))) H') : tWhole K i k m σ H Q := by
  have lq := Paired.length hr
  have big : 100000 ≤ sizeLine := by decide
  refine ⟨⟨_, rfl⟩, ?_⟩
  refine lc_over (rows.map fun r => V.str (tS (rowL r))) hs (.inl (SqL.of hp)) (by rw [List.length_map, List.length_map, lq]) (by rw [List.length_map]; have := sm.1; omega) (fun j x y H2 R ex ey s2 c => ?_) fun p2 H2 s2 np hp2 => ?_
  · rw [List.getElem?_map] at ex
    cases eq : qs[j]? with
    | none =>
      rw [eq] at ex
      cases ex
    | some b =>
      rw [eq] at ex
      cases ex
      obtain ⟨r, er, hb⟩ := LiI.paired_get hr eq
      rw [List.getElem?_map, er] at ey
      cases ey
      obtain ⟨l1, l2⟩ := sm.2 r (List.mem_of_getElem? er)
      refine ⟨w1 _, ⟨_, rfl⟩, ?_⟩
      refine lc_over (a := b) (xs := r.map V.int) (r.map fun i => V.str (tS (intL i))) (g1 _) (.inl (SqL.of (s2 _ _ hb))) (by rw [List.length_map, List.length_map]) (by rw [List.length_map]; omega) (fun j x y H3 R' ex ey s3 c2 => ?_) fun p3 H3 s3 np3 hp3 => ?_
      · rw [List.getElem?_map] at ex ey
        cases ei : r[j]? with
        | none =>
          rw [ei] at ex
          cases ex
        | some i =>
          rw [ei] at ex ey
          cases ex
          cases ey
          refine ⟨w2 _ _, _, g2 _ _, i, rfl, log2_small (l2 i (List.mem_of_getElem? ei)), ?_⟩
          rw [int_text]
          exact c2 H3 (Same.refl _)
      · have e1 : (r.map fun i => V.str (tS (intL i))) = ((r.map intL).map SX.S).map V.str := by
          rw [List.map_map, List.map_map]
          rfl
        rw [e1] at hp3
        have y : ((r.map intL).map List.length).sum ≤ 17 * (r.map intL).length := sum_le fun x hx => by
          obtain ⟨i, hi, rfl⟩ := List.mem_map.1 hx
          exact intL_len (l2 i hi)
        rw [List.length_map] at y
        refine ⟨" ", p3, (r.map intL).map SX.S, rfl, rfl, .inl (SqL.of hp3), ?_, ?_⟩
        · rw [SX.lens, List.length_map, List.length_map]
          show ((r.map intL).map List.length).sum + r.length * 1 ≤ 16777216
          omega
        · have e2 : ((" " : Str)) = SX.S [32] := rfl
          rw [e2, SX.join_S]
          have z := rowL_len l1 l2
          rw [rowL_join, List.length_append] at z
          refine ⟨_, _, rfl, rfl, ?_, ?_⟩
          · rw [SX.S_len]
            show _ + 1 ≤ sizeLine
            omega
          · have e3 := add_feed r
            rw [show (SX.S (TL.joinL [32] (r.map intL)) ++ ("\n" : Str)) = tS (rowL r) from e3]
            exact c H3 s3
  · have e1 : (rows.map fun r => V.str (tS (rowL r))) = ((rows.map rowL).map SX.S).map V.str := by
      rw [List.map_map, List.map_map]
      rfl
    rw [e1] at hp2
    refine ⟨"", p2, (rows.map rowL).map SX.S, rfl, rfl, .inl (SqL.of hp2), ?_, ?_⟩
    · rw [SX.lens]
      have z := picL_len sm
      unfold picL at z
      rw [List.length_flatten] at z
      show ((rows.map rowL).map List.length).sum + _ * 0 ≤ 16777216
      have y := sm.1
      omega
    · have e2 : (("" : Str)) = SX.S [] := rfl
      rw [e2, SX.join_S, joinL_nil]
      exact kk H2 s2
/-- a def that keeps a promise, by its name, its parameter by keyword, too -/
def KnK (P : Program) (w : World) (K : PySem.W.Frag) (mg : Str → Option Value) (base : Heap) (CX : CXT) (k : Nat) (x p : Str) (sp : Sp) : Prop := ∃ (f : Addr) (fd : FuncData), FnOk P w K mg base CX k f fd [p] sp ∧ mg x = some (.ref f) ∧ PySem.W.keepIn K (.ref f) = true ∧ Binds K fd [p] [] ∧ KBn K fd [p] 0 [p] (fun us ws => us ++ ws) (fun vs zs => vs ++ zs)
theorem cnt_ints : ∀ r : List Int, cntAll (r.map PyData.int) = 0
  | [] => rfl
  | i :: r => by
    show 0 + cntAll (r.map PyData.int) = 0
    rw [cnt_ints r]
theorem cnt_rows : ∀ rows : List (List Int), cntAll (rows.map rowD) = rows.length
  | [] => rfl
  | r :: rows => by
    show (cntAll (r.map PyData.int) + 1) + cntAll (rows.map rowD) = rows.length + 1
    rw [cnt_ints, cnt_rows rows]
    omega
theorem picLike_self (rows : List (List Int)) : PicLike (picDt rows) rows := core_pic rfl
theorem rowsL_of {H : Hp} {qs : List Addr} {rows : List (List Int)} (h : RowsAt H qs rows) : RowsL H qs (rows.map fun r => r.map V.int) := by
  induction h with
  | nil => exact .nil
  | cons h _ ih => exact .cons h ih
structure TRx (mg : Str → Option Value) : Prop where
  str : mg "str" = none
  repr : mg "repr" = none
section
variable {w : World} {P : Program} {base : Heap} {K : PySem.W.Frag} {mg : Str → Option Value} {BP BT : Addr}
theorem scRight : FnScope ["_law_stream", "_law_given", "_law_whole", "_law_handed", "_law_was", "_law_found", "_law_told", "_law_row", "_law_shade"] ["_law_stream", "_law_given"] (defScope sRight) := ⟨rfl, rfl, rfl, by decide +kernel, rfl, by decide +kernel, by decide +kernel⟩
def spRight : Sp := fun vs H Q _ => ∃ (a q p : Addr) (qs : List Addr) (n : Int) (rows : List (List Int)), vs = [.ref a, .ref p] ∧ StA H a q n ∧ n < 800000000 ∧ H p = some (.lst (qs.map V.ref)) ∧ RowsAt H qs rows ∧ Shape rows ∧ (∀ b ∈ p :: qs, b ≠ a ∧ b ≠ q) ∧
  ∀ H' n', n' ≤ n + 100 → StA H' a q n' → Kp H H' a q → Q (.bl true) H'
theorem ok_right {f : Addr} {fd : FuncData} (F : Fun K "_law_text_right" "_law_text_right" sRight f fd) (T : TRx mg) (KLo : Kn P w K mg base CX0 4 "_law_loose" ["_law_stream", "_law_thing"] (spLoose K 3)) (KT : KnK P w K mg base (L2.CX P w) 4 "picture_text" "picture" (spPicT K BP)) (KF : KnK P w K mg base CX0 10 "picture_fault" "text" (spPicF K)) (KR : KnK P w K mg base (L2.CX P w) 8 "read_picture" "text" (spPicR K BT)) (KS : Kn P w K mg base CX0 5 "_law_same" ["_law_found", "_law_due"] (spSameE K 5)) (KSp : Kn P w K mg base CX0 3 "_law_a_spoiled" ["_law_thing"] (spSpoil K 3)) : FnG P w K mg base 11 f fd ["_law_stream", "_law_given"] spRight := by
  obtain ⟨fL, fdL, GL, gL, kL, bL⟩ := KLo
  obtain ⟨fT, fdT, GT, gT, kT, bT, nT⟩ := KT
  obtain ⟨fF, fdF, GF, gF, kF, bF, nF⟩ := KF
  obtain ⟨fR, fdR, GR, gR, kR, bR, nR⟩ := KR
  obtain ⟨fS, fdS, GS, gS, kS, bS⟩ := KS
  obtain ⟨fP, fdP, GP, gP, kP, bP⟩ := KSp
  refine Fun.okG F scRight (fun vs H Q E h => ?_) (fun cdv A outer s H vs Q E hr hg h => ?_)
  · obtain ⟨a, q, p, qs, n, rows, rfl, _⟩ := h
    rfl
  · obtain ⟨a, q, p, qs, n, rows, rfl, S, hn, hp, hrw, sh, off, kk⟩ := h
    refine ⟨_, pss_cons (ps_set (i := 2) scRight.nd rfl (Or.inl rfl) (pe_join pe_str (pe_lc (own := [("_law_row", 7)]) (g := gName 7) (tt := tYes) (te := tRowT K 7 8) rfl scRight.nd (pi_seq (pv 1)) (blkOk_by (own := [("_law_row", 7)]) (N := ["_law_stream", "_law_given", "_law_whole", "_law_handed", "_law_was", "_law_found", "_law_told", "_law_row", "_law_shade"]) (sc := defScope sRight) (by decide +kernel)) (fun _ _ _ _ _ => pg_name (i := 7) scRight.nd rfl (Or.inl rfl)) (fun _ _ _ _ _ => pts_nil)
          (fun _ _ _ _ _ => pe_op op_add_str (pe_join pe_str (pe_lc (own := [("_law_shade", 8)]) (g := gName 8) (tt := tYes) (te := tCB rStrI (tCons (tVar 8) tNil)) rfl scRight.nd (pi_seq (pv 7)) (blkOk_by (own := [("_law_shade", 8)]) (by rfl)) (fun _ _ _ _ _ => pg_name (i := 8) scRight.nd rfl (Or.inl rfl)) (fun _ _ _ _ _ => pts_nil)
            (fun _ _ _ _ _ => pe_callTy call_str_int (by rfl) T.str (by decide +kernel) (pa_cons (pv 8) pa_nil)))) pe_str))))
      (pss_cons (ps_set (i := 3) scRight.nd rfl (Or.inl rfl) (pe_call GL (hr.mono (by decide)) (by rfl) gL kL bL .nil pass0 (pa_cons (pv 0) (pa_cons (pv 1) pa_nil))))
      (pss_cons (ps_set (i := 4) scRight.nd rfl (Or.inl rfl) (pe_callB (call_reprD hg hr.units) (by rfl) T.repr (by decide +kernel) (pa_cons (pv 3) pa_nil)))
      (pss_cons (ps_set (i := 5) scRight.nd rfl (Or.inl rfl) (pe_lst (pa_cons (pe_call GT (hr.mono (by decide)) (by rfl) gT kT bT .nil passX (pa_cons (pv 3) pa_nil)) (pa_cons (pe_callKw GT (hr.mono (by decide)) (by rfl) gT kT nT passX (pk_cons (pv 3) pk_nil)) (pa_cons (pe_call GF (hr.mono (by decide)) (by rfl) gF kF bF .nil pass0 (pa_cons (pv 2) pa_nil)) (pa_cons (pe_callKw GF (hr.mono (by decide)) (by rfl) gF kF nF pass0 (pk_cons (pv 2) pk_nil)) pa_nil))))))
      (pss_cons (ps_if (PW.pt (pw_or (pt_not (pt_val (pe_call GS (hr.mono (by decide)) (by rfl) gS kS bS .nil pass0 (pa_cons (pv 5) (pa_cons (pe_lst (pa_cons (pv 2) (pa_cons (pv 2) (pa_cons pe_non (pa_cons pe_non pa_nil))))) pa_nil))))) (pw_or1 (pt_cmpR op_ne (pe_callB (call_reprD hg hr.units) (by rfl) T.repr (by decide +kernel) (pa_cons (pv 3) pa_nil)) (pv 4) (nomark _))))) (pss_one (ps_ret pe_bl)) pss_nil)
      (pss_cons (ps_set (i := 6) scRight.nd rfl (Or.inl rfl) (pe_callKw GR (hr.mono (by decide)) (by rfl) gR kR nR passX (pk_cons (pv 2) pk_nil)))
      (pss_cons (ps_if (pt_not (pt_val (pe_call GS (hr.mono (by decide)) (by rfl) gS kS bS .nil pass0 (pa_cons (pv 6) (pa_cons (pv 1) pa_nil))))) (pss_one (ps_ret pe_bl)) pss_nil)
      (pss_cons (ps_expr (pe_call GP (hr.mono (by decide)) (by rfl) gP kP bP .nil pass0 (pa_cons (pv 6) pa_nil)))
      (pss_one (ps_ret (pe_call GS (hr.mono (by decide)) (by rfl) gS kS bS .nil pass0 (pa_cons (pe_call GR (hr.mono (by decide)) (by rfl) gR kR bR .nil passX (pa_cons (pv 2) pa_nil)) (pa_cons (pv 1) pa_nil)))))))))))), ?_⟩
    have big : 1000000 ≤ sizeLine := by decide
    have sm := sh.small
    have pk := sh.ok
    have lw : (tS (picL rows)).length ≤ 100000 := by
      rw [tS_len]
      obtain ⟨l50, wd, w0, w1, hr⟩ := sh
      unfold picL
      rw [List.length_flatten, List.map_map]
      have z : (rows.map (List.length ∘ rowL)).sum ≤ 901 * rows.length := sum_le fun r hm => by
        obtain ⟨g1, g2⟩ := hr r hm
        show (rowL r).length ≤ 901
        rw [rowL_join, List.length_append]
        have z := joinL_len [32] (r.map intL)
        have y : ((r.map intL).map List.length).sum ≤ 17 * (r.map intL).length := sum_le fun x hx => by
          obtain ⟨i, hi, rfl⟩ := List.mem_map.1 hx
          exact intL_len (g2 i hi)
        rw [List.length_map] at y z
        simp only [List.length_cons, List.length_nil] at z ⊢
        omega
      omega
    have okw : picOf (tS (picL rows)) = .ok rows := pic_written pk
    generalize hW : tS (picL rows) = W at *
    have noE : ∀ {ln sg : Int}, picOf W = .error (ln, sg) → False := fun {ln sg} e => by
      rw [okw] at e
      cases e
    dsimp only [tSeq, tAsg]
    refine rd_whole (K := K) (i := 1) (k := 7) (m := 8) rfl hp hrw sm (fun _ => rfl) (fun _ => rfl) (fun _ _ => rfl) (fun _ _ => rfl) fun H1 s1 => ?_
    rw [hW]
    obtain ⟨cs, l, m, S0⟩ := S.s s1
    have pf := picLike_facts (picLike_self rows) sh
    have dpg : ∀ {H2 : Hp}, Kp H1 H2 a q → Dp K (Hd [a, q] H2) (.ref p) (picDt rows) ∧ De K H2 (.ref p) (picDt rows) := fun {H2} k => by
      have at2 : ∀ b o, H b = some o → b ∈ p :: qs → H2 b = some o := fun b o e hm => k b o (s1 _ _ e) (off b hm).1 (off b hm).2
      have hid : ∀ b, b ∈ p :: qs → Hd [a, q] H2 b = H2 b := fun b hm => hd_off fun hb => by
        rcases List.mem_cons.1 hb with h | h
        · exact (off b hm).1 h
        · exact (off b hm).2 (List.mem_singleton.1 h)
      have x : Dp K (Hd [a, q] H2) (.ref p) (picDt rows) := dp_pic (by rw [hid p (List.mem_cons_self ..)]; exact at2 p _ hp (List.mem_cons_self ..)) (rowsAt_mono hrw fun b o e hm => by rw [hid b (List.mem_cons_of_mem _ hm)]; exact at2 b o e (List.mem_cons_of_mem _ hm))
      exact ⟨x, De.of (dp_s hd_le x)⟩
    have hcnt : cnt (picDt rows) = rows.length + 1 := by
      show cntAll (rows.map rowD) + 1 = _
      rw [cnt_rows]
    have l50 := sh.1
    refine ⟨_, rfl, _, rfl, a, q, [a, q], cs, l, n, m, .ref p, picDt rows, rfl, S0, by rw [hcnt]; omega, ⟨List.mem_cons_self .., List.mem_cons_of_mem _ (List.mem_cons_self ..), fun b hb => ?_⟩, (dpg (fun b o e _ _ => e)).1, pf.2.1, ?_, fun v' d' H2 cs' l' m' S2 k2 dp2 cd => ?_⟩
    · rcases List.mem_cons.1 hb with h | h
      · exact ⟨_, h ▸ S0.ha⟩
      · exact ⟨_, (List.mem_singleton.1 h) ▸ S0.hq⟩
    · have := depth_rows rows
      show PyData.depthAll (rows.map rowD) + 1 < 3
      omega
    have k2K : Kp H1 H2 a q := k2
    have pl := core_pic cd
    have fc := picLike_facts pl sh
    have pv := picLike_rows pl
    have dpv : Dp K H2 v' d' := dp_s hd_le dp2
    obtain ⟨a', rfl⟩ : ∃ a', v' = .ref a' := by
      obtain ⟨ds, e, _⟩ := pl
      rcases e with rfl | rfl <;> cases dpv <;> exact ⟨_, rfl⟩
    have S2A : StA H2 a q (n + cnt (picDt rows)) := ⟨_, _, _, S2⟩
    have k02 : Kp H H2 a q := (Kp.of s1).trans k2K
    refine ⟨_, rfl, a', d', rfl, dpv, fc.2.2.2.1, fc.2.2.2.2.1, fc.2.2.2.2.2.1, fc.2.2.2.2.2.2.1, ?_⟩
    refine ⟨_, rfl, .ref a', d', rfl, De.of dpv, fc.2.1, fc.2.2.1, .inl ⟨rows, fc.1, pv, sm, fun H3 s3 => ?_⟩⟩
    refine ⟨_, rfl, rfl, .ref a', d', rfl, de_s s3 (De.of dpv), fc.2.1, fc.2.2.1, .inl ⟨rows, fc.1, pv, sm, fun H4 s4 => ?_⟩⟩
    rw [hW]
    refine ⟨_, rfl, .str W, rfl, .inl ⟨W, rfl, lw, fun _ H5 _ s5 => ?_, fun ln sg _ _ e => (noE e).elim⟩⟩
    refine ⟨_, rfl, rfl, .str W, rfl, .inl ⟨W, rfl, lw, fun _ H6 _ s6 => ?_, fun ln sg _ _ e => (noE e).elim⟩⟩
    refine ⟨(by show 4 ≤ sizeLine; omega), fun L nL => ?_⟩
    have s26 : Same H2 H6 := Same.trans s3 (Same.trans s4 (Same.trans s5 s6))
    have s7 : Same H6 (upd H6 L (.lst [.str W, .str W, .non, .non])) := same_new nL
    have at7 : (upd H6 L (.lst [.str W, .str W, .non, .non])) L = some (.lst [.str W, .str W, .non, .non]) := upd_same
    generalize upd H6 L (.lst [.str W, .str W, .non, .non]) = H7 at s7 at7 ⊢
    refine ⟨_, rfl, _, rfl, _, rfl, (by show 4 ≤ sizeLine; omega), fun M nM => ?_⟩
    have s8 : Same H7 (upd H7 M (.lst [.str W, .str W, .non, .non])) := same_new nM
    refine ⟨.ref L, .ref M, .list [.str W, .str W, .none, .none], .list [.str W, .str W, .none, .none], rfl, .lst (SqL.of (s8 _ _ at7)) (.cons (.str _) (.cons (.str _) (.cons .non (.cons .non .nil)))), .lst (SqL.of upd_same) (.cons (.str _) (.cons (.str _) (.cons .non (.cons .non .nil)))), rfl, (by show 1 < 5; decide), fun H9 s9 => ⟨_, rfl, ?_⟩⟩
    rw [sameE_refl]
    have s29 := Same.trans s26 (Same.trans s7 (Same.trans s8 s9))
    refine iteF ?_
    refine ⟨_, rfl, a', d', rfl, dp_s s29 dpv, fc.2.2.2.1, fc.2.2.2.2.1, fc.2.2.2.2.2.1, fc.2.2.2.2.2.2.1, _, rfl, rfl, _, rfl, ?_⟩
    have en : (!decide (V.str d'.shown = V.str d'.shown)) = false := by rw [decide_eq_true rfl]; rfl
    rw [en]
    refine iteF ?_
    refine ⟨_, rfl, rfl, .str W, rfl, .inl ⟨W, rfl, lw, fun rows' p2 qs2 H10 e10 s10 hp2 hr2 nod fresh => ?_, fun ln sg e => (noE e).elim⟩⟩
    have er : rows' = rows := by
      rw [okw] at e10
      exact (Except.ok.inj e10).symm
    subst er
    have s210 := Same.trans s29 s10
    have g10 := (dpg (k2K.trans (Kp.of s210))).2
    have g9 := (dpg (k2K.trans (Kp.of s29))).2
    refine ⟨_, rfl, _, rfl, .ref p2, .ref p, picDt rows', picDt rows', rfl, De.of (dp_pic hp2 hr2), g10, pf.2.1, by have := pf.2.2.2.2.2.2.2; omega, fun H11 s11 => ⟨_, rfl, ?_⟩⟩
    rw [sameE_refl]
    refine iteF ?_
    have lq2 := Paired.length hr2
    refine ⟨_, rfl, .ref p2, rfl, .inr (.inr ⟨by decide, p2, qs2, rows'.map fun r => r.map V.int, rfl, s11 _ _ hp2, rowsL_of (rowsAt_mono hr2 fun b o e _ => s11 b o e), nod, fun xs hx => ?_, by omega, fun H12 k12 _ _ => ?_⟩)⟩
    · obtain ⟨r, hr, rfl⟩ := List.mem_map.1 hx
      refine ⟨fun x hx2 => ?_, by rw [List.length_map]; have := (sm.2 r hr).1; omega⟩
      obtain ⟨i, _, rfl⟩ := List.mem_map.1 hx2
      exact .inl ⟨i, rfl⟩
    · have k912 : ∀ b o, H9 b = some o → H12 b = some o := fun b o e => k12 b o (s11 _ _ (s10 _ _ e)) fun hm => by
        rw [fresh b hm] at e
        cases e
      have s912 : Same H9 H12 := k912
      refine ⟨_, rfl, .str W, rfl, .inl ⟨W, rfl, lw, fun rows2 p3 qs3 H13 e13 s13 hp3 hr3 _ _ => ?_, fun ln sg e => (noE e).elim⟩⟩
      have er2 : rows2 = rows' := by
        rw [okw] at e13
        exact (Except.ok.inj e13).symm
      subst er2
      have s913 := Same.trans s912 s13
      refine ⟨_, rfl, .ref p3, .ref p, picDt rows2, picDt rows2, rfl, De.of (dp_pic hp3 hr3), de_s s913 g9, pf.2.1, by have := pf.2.2.2.2.2.2.2; omega, fun H14 s14 => ?_⟩
      rw [sameE_refl]
      have sEnd := Same.trans s29 (Same.trans s913 s14)
      exact kk H14 _ (by rw [hcnt]; omega) (S2A.s sEnd) (k02.trans (Kp.of sEnd))
end
end Mine
namespace Mine
open PySem L2 PySem.Spec PyProof.Rows Pic LamX
/-- a def of the text whose code object is known -/
structure FunC (K : PySem.W.Frag) (x qual : Str) (st : Stmt) (f : Addr) (fd : FuncData) (c : Addr) : Prop where
  ex : ∃ (oc : Value) (od : Option Addr) (kV doc pm : Value) (an : Option Addr) (ct : Value) (osl : Array (Option Value)),
    fd = PySem.W.fnOf x qual (defArgs st) (defBody st) (defScope st) .none kV doc pm an (.ref c) ct ∧ K.lookup f = some ⟨oc, od, .func fd, osl⟩ ∧ PySem.W.codeIn K (.ref c) qual = true
  kp : (PySem.W.keepIn K (.ref f)) = true
/-- all but the stream and the tables is as it was -/
def KpN (H H' : Hp) (a q : Addr) : Prop := ∀ b o, H b = some o → (∀ ps, o ≠ .tbl ps) → b ≠ a → b ≠ q → H' b = some o
theorem KpN.of {H H' : Hp} {a q : Addr} (k : Kp H H' a q) : KpN H H' a q := fun b o e _ => k b o e
theorem KpN.ext {H H' : Hp} {a q : Addr} (k : ExtN H H') : KpN H H' a q := fun b o e n _ _ => k b o e n
theorem KpN.trans {H H1 H2 : Hp} {a q : Addr} (x : KpN H H1 a q) (y : KpN H1 H2 a q) : KpN H H2 a q := fun b o e n n1 n2 => y b o (x b o e n n1 n2) n n1 n2
theorem StA.n {H H' : Hp} {a q : Addr} {n : Int} (S : StA H a q n) (k : ExtN H H') : StA H' a q n := by
  obtain ⟨cs, l, m, z⟩ := S
  exact ⟨cs, l, m, k _ _ z.ha (fun _ e => nomatch e), k _ _ z.hq (fun _ e => nomatch e), z.l0, z.n0, z.m0, z.m1⟩
theorem tabs_kp {T : List (Addr × Str)} {H H' : Hp} {a q : Addr} {n : Int} (t : Tabs T H) (S : StA H a q n) (k : Kp H H' a q) : Tabs T H' := fun p hp => by
  obtain ⟨_, _, _, z⟩ := S
  obtain ⟨ps, e, ok, h⟩ := t p hp
  have off : ∀ {b : Addr} {o : HO}, H b = some o → (∀ xs, o ≠ .lst xs) → b ≠ a ∧ b ≠ q := fun {b o} e no => ⟨(fun w => by rw [w, z.ha] at e; exact no _ (Option.some.inj e).symm), (fun w => by rw [w, z.hq] at e; exact no _ (Option.some.inj e).symm)⟩
  have o1 := off e (fun _ w => nomatch w)
  refine ⟨ps, k _ _ e o1.1 o1.2, ok, fun pos cv hc => ?_⟩
  obtain ⟨c, ec, ho⟩ := h pos cv hc
  have o2 := off ho (fun _ w => nomatch w)
  exact ⟨c, ec, k _ _ ho o2.1 o2.2⟩
section
variable {w : World} {P : Program} {base : Heap} {K : PySem.W.Frag} {mg : Str → Option Value}
theorem FunC.ok {x qual : Str} {st : Stmt} {f c : Addr} {fd : FuncData} {N ps : List Str} {k : Nat} {sp : Sp} (F : FunC K x qual st f fd c) (S : FnScope N ps (defScope st)) (len : ∀ vs H Q E, sp vs H Q E → vs.length = ps.length)
    (hbody : ∀ (A : Around) (outer : List Env) (s : Shared) (H : Hp) (vs : List V) (Q : VK) (E : XK), Room k (A.deeper (envOfC qual (defScope st) s.heap.objs.size f (.ref c))) → sp vs H Q E →
      ∃ t, PSs (cxOf CX0 P w K mg base N qual (defScope st) f (.ref c) A outer s H E).nox (defBody st) t ∧ t { nx := fun _ H' => Q .non H', rt := Q } (start N vs) H) : FnOk P w K mg base CX0 (k + 1) f fd ps sp := by
  obtain ⟨oc, od, kV, doc, pm, an, ct, osl, rfl, lk, hcd⟩ := F.ex
  refine fn_of lk hcd S len fun A outer s0 H vs Q E hr hsp => ?_
  obtain ⟨t, h, q⟩ := hbody A outer s0 H vs Q E hr hsp
  exact ⟨t, h.nox, q⟩
theorem FunC.okG {x qual : Str} {st : Stmt} {f c : Addr} {fd : FuncData} {N ps : List Str} {k : Nat} {sp : Sp} (F : FunC K x qual st f fd c) (S : FnScope N ps (defScope st)) (len : ∀ vs H Q E, sp vs H Q E → vs.length = ps.length)
    (hbody : ∀ (A : Around) (outer : List Env) (s : Shared) (H : Hp) (vs : List V) (Q : VK) (E : XK), Room k (A.deeper (envOfC qual (defScope st) s.heap.objs.size f (.ref c))) → (A.deeper (envOfC qual (defScope st) s.heap.objs.size f (.ref c))).guards = some [] → sp vs H Q E →
      ∃ t, PSs (cxOf CX0 P w K mg base N qual (defScope st) f (.ref c) A outer s H E).nox (defBody st) t ∧ t { nx := fun _ H' => Q .non H', rt := Q } (start N vs) H) : FnG P w K mg base (k + 1) f fd ps sp := by
  obtain ⟨oc, od, kV, doc, pm, an, ct, osl, rfl, lk, hcd⟩ := F.ex
  refine ⟨len, fun A outer s H args us vs Q E hr hg e0 hb r hsp => ?_⟩
  refine run_ofS (CX := CX0) (N := N) (ps := ps) lk hcd S hr e0 hb r (len _ _ _ _ hsp) fun hr2 => ?_
  obtain ⟨t, h, q⟩ := hbody A outer s H vs Q E hr2 hg hsp
  exact ⟨t, h.nox, q⟩
end
theorem tabs_upd {T : List (Addr × Str)} {H : Hp} {M : Addr} {xs : List V} {o : HO} (t : Tabs T H) (e : H M = some (.lst xs)) : Tabs T (upd H M o) := fun p hp => by
  obtain ⟨ps, ep, ok, h⟩ := t p hp
  have off : ∀ {b : Addr} {o2 : HO}, H b = some o2 → (∀ xs, o2 ≠ .lst xs) → b ≠ M := fun {b o2} eb no w => by
    rw [w, e] at eb
    exact no _ (Option.some.inj eb).symm
  refine ⟨ps, by rw [upd_ne (off ep fun _ w => nomatch w)]; exact ep, ok, fun pos cv hc => ?_⟩
  obtain ⟨c, ec, ho⟩ := h pos cv hc
  exact ⟨c, ec, by rw [upd_ne (off ho fun _ w => nomatch w)]; exact ho⟩
theorem StA.upd {H : Hp} {a q M : Addr} {n : Int} {o : HO} (S : StA H a q n) (h1 : M ≠ a) (h2 : M ≠ q) : StA (upd H M o) a q n := by
  obtain ⟨cs, l, m, z⟩ := S
  exact ⟨cs, l, m, by rw [upd_ne h1.symm]; exact z.ha, by rw [upd_ne h2.symm]; exact z.hq, z.l0, z.n0, z.m0, z.m1⟩
theorem StA.off {H : Hp} {a q M : Addr} {n : Int} (S : StA H a q n) (h : H M = none) : M ≠ a ∧ M ≠ q := by
  obtain ⟨cs, l, m, z⟩ := S
  exact ⟨(fun e => by rw [e, z.ha] at h; cases h), (fun e => by rw [e, z.hq] at h; cases h)⟩
theorem part_mem (ys : List Str) (lo hi : Option Int) : ∃ zs : List Str, cutV (ys.map V.str) lo hi = zs.map V.str ∧ (∀ z ∈ zs, z ∈ ys) ∧ zs.length ≤ ys.length := by
  refine ⟨(ys.drop (HT.sIx (ys.map V.str).length 0 lo)).take (HT.sIx (ys.map V.str).length (ys.map V.str).length hi - HT.sIx (ys.map V.str).length 0 lo), ?_, fun z h => List.mem_of_mem_drop (List.mem_of_mem_take h), ?_⟩
  · unfold cutV
    rw [List.map_take, List.map_drop]
  · rw [List.length_take, List.length_drop]
    omega
abbrev sStr : Stmt := top 40
structure TSr (mg : Str → Option Value) : Prop where
  range : mg "range" = none
  len : mg "len" = none
section
variable {w : World} {P : Program} {base : Heap} {K : PySem.W.Frag} {mg : Str → Option Value} {BP BT : Addr}
theorem scStr : FnScope ["_law_stream", "_law_text", "_law_signs", "_law_some", "_law_k", "_law_bent", "_law_one", "_law_due", "_law_found", "_law_at"] ["_law_stream", "_law_text"] (defScope sStr) := ⟨rfl, rfl, rfl, by decide +kernel, rfl, by decide +kernel, by decide +kernel⟩
def spStr (T : List (Addr × Str)) : Sp := fun vs H Q _ => ∃ (a q : Addr) (n : Int) (t : Str), vs = [.ref a, .str t] ∧ Tabs T H ∧ StA H a q n ∧ n < 700000000 ∧ t.length ≤ 2000 ∧
  ∀ H' n', n' ≤ n + 1000 → StA H' a q n' → KpN H H' a q → Tabs T H' → Q (.bl true) H'
theorem ok_str {f c Pt : Addr} {fd : FuncData} {T : List (Addr × Str)} (F : FunC K "_law_strings_right" "_law_strings_right" sStr f fd c) (X : TSr mg) (TB : TabB base mg c Pt) (hm : (Pt, ("_law_strings_right" ++ ".<locals>." : Str) ++ "<lambda>") ∈ T) (hu : ∀ p ∈ T, p.1 = Pt → p.2 = ("_law_strings_right" ++ ".<locals>." : Str) ++ "<lambda>")
    {fM : Addr} {fdM : FuncData} (FM : Fun K "_law_met" "_law_met" sMet fM fdM) (gM : mg "_law_met" = some (.ref fM)) (bM : Binds K fdM ["_law_ask"] []) (M : MetT K mg BP BT)
    (KB : Kn P w K mg base CX0 3 "_law_a_bent" ["_law_stream", "_law_text", "_law_signs"] (spBent K)) (KD : Kn P w K mg base CX0 1 "_law_draw" ["_law_stream", "_law_many"] spDraw) (KW : Kn P w K mg base CX0 3 "_law_wrong" ["_law_text"] spWrong4) (KR : KnK P w K mg base (L2.CX P w) 8 "read_picture" "text" (spPicR K BT)) (KF : KnK P w K mg base CX0 10 "picture_fault" "text" (spPicF K)) (KS : Kn P w K mg base CX0 5 "_law_same" ["_law_found", "_law_due"] (spSameE K 5)) :
    FnOk P w K mg base CX0 11 f fd ["_law_stream", "_law_text"] (spStr T) := by
  obtain ⟨fB, fdB, GB, gB, kB, bB⟩ := KB
  obtain ⟨fD, fdD, GD, gD, kD, bD⟩ := KD
  obtain ⟨fW, fdW, GW, gW, kW, bW⟩ := KW
  obtain ⟨fR, fdR, GR, gR, kR, bR, nR⟩ := KR
  obtain ⟨fF, fdF, GF, gF, kF, bF, nF⟩ := KF
  obtain ⟨fS, fdS, GS, gS, kS, bS⟩ := KS
  refine F.ok scStr (fun vs H Q E h => ?_) (fun A outer s H vs Q E hr h => ?_)
  · obtain ⟨a, q, n, t, rfl, _⟩ := h
    rfl
  · obtain ⟨a, q, n, t, rfl, hT, S, hn, ht, kk⟩ := h
    obtain ⟨ocM, odM, kVM, docM, pmM, anM, cdvM, ctM, oslM, rfl, lkM, hcdM⟩ := FM.ex
    refine ⟨_, pss_cons (ps_par (i := 2) (j := 3) rfl scStr.nd rfl rfl (by decide) rfl rfl (pa_cons (pe_lst (pa_cons pe_str (pa_cons pe_str (pa_cons pe_str (pa_cons pe_str (pa_cons pe_str (pa_cons pe_str (pa_cons pe_str (pa_cons pe_str (pa_cons pe_str (pa_cons pe_str (pa_cons pe_str (pa_cons pe_str pa_nil))))))))))))) (pa_cons (pe_lst pa_nil) pa_nil)) rfl)
      (pss_cons (ps_expr (pe_bm PySem.F.plainAttrs_list PySem.F.slot_list_extend PySem.F.type_list_extend mt_extend (pv 3) (pa_cons (pe_slice sl_list (pe_lc (own := [("_law_at", 9)]) (g := gName 9) (tt := tYes) (te := tSl rSlS (tVar 1) tNoPart (tPart (tVar 9))) rfl scStr.nd (pi_range1 rfl X.range (pa_cons (pe_op op_add (pe_callB call_len (by rfl) X.len PySem.boot_len (pa_cons (pv 1) pa_nil)) pe_int) pa_nil))
          (blkOk_by (own := [("_law_at", 9)]) (N := ["_law_stream", "_law_text", "_law_signs", "_law_some", "_law_k", "_law_bent", "_law_one", "_law_due", "_law_found", "_law_at"]) (sc := defScope sStr) (by decide +kernel)) (fun _ _ _ _ _ => pg_name (i := 9) scStr.nd rfl (Or.inl rfl)) (fun _ _ _ _ _ => pts_nil) (fun _ _ _ _ _ => pe_slice sl_str (pv 1) po_none (po_some (pv 9)))) (po_some (pe_un un_neg pe_int)) po_none) pa_nil)))
      (pss_cons (ps_for PassesOwn.never rfl (pi_range1 rfl X.range (pa_cons pe_int pa_nil)) (pg_name (i := 4) scStr.nd rfl (Or.inl rfl))
        (pss_cons (ps_set (i := 5) scStr.nd rfl (Or.inl rfl) (pe_call GB (hr.mono (by decide)) (by rfl) gB kB bB .nil pass0 (pa_cons (pv 0) (pa_cons (pv 1) (pa_cons (pv 2) pa_nil)))))
        (pss_one (ps_expr (pe_bm PySem.F.plainAttrs_list PySem.F.slot_list_append PySem.F.type_list_append mt_append (pv 3) (pa_cons (pe_ifExp (pt_cmpR op_eq (pe_call GD (hr.mono (by decide)) (by rfl) gD kD bD .nil pass0 (pa_cons (pv 0) (pa_cons pe_int pa_nil))) pe_int (nomark _)) (pe_call GB (hr.mono (by decide)) (by rfl) gB kB bB .nil pass0 (pa_cons (pv 0) (pa_cons (pv 5) (pa_cons (pv 2) pa_nil)))) (pv 5)) pa_nil))))))
      (pss_cons (ps_for PassesOwn.never rfl (pi_list (pv 3)) (pg_name (i := 6) scStr.nd rfl (Or.inr rfl))
        (pss_cons (ps_par (i := 7) (j := 8) rfl scStr.nd rfl rfl (by decide) rfl rfl (pa_cons (pe_call GW (hr.mono (by decide)) (by rfl) gW kW bW .nil pass0 (pa_cons (pv 6) pa_nil)) (pa_cons
            (pe_lamcall (T := T) (TT := TMet BP BT) (t := fun E => tCall (spPicR K BT) [] E (tCons (tVar 6) tNil)) (k := 8) (by rfl) gM FM.kp lkM hcdM bM scMet rfl (.inl rfl) (met_gives M) TB (by rfl) (by exact hm) (by exact hu) hr (lamS_by (by show lamSB (defScope sStr) _ = true; decide +kernel)) (by rfl) (fun _ _ _ _ _ => by rfl)
              (by intro A outer s H E f c' hr2; exact pe_call GR hr2 (by rfl) gR kR bR .nil (passes_call (takes_of rfl rfl rfl rfl) (fun _ _ _ _ h => h)) (pa_cons (pv 6) pa_nil))) pa_nil)) rfl)
        (pss_cons (ps_if (PW.pt (pw_or (pt_not (pt_val (pe_call GS (hr.mono (by decide)) (by rfl) gS kS bS .nil pass0 (pa_cons (pe_lst (pa_cons (pe_call GF hr (by rfl) gF kF bF .nil pass0 (pa_cons (pv 6) pa_nil)) pa_nil)) (pa_cons (pe_lst (pa_cons (pv 7) pa_nil)) pa_nil))))) (pw_or1 (pt_cmpR op_ne (pe_cmpR op_eq (pe_ix ix_tup (pv 8) pe_int (fun _ _ => rfl)) pe_str (nomark _)) (pe_cmp (pc_isN (pv 7))) (nomark _))))) (pss_one (ps_ret pe_bl)) pss_nil)
        (pss_one (ps_if (PW.pt (pw_and (pt_cmp (pc_notN (pv 7))) (pw_and1 (pt_not (pt_val (pe_call GS (hr.mono (by decide)) (by rfl) gS kS bS .nil pass0 (pa_cons (pv 8) (pa_cons (pe_tup (pa_cons pe_str (pa_cons (pv 7) pa_nil))) pa_nil)))))))) (pss_one (ps_ret pe_bl)) pss_nil)))))
      (pss_one (ps_ret pe_bl))))), ?_⟩
    have big : 1000000 ≤ sizeLine := by decide
    refine ⟨by show 12 ≤ sizeLine; omega, fun L nL => ⟨by show 0 ≤ sizeLine; omega, fun M nM => ⟨_, _, rfl, ?_⟩⟩⟩
    generalize hsg : ([V.str "0", V.str "1", V.str "7", V.str "-", V.str " ", V.str "\n", V.str "12", V.str "-0", V.str " 0", V.str "a", V.str "1 2\n", V.str "00"] : List V) = sgV at nM ⊢
    obtain ⟨sg, esg, sne, slen, s5⟩ : ∃ sg : List Str, sgV = sg.map V.str ∧ sg ≠ [] ∧ sg.length ≤ 100 ∧ ∀ s ∈ sg, s.length ≤ 5 := ⟨["0", "1", "7", "-", " ", "\n", "12", "-0", " 0", "a", "1 2\n", "00"], by rw [← hsg]; rfl, by decide, by decide, by decide⟩
    subst esg
    clear hsg
    have ML : M ≠ L := fun e => by
      rw [e, upd_same] at nM
      cases nM
    have nM0 : H M = none := by rw [upd_ne ML] at nM; exact nM
    obtain ⟨La, Lq⟩ := S.off nL
    obtain ⟨Ma, Mq⟩ := S.off nM0
    have s1 : Same H (upd (upd H L (.lst (sg.map V.str))) M (.lst [])) := Same.trans (same_new nL) (same_new nM)
    have atL1 : (upd (upd H L (.lst (sg.map V.str))) M (.lst [])) L = some (.lst (sg.map V.str)) := by rw [upd_ne ML.symm, upd_same]
    have atM1 : (upd (upd H L (.lst (sg.map V.str))) M (.lst [])) M = some (.lst []) := upd_same
    generalize upd (upd H L (.lst (sg.map V.str))) M (.lst []) = H1 at s1 atL1 atM1 ⊢
    refine ⟨_, rfl, .inl ⟨rfl, _, SqL.of atM1⟩, _, rfl, _, _, rfl, ⟨by omega, rfl⟩, _, _, rfl, rfl, _, rfl, by omega, by omega, fun D nD => ?_⟩
    have cl : ∀ lo hi, (cutS t lo hi).length ≤ t.length := fun lo hi => cutS_length t lo hi
    have ej : ((t.length : Int) + 1).toNat = t.length + 1 := by omega
    rw [ej]
    refine lc_pure (n := t.length + 1) ((List.range (t.length + 1)).map fun i : Nat => V.str (cutS t none (some (i : Int)))) (by rw [List.length_map, List.length_range]) (by omega) nD (fun i H2 lt _ => lt) (fun _ _ => Nat.le_refl _) ?_ fun H2 s2 atD => ?_
    · rintro i y H2 x H3 R ey s2 ⟨rfl, rfl⟩ k
      rw [List.getElem?_map] at ey
      cases er : (List.range (t.length + 1))[i]? with
      | none =>
        rw [er] at ey
        cases ey
      | some i' =>
        rw [er] at ey
        cases ey
        have ei : i' = i := by
          obtain ⟨_, e⟩ := List.getElem?_eq_some_iff.mp er
          rw [List.getElem_range] at e
          exact e.symm
        subst ei
        refine ⟨rfl, _, rfl, _, rfl, _, rfl, t, rfl, by omega, ?_⟩
        rw [Int.zero_add]
        exact k _ (Same.refl _)
    have em : ((List.range (t.length + 1)).map fun i : Nat => V.str (cutS t none (some (i : Int)))) = ((List.range (t.length + 1)).map fun i : Nat => cutS t none (some (i : Int))).map V.str := by
      rw [List.map_map]
      rfl
    rw [em] at atD
    refine ⟨_, rfl, _, rfl, D, _, rfl, SqL.of atD, fun p np => ?_⟩
    obtain ⟨zs, ez, mz, lz⟩ := part_mem ((List.range (t.length + 1)).map fun i : Nat => cutS t none (some (i : Int))) (some (-25)) none
    rw [List.length_map, List.length_range] at lz
    have mz2 : ∀ z ∈ zs, z.length ≤ 2000 := fun z h => by
      obtain ⟨i, _, rfl⟩ := List.mem_map.1 (mz z h)
      exact Nat.le_trans (cl _ _) ht
    dsimp only
    rw [ez]
    have s3 : Same H2 (upd H2 p (.lst (zs.map V.str))) := same_new np
    have atp : (upd H2 p (.lst (zs.map V.str))) p = some (.lst (zs.map V.str)) := upd_same
    generalize upd H2 p (.lst (zs.map V.str)) = H3 at s3 atp ⊢
    have s13 : Same H1 H3 := Same.trans s2 s3
    have s03 : Same H H3 := Same.trans s1 s13
    refine ⟨M, p, [], _, rfl, rfl, s13 _ _ atM1, atp, by rw [List.length_map]; show 0 + zs.length ≤ _; omega, ?_⟩
    have atM3 := s13 _ _ atM1
    have atL4 : (upd H3 M (.lst ([] ++ zs.map V.str))) L = some (.lst (sg.map V.str)) := by rw [upd_ne ML.symm]; exact s13 _ _ atL1
    have atM4 : (upd H3 M (.lst ([] ++ zs.map V.str))) M = some (.lst (zs.map V.str)) := upd_same
    have S4 : StA (upd H3 M (.lst ([] ++ zs.map V.str))) a q n := (S.s s03).upd Ma Mq
    have T4 : Tabs T (upd H3 M (.lst ([] ++ zs.map V.str))) := tabs_upd (hT.ext s03) atM3
    have k4 : KpN H (upd H3 M (.lst ([] ++ zs.map V.str))) a q := fun b o e _ _ _ => by
      rw [upd_ne (ne_of_none e nM0)]
      exact s03 _ _ e
    generalize upd H3 M (.lst ([] ++ zs.map V.str)) = H4 at atL4 atM4 S4 T4 k4 ⊢
    refine ⟨_, rfl, by decide, by decide, ?_⟩
    refine for_any (n := 20) (fun j σ H' => ∃ (v4 v5 v6 v7 v8 v9 : Option V) (us : List Str) (n' : Int), σ = [some (.ref a), some (.str t), some (.ref L), some (.ref M), v4, v5, v6, v7, v8, v9] ∧ H' L = some (.lst (sg.map V.str)) ∧ H' M = some (.lst (us.map V.str)) ∧ us.length ≤ 2001 + j ∧ (∀ z ∈ us, z.length ≤ 20000) ∧ n' ≤ n + 11 * j ∧ StA H' a q n' ∧ KpN H H' a q ∧ Tabs T H') ?_ ?_ ?_ ?_ ?_
    · exact ⟨_, _, _, _, _, _, zs, n, rfl, atL4, atM4, by omega, fun z h => by have := mz2 z h; omega, by omega, S4, k4, T4⟩
    · exact fun j _ _ lt _ => lt
    · exact fun _ _ _ => Nat.le_refl _
    · rintro j σ H5 x H6 lt ⟨v4, v5, v6, v7, v8, v9, us, n', rfl, atL5, atM5, lu, mu, hn', S5, k5, T5⟩ ⟨rfl, rfl⟩
      dsimp only [tSeq, tAsg, tCall, tCons, tNil]
      refine ⟨_, rfl, _, rfl, _, rfl, a, q, L, n', t, sg, rfl, S5, by omega, by omega, SqL.of atL5, sne, slen, s5, La, Lq, fun x H6 n6 hn6 hx S6 k6 => ?_⟩
      have atL6 := k6 _ _ atL5 La Lq
      have atM6 := k6 _ _ atM5 Ma Mq
      have T6 := tabs_kp T5 S5 k6
      refine ⟨_, rfl, .inl ⟨rfl, _, SqL.of atM6⟩, ?_⟩
      refine ⟨_, rfl, ?_⟩
      dsimp only [tCons, tNil, tC]
      refine sp_draw 3 S6 rfl (by decide) (by decide) (by omega) fun d H7 d0 d1 S7 k7 => ⟨rfl, _, rfl, ?_⟩
      have atL7 := k7 _ _ atL6 La Lq
      have atM7 := k7 _ _ atM6 Ma Mq
      have T7 := tabs_kp T6 S6 k7
      have next : ∀ (y : Str) (H8 : Hp) (n8 : Int) (σ' : L2.St), (∃ v4 v5 v6 v7 v8 v9 : Option V, σ' = [some (.ref a), some (.str t), some (.ref L), some (.ref M), v4, v5, v6, v7, v8, v9]) → y.length ≤ 20000 → n8 ≤ n6 + 1 + 5 → StA H8 a q n8 → Kp H7 H8 a q → ∃ l xs z, V.ref M = .ref l ∧ [V.str y] = [z] ∧ H8 l = some (.lst xs) ∧ xs.length < sizeLine ∧
          ∃ (v4 v5 v6 v7 v8 v9 : Option V) (us : List Str) (n' : Int), σ' = [some (.ref a), some (.str t), some (.ref L), some (.ref M), v4, v5, v6, v7, v8, v9] ∧ (upd H8 l (.lst (xs ++ [z]))) L = some (.lst (sg.map V.str)) ∧ (upd H8 l (.lst (xs ++ [z]))) M = some (.lst (us.map V.str)) ∧ us.length ≤ 2001 + (j + 1) ∧ (∀ z ∈ us, z.length ≤ 20000) ∧ n' ≤ n + 11 * (j + 1 : Nat) ∧ StA (upd H8 l (.lst (xs ++ [z]))) a q n' ∧ KpN H (upd H8 l (.lst (xs ++ [z]))) a q ∧ Tabs T (upd H8 l (.lst (xs ++ [z]))) := by
        rintro y H8 n8 σ' ⟨v4, v5, v6, v7, v8, v9, rfl⟩ hy hn8 S8 k8
        have atM8 := k8 _ _ atM7 Ma Mq
        refine ⟨M, us.map V.str, .str y, rfl, rfl, atM8, by rw [List.length_map]; omega, v4, v5, v6, v7, v8, v9, us ++ [y], n8, rfl, ?_, ?_, ?_, ?_, by omega, S8.upd Ma Mq, ?_, tabs_upd (tabs_kp T7 S7 k8) atM8⟩
        · rw [upd_ne ML.symm]
          exact k8 _ _ atL7 La Lq
        · rw [upd_same, List.map_append]
          rfl
        · rw [List.length_append]
          show us.length + 1 ≤ _
          omega
        · intro z hz
          rcases List.mem_append.1 hz with h | h
          · exact mu z h
          · rw [List.mem_singleton.1 h]
            exact hy
        · intro b o e nt n1 n2
          rw [upd_ne (ne_of_none e nM0)]
          exact k8 _ _ (k7 _ _ (k6 _ _ (k5 _ _ e nt n1 n2) n1 n2) n1 n2) n1 n2
      refine ite2 (fun _ => ?_) fun _ => ?_
      · refine ⟨_, rfl, _, rfl, _, rfl, a, q, L, n6 + 1, x, sg, rfl, S7, by omega, by omega, SqL.of atL7, sne, slen, s5, La, Lq, fun y H8 n8 hn8 hy S8 k8 => ?_⟩
        exact next y H8 n8 _ ⟨_, _, _, _, _, _, rfl⟩ (by omega) (by omega) S8 k8
      · exact ⟨_, rfl, next x H7 (n6 + 1) _ ⟨_, _, _, _, _, _, rfl⟩ (by omega) (by omega) S7 (fun b o e _ _ => e)⟩
    · rintro σ H5 ⟨v4, v5, v6, v7, v8, v9, us, n', rfl, atL5, atM5, lu, mu, hn', S5, k5, T5⟩
      dsimp only [tSeq]
      refine ⟨_, rfl, M, rfl, ⟨_, SqL.of atM5⟩, ?_⟩
      refine for_any (n := us.length) (fun j σ H' => ∃ (v4 v5 v6 v7 v8 v9 : Option V), σ = [some (.ref a), some (.str t), some (.ref L), some (.ref M), v4, v5, v6, v7, v8, v9] ∧ H' M = some (.lst (us.map V.str)) ∧ StA H' a q n' ∧ KpN H H' a q ∧ Tabs T H') ?_ ?_ ?_ ?_ ?_
      · exact ⟨_, _, _, _, _, _, rfl, atM5, S5, k5, T5⟩
      · rintro j σ H6 lt ⟨_, _, _, _, _, _, _, at6, _⟩
        exact ⟨us.map V.str, V.str us[j], SqL.of at6, by rw [List.getElem?_map, List.getElem?_eq_getElem lt]; rfl⟩
      · rintro σ H6 ⟨_, _, _, _, _, _, _, at6, _⟩
        exact ⟨us.map V.str, SqL.of at6, by rw [List.length_map]; exact Nat.le_refl _⟩
      · rintro j σ H60 x H6 lt ⟨u4, u5, u6, u7, u8, u9, rfl, at6, S6, k6, T6⟩ ⟨rfl, hy⟩
        have ex := hy _ (SqL.of at6)
        rw [List.getElem?_map, List.getElem?_eq_getElem lt] at ex
        cases ex
        have lz0 := mu _ (List.getElem_mem lt)
        obtain ⟨z, ez⟩ : ∃ z, us[j] = z := ⟨_, rfl⟩
        rw [ez] at lz0 ⊢
        obtain ⟨l, rfl⟩ : ∃ l, z = tS l := ⟨z.cps.toList, (SX.S_tl z).symm⟩
        have ll : l.length ≤ 20000 := by rw [tS_len] at lz0; exact lz0
        dsimp only [tSeq]
        have noE : ∀ {e : Int × Int} {rows : List (List Int)}, picOf (tS l) = .ok rows → picOf (tS l) = .error e → False := fun h1 h2 => by
          rw [h1] at h2
          cases h2
        have done : ∀ {H9 : Hp}, ExtN H6 H9 → Tabs T H9 → H9 M = some (.lst (us.map V.str)) ∧ StA H9 a q n' ∧ KpN H H9 a q ∧ Tabs T H9 := fun {H9} e t9 => ⟨e _ _ at6 (fun _ w => nomatch w), S6.n e, k6.trans (.ext e), t9⟩
        have b2 : 2 ≤ sizeLine := by omega
        cases hp : picOf (tS l) with
        | ok rows =>
          refine ⟨_, rfl, l, rfl, by omega, fun r1 H7 _ s7 => ?_, fun ln sg _ _ e => (noE hp e).elim⟩
          have T7 := T6.ext s7
          refine ⟨T7, fun H8 e8 T8 => ?_⟩
          refine ⟨_, rfl, .str (tS l), rfl, .inl ⟨tS l, rfl, by rw [tS_len]; omega, fun r2 p2 qs2 H9 _ s9 _ _ _ _ => ⟨b2, fun tt ntt => ⟨_, _, rfl, ?_⟩⟩, fun ln sg e => (noE hp e).elim⟩⟩
          have s10 : Same H9 (upd H9 tt (.tup [.str "told", .ref p2])) := same_new ntt
          have at10 : (upd H9 tt (.tup [.str "told", .ref p2])) tt = some (.tup [.str "told", .ref p2]) := upd_same
          generalize upd H9 tt (.tup [.str "told", .ref p2]) = H10 at s10 at10 ⊢
          have s810 : Same H8 H10 := Same.trans s9 s10
          dsimp only [tSeq]
          refine ⟨_, rfl, .str (tS l), rfl, .inl ⟨tS l, rfl, by rw [tS_len]; omega, fun r3 H11 _ s11 => ?_, fun ln sg _ _ e => (noE hp e).elim⟩⟩
          refine ⟨by show 1 ≤ sizeLine; omega, fun p4 n4 => ?_⟩
          have s12 : Same H11 (upd H11 p4 (.lst [.non])) := same_new n4
          have at12 : (upd H11 p4 (.lst [.non])) p4 = some (.lst [.non]) := upd_same
          generalize upd H11 p4 (.lst [.non]) = H12 at s12 at12 ⊢
          refine ⟨_, rfl, by show 1 ≤ sizeLine; omega, fun p5 n5 => ?_⟩
          have s13 : Same H12 (upd H12 p5 (.lst [.non])) := same_new n5
          refine ⟨.ref p4, .ref p5, .list [.none], .list [.none], rfl, .lst (SqL.of (s13 _ _ at12)) (.cons .non .nil), .lst (SqL.of upd_same) (.cons .non .nil), rfl, (by show 1 < 5; decide), fun H14 s14 => ⟨_, rfl, ?_⟩⟩
          have s1014 : Same H10 H14 := Same.trans s11 (Same.trans s12 (Same.trans s13 s14))
          rw [sameE_refl]
          refine iteF ?_
          refine ⟨_, rfl, tt, _, 0, _, rfl, rfl, SqT.of (s1014 _ _ at10), atI_nat (j := 0) rfl, rfl, _, rfl, rfl, _, rfl, ?_⟩
          have en : (!decide (V.bl (decide (V.str "told" = V.str "told")) = V.bl (decide (V.non = V.non)))) = false := by decide
          rw [en]
          refine iteF ?_
          refine ⟨_, rfl, _, rfl, ?_⟩
          have en2 : (!decide (V.non = V.non)) = false := by decide
          rw [en2]
          refine iteF (iteF ?_)
          have e14 : ExtN H6 H14 := (ExtN.of s7).trans (e8.trans (ExtN.of (Same.trans s810 s1014)))
          exact ⟨_, _, _, _, _, _, rfl, done e14 (T8.ext (Same.trans s810 s1014))⟩
        | error e =>
          obtain ⟨ln, sg⟩ := e
          have noO : ∀ {rows : List (List Int)}, picOf (tS l) = .ok rows → False := fun h1 => by
            rw [h1] at hp
            cases hp
          refine ⟨_, rfl, l, rfl, by omega, fun r1 H7 e1 _ => (noO e1).elim, fun ln1 sg1 p1 H7 e1 s7 at7 => ?_⟩
          rw [hp] at e1
          cases e1
          have T7 := T6.ext s7
          refine ⟨T7, fun H8 e8 T8 => ?_⟩
          have at8 := e8 _ _ at7 (fun _ w => nomatch w)
          refine ⟨_, rfl, .str (tS l), rfl, .inl ⟨tS l, rfl, by rw [tS_len]; omega, fun r2 p2 qs2 H9 e1 _ _ _ _ _ => (noO e1).elim, fun ln2 sg2 e1 d H9 nd s9 hd => ?_⟩⟩
          rw [hp] at e1
          cases e1
          refine .inr ⟨rfl, d, ln, sg, rfl, hd, fun tt t1 H10 s10 ht1 htt => ⟨_, _, rfl, ?_⟩⟩
          have s810 : Same H8 H10 := Same.trans s9 s10
          have at10 := s810 _ _ at8
          dsimp only [tSeq]
          refine ⟨_, rfl, .str (tS l), rfl, .inl ⟨tS l, rfl, by rw [tS_len]; omega, fun r3 H11 e1 _ => (noO e1).elim, fun ln3 sg3 p3 H11 e1 s11 at11 => ?_⟩⟩
          rw [hp] at e1
          cases e1
          refine ⟨by show 1 ≤ sizeLine; omega, fun p4 n4 => ?_⟩
          have s12 : Same H11 (upd H11 p4 (.lst [.ref p3])) := same_new n4
          have at12 : (upd H11 p4 (.lst [.ref p3])) p4 = some (.lst [.ref p3]) := upd_same
          generalize upd H11 p4 (.lst [.ref p3]) = H12 at s12 at12 ⊢
          refine ⟨_, rfl, by show 1 ≤ sizeLine; omega, fun p5 n5 => ?_⟩
          have s13 : Same H12 (upd H12 p5 (.lst [.ref p1])) := same_new n5
          have s1013 := Same.trans s11 (Same.trans s12 s13)
          refine ⟨.ref p4, .ref p5, .list [.tuple [.int ln, .int sg]], .list [.tuple [.int ln, .int sg]], rfl, .lst (SqL.of (s13 _ _ at12)) (.cons (.tup (SqT.of (s13 _ _ (s12 _ _ at11))) (.cons (.int _) (.cons (.int _) .nil))) .nil), .lst (SqL.of upd_same) (.cons (.tup (SqT.of (s1013 _ _ at10)) (.cons (.int _) (.cons (.int _) .nil))) .nil), rfl, (by show 2 < 5; decide), fun H14 s14 => ⟨_, rfl, ?_⟩⟩
          have s1014 : Same H10 H14 := Same.trans s1013 s14
          rw [sameE_refl]
          refine iteF ?_
          refine ⟨_, rfl, tt, _, 0, _, rfl, rfl, SqT.of (s1014 _ _ htt), atI_nat (j := 0) rfl, rfl, _, rfl, rfl, _, rfl, ?_⟩
          have en : (!decide (V.bl (decide (V.str "text" = V.str "told")) = V.bl (decide (V.ref p1 = V.non)))) = false := by
            have e1 : decide (V.str "text" = V.str "told") = false := by decide
            have e2 : decide (V.ref p1 = V.non) = false := decide_eq_false fun z => nomatch z
            rw [e1, e2]
            rfl
          rw [en]
          refine iteF ?_
          refine ⟨_, rfl, _, rfl, ?_⟩
          have en2 : (!decide (V.ref p1 = V.non)) = true := by
            have e2 : decide (V.ref p1 = V.non) = false := decide_eq_false fun z => nomatch z
            rw [e2]
            rfl
          rw [en2]
          refine iteT ⟨_, rfl, _, rfl, b2, fun p6 n6 => ?_⟩
          have s15 : Same H14 (upd H14 p6 (.tup [.str "text", .ref p1])) := same_new n6
          have s1015 := Same.trans s1014 s15
          refine ⟨.ref tt, .ref p6, .tuple [.str "text", .tuple [.int ln, .int sg]], .tuple [.str "text", .tuple [.int ln, .int sg]], rfl, .tup (SqT.of (s1015 _ _ htt)) (.cons (.str _) (.cons (.tup (SqT.of (s1015 _ _ ht1)) (.cons (.int _) (.cons (.int _) .nil))) .nil)), .tup (SqT.of upd_same) (.cons (.str _) (.cons (.tup (SqT.of (s1015 _ _ at10)) (.cons (.int _) (.cons (.int _) .nil))) .nil)), rfl, (by show 2 < 5; decide), fun H16 s16 => ⟨_, rfl, ?_⟩⟩
          rw [sameE_refl]
          refine iteF ?_
          have s816 : Same H8 H16 := Same.trans s810 (Same.trans s1015 s16)
          exact ⟨_, _, _, _, _, _, rfl, done ((ExtN.of s7).trans (e8.trans (ExtN.of s816))) (T8.ext s816)⟩
      · rintro σ H6 ⟨u4, u5, u6, u7, u8, u9, rfl, at6, S6, k6, T6⟩
        exact kk H6 n' (by omega) S6 k6 T6
end
end Mine
namespace Mine
open PySem L2 PySem.Spec PyProof.Rows Pic LamX
/-! ### data over changes -/
theorem sqL_e {K : PySem.W.Frag} {H H' : Hp} {a : Addr} {xs : List V} (k : ExtN H H') (h : SqL K H a xs) : SqL K H' a xs := by
  rcases h with (h | ⟨o, h⟩) | h
  · exact .inl (.inl (k _ _ h fun _ w => nomatch w))
  · exact .inl (.inr ⟨o, k _ _ h fun _ w => nomatch w⟩)
  · exact .inr h
theorem sqT_e {K : PySem.W.Frag} {H H' : Hp} {a : Addr} {xs : List V} (k : ExtN H H') (h : SqT K H a xs) : SqT K H' a xs := by
  rcases h with (h | ⟨o, h⟩) | h
  · exact .inl (.inl (k _ _ h fun _ w => nomatch w))
  · exact .inl (.inr ⟨o, k _ _ h fun _ w => nomatch w⟩)
  · exact .inr h
mutual
theorem de_e {K : PySem.W.Frag} {H H' : Hp} (k : ExtN H H') : ∀ {v : V} {d : PyData}, De K H v d → De K H' v d
  | _, _, .non => .non
  | _, _, .bl b => .bl b
  | _, _, .int i => .int i
  | _, _, .str x => .str x
  | _, _, .lst s t => .lst (sqL_e k s) (deAll_e k t)
  | _, _, .tup s t => .tup (sqT_e k s) (deAll_e k t)
  | _, _, .dct s => .dct (k _ _ s fun _ w => nomatch w)
theorem deAll_e {K : PySem.W.Frag} {H H' : Hp} (k : ExtN H H') : ∀ {vs : List V} {ds : List PyData}, DeAll K H vs ds → DeAll K H' vs ds
  | _, _, .nil => .nil
  | _, _, .cons a t => .cons (de_e k a) (deAll_e k t)
end
mutual
def noL : PyData → Bool
  | .list _ => false
  | .dict _ => false
  | .tuple ds => noLAll ds
  | _ => true
def noLAll : List PyData → Bool
  | [] => true
  | d :: ds => noL d && noLAll ds
end
theorem sqT_ut {K : PySem.W.Frag} {H : Hp} {L a : Addr} {xs ys : List V} {o : HO} (e : H L = some (.lst ys)) (h : SqT K H a xs) : SqT K (upd H L o) a xs := by
  rcases h with (h | ⟨p, h⟩) | h
  · have n : a ≠ L := fun w => by
      rw [w, e] at h
      cases h
    exact .inl (.inl (by rw [upd_ne n]; exact h))
  · have n : a ≠ L := fun w => by
      rw [w, e] at h
      cases h
    exact .inl (.inr ⟨p, by rw [upd_ne n]; exact h⟩)
  · exact .inr h
mutual
theorem de_ut {K : PySem.W.Frag} {H : Hp} {L : Addr} {ys : List V} {o : HO} (e : H L = some (.lst ys)) : ∀ {v : V} {d : PyData}, De K H v d → noL d = true → De K (upd H L o) v d
  | _, _, .non, _ => .non
  | _, _, .bl b, _ => .bl b
  | _, _, .int i, _ => .int i
  | _, _, .str x, _ => .str x
  | _, _, .lst _ _, z => Bool.noConfusion z
  | _, _, .tup s t, z => .tup (sqT_ut e s) (deAll_ut e t z)
  | _, _, .dct _, z => Bool.noConfusion z
theorem deAll_ut {K : PySem.W.Frag} {H : Hp} {L : Addr} {ys : List V} {o : HO} (e : H L = some (.lst ys)) : ∀ {vs : List V} {ds : List PyData}, DeAll K H vs ds → noLAll ds = true → DeAll K (upd H L o) vs ds
  | _, _, .nil, _ => .nil
  | _, _, .cons a t, z => .cons (de_ut e a (Bool.and_eq_true_iff.mp z).1) (deAll_ut e t (Bool.and_eq_true_iff.mp z).2)
end
theorem deAll_app {K : PySem.W.Frag} {H : Hp} : ∀ {vs us : List V} {ds es : List PyData}, DeAll K H vs ds → DeAll K H us es → DeAll K H (vs ++ us) (ds ++ es)
  | _, _, _, _, .nil, x => x
  | _, _, _, _, .cons a t, x => .cons a (deAll_app t x)
/-! ### what makes data -/
def Mk (K : PySem.W.Frag) (σ : L2.St) (H0 : Hp) (t : TE) (d : PyData) : Prop := ∀ (H : Hp) (Q : VK), Same H0 H → (∀ v H', Same H H' → De K H' v d → Q v H') → t σ H Q
def MkA (K : PySem.W.Frag) (σ : L2.St) (H0 : Hp) (t : TA) (ds : List PyData) : Prop := ∀ (H : Hp) (Q : List V → Hp → Prop), Same H0 H → (∀ vs H', Same H H' → DeAll K H' vs ds → Q vs H') → t σ H Q
section
variable {K : PySem.W.Frag} {σ : L2.St} {H0 : Hp}
theorem mk_c {v : V} {d : PyData} (h : ∀ H, De K H v d) : Mk K σ H0 (tC v) d := fun H Q _ k => k v H (Same.refl _) (h H)
theorem mk_s (x : Str) : Mk K σ H0 (tC (.str x)) (.str x) := mk_c fun _ => .str x
theorem mk_i (x : Int) : Mk K σ H0 (tC (.int x)) (.int x) := mk_c fun _ => .int x
theorem mk_b (x : Bool) : Mk K σ H0 (tC (.bl x)) (.bool x) := mk_c fun _ => .bl x
theorem mk_n : Mk K σ H0 (tC .non) .none := mk_c fun _ => .non
theorem mk_v {i : Nat} {v : V} {d : PyData} (hs : σ[i]? = some (some v)) (h : De K H0 v d) : Mk K σ H0 (tVar i) d := fun H Q s k => ⟨v, hs, k v H (Same.refl _) (de_s s h)⟩
theorem mka_nil : MkA K σ H0 tNil [] := fun H Q _ k => k [] H (Same.refl _) .nil
theorem mka_cons {t : TE} {ts : TA} {d : PyData} {ds : List PyData} (h : Mk K σ H0 t d) (hs : MkA K σ H0 ts ds) : MkA K σ H0 (tCons t ts) (d :: ds) := fun H Q s k =>
  h H _ s fun v H1 s1 dv => hs H1 _ (Same.trans s s1) fun vs H2 s2 dvs => k (v :: vs) H2 (Same.trans s1 s2) (.cons (de_s s2 dv) dvs)
theorem mk_tup {ts : TA} {ds : List PyData} (h : MkA K σ H0 ts ds) (l : ds.length ≤ 1000) : Mk K σ H0 (tTup ts) (.tuple ds) := fun H Q s k =>
  h H _ s fun vs H1 s1 dvs => ⟨by have := deAll_len dvs; have big : 1000 ≤ sizeLine := by decide
                                  omega, fun p np => k (.ref p) _ (Same.trans s1 (same_new np)) (.tup (SqT.of upd_same) (deAll_s (same_new np) dvs))⟩
theorem mk_lst {ts : TA} {ds : List PyData} (h : MkA K σ H0 ts ds) (l : ds.length ≤ 1000) : Mk K σ H0 (tLst ts) (.list ds) := fun H Q s k =>
  h H _ s fun vs H1 s1 dvs => ⟨by have := deAll_len dvs; have big : 1000 ≤ sizeLine := by decide
                                  omega, fun p np => k (.ref p) _ (Same.trans s1 (same_new np)) (.lst (SqL.of upd_same) (deAll_s (same_new np) dvs))⟩
theorem mk_dct : Mk K σ H0 tDNewK (.dict []) := fun H Q s k p np => k (.ref p) _ (same_new np) (.dct upd_same)
end
/-! ### what is due of given texts -/
def faultD (t : Str) : PyData := match picOf t with
  | .ok _ => .none
  | .error (l, s) => .tuple [.int l, .int s]
def two (l s : Int) : PyData := .tuple [.int l, .int s]
def given1 : List (Str × PyData) := [("", .none), ("\n", two 1 1), ("1 2\n3", two 2 2), ("1 2\n3\n", two 2 2), ("1 2\n3 4 5\n", two 2 4)]
def given2 : List (Str × PyData) := [("1  2\n", two 1 3), ("1 \n", two 1 3), (" 1\n", two 1 1), ("01\n", two 1 2), ("-0\n", two 1 2)]
def given3 : List (Str × PyData) := [("1\n2\n", .none), ("1\n2 3\n", two 2 2), ("1234567890123456\n", .none)]
def givenA : List (Str × PyData) := [("-", two 1 2)]
def givenB : List (Str × PyData) := [("1", two 1 2)]
def givenC : List (Str × PyData) := [("12345678901234567", two 1 17)]
def given : List (Str × PyData) := given1 ++ givenA ++ given2 ++ givenB ++ given3 ++ givenC
theorem given_ok : given.map (fun p => faultD p.1) = given.map (·.2) := by rfl
/-- a given pair -/
def pairD (p : Str × PyData) : PyData := .tuple [.str p.1, p.2]
theorem noText {K : PySem.W.Frag} {H : Hp} {v : V} {d : PyData} (h : De K H v d) (k : kitB (tyD d) "str" = some false) : NoText K H v := ⟨_, fun _ s => de_ty (de_s s h), kit_ty k⟩
end Mine
namespace Mine
open PySem L2 PySem.Spec PyProof.Rows Pic LamX
section
variable {K : PySem.W.Frag} {σ : L2.St} {H H0 : Hp} {Q : VK} {L : Addr} {vs : List V} {g g2 : List (Str × PyData)} {t : Str} {d : PyData} {x : TE} {ts : TA}
theorem mkTwo (l s : Int) : Mk K σ H0 (tTup (tCons (tC (.int l)) (tCons (tC (.int s)) tNil))) (two l s) := mk_tup (mka_cons (mk_i l) (mka_cons (mk_i s) mka_nil)) (by show 2 ≤ 1000; decide)
theorem mkP (h : Mk K σ H0 x d) : Mk K σ H0 (tTup (tCons (tC (.str t)) (tCons x tNil))) (pairD (t, d)) := mk_tup (mka_cons (mk_s t) (mka_cons h mka_nil)) (by show 2 ≤ 1000; decide)
/-- an append to the list in slot 6 -/
theorem st_app (hs : σ[6]? = some (some (.ref L))) (hL : H L = some (.lst vs)) (dv : DeAll K H vs (g.map pairD)) (hx : Mk K σ H x d) (len : g.length ≤ 1000) (nl : noLAll ((g ++ [(t, d)]).map pairD) = true)
    (k : ∀ us H', H' L = some (.lst us) → DeAll K H' us ((g ++ [(t, d)]).map pairD) → (∀ b o, H b = some o → b ≠ L → H' b = some o) → Q .non H') : tBM K "list" rAppend (tVar 6) (tCons (tTup (tCons (tC (.str t)) (tCons x tNil))) tNil) σ H Q := by
  have big : 1000000 ≤ sizeLine := by decide
  refine ⟨_, hs, .inl ⟨rfl, _, SqL.of hL⟩, ?_⟩
  refine (mka_cons (mkP hx) mka_nil) H _ (Same.refl _) fun us H1 s1 dus => ?_
  cases dus with
  | cons du dn =>
    cases dn
    have lv := deAll_len dv
    rw [List.length_map] at lv
    refine ⟨L, vs, _, rfl, rfl, s1 _ _ hL, by omega, k _ _ upd_same (deAll_ut (s1 _ _ hL) ?_ nl) fun b o e n => by rw [upd_ne n]; exact s1 _ _ e⟩
    rw [List.map_append]
    exact deAll_app (deAll_s s1 dv) (.cons du .nil)
theorem st_ext (hs : σ[6]? = some (some (.ref L))) (hL : H L = some (.lst vs)) (dv : DeAll K H vs (g.map pairD)) (hx : MkA K σ H ts (g2.map pairD)) (len : g.length ≤ 1000) (len2 : g2.length ≤ 1000) (nl : noLAll ((g ++ g2).map pairD) = true)
    (k : ∀ us H', H' L = some (.lst us) → DeAll K H' us ((g ++ g2).map pairD) → (∀ b o, H b = some o → b ≠ L → H' b = some o) → Q .non H') : tBM K "list" rExtend (tVar 6) (tCons (tLst ts) tNil) σ H Q := by
  have big : 1000000 ≤ sizeLine := by decide
  refine ⟨_, hs, .inl ⟨rfl, _, SqL.of hL⟩, ?_⟩
  refine hx H _ (Same.refl _) fun us H1 s1 dus => ?_
  have lv := deAll_len dv
  have lu := deAll_len dus
  rw [List.length_map] at lv lu
  refine ⟨by omega, fun b nb => ?_⟩
  have s2 : Same H1 (upd H1 b (.lst us)) := same_new nb
  have hL2 := s2 _ _ (s1 _ _ hL)
  refine ⟨L, b, vs, us, rfl, rfl, hL2, upd_same, by omega, k _ _ upd_same (deAll_ut hL2 ?_ nl) fun b' o e n => by rw [upd_ne n]; exact s2 _ _ (s1 _ _ e)⟩
  rw [List.map_append]
  exact deAll_app (deAll_s (Same.trans s1 s2) dv) (deAll_s s2 dus)
theorem noL_get : ∀ {ds : List PyData}, noLAll ds = true → ∀ i, noLAll (ds.take i) = true
  | [], _, i => by rw [List.take_nil]; rfl
  | d :: ds, h, 0 => rfl
  | d :: ds, h, i + 1 => by
    obtain ⟨h1, h2⟩ := Bool.and_eq_true_iff.mp (show (noL d && noLAll ds) = true from h)
    show (noL d && noLAll (ds.take i)) = true
    rw [h1, noL_get h2 i]
    rfl
/-- a list made of each of the given pairs -/
theorem lc_given {te : TE} (f : Str × PyData → PyData) (hs : σ[6]? = some (some (.ref L))) (hx : SqA K H L vs) (dv : DeAll K H vs (g.map pairD)) (nl : noLAll (g.map f) = true) (len : g.length ≤ 1000) (w : ∀ a b : V, wipe (((wipe σ [11, 12]).set 11 (some a)).set 12 (some b)) [11, 12] = wipe σ [11, 12])
    (turn : ∀ (t : Str) (d : PyData) (y : V) (H' : Hp) (R : VK), (t, d) ∈ g → De K H' y d → (∀ v H2, Same H' H2 → De K H2 v (f (t, d)) → R v H2) → te (((wipe σ [11, 12]).set 11 (some (.str t))).set 12 (some y)) H' R)
    (hd : ∀ D us H', Same H H' → H' D = some (.lst us) → DeAll K H' us (g.map f) → Q (.ref D) H') : tLc (iSeq K 6) (gTup K 2 (gCons (gName 11) (gCons (gName 12) gNil))) tYes te [11, 12] σ H Q := by
  have big : 1000000 ≤ sizeLine := by decide
  have lv := deAll_len dv
  rw [List.length_map] at lv
  refine iSeq_of hs (Same.refl H) hx fun J go stop yld D hD => ?_
  refine lc_any (n := vs.length) (fun i H2 => ∃ acc, H2 D = some (.lst acc) ∧ acc.length = i ∧ DeAll K H2 acc ((g.map f).take i) ∧ Same H H2) ⟨[], upd_same, rfl, .nil, same_new hD⟩ (fun i H2 lt p => by obtain ⟨_, _, _, _, s2⟩ := p; exact go i H2 s2 lt) (fun H2 p => by obtain ⟨_, _, _, _, s2⟩ := p; exact stop H2 s2) ?_ ?_
  · rintro i H2 x H3 lt ⟨acc, atD, la, da, s2⟩ y
    obtain ⟨rfl, ex⟩ := yld i H2 x H3 s2 y
    obtain ⟨dp, ed, hdp⟩ := deAll_get dv ex
    rw [List.getElem?_map] at ed
    cases eg : g[i]? with
    | none =>
      rw [eg] at ed
      cases ed
    | some p =>
      rw [eg] at ed
      cases ed
      obtain ⟨t, d⟩ := p
      cases hdp with
      | @tup q xs _ hq hqs =>
        cases hqs with
        | cons h1 hr =>
          cases hr with
          | cons h2 hn =>
            cases hn
            cases h1
            rename_i y
            refine ⟨q, _, rfl, sq_s s2 hq, rfl, ?_⟩
            refine ⟨_, _, rfl, _, _, rfl, rfl, w _ _, ?_⟩
            dsimp only [tYes]
            rw [if_pos rfl]
            refine turn t d y _ _ (List.mem_of_getElem? eg) (de_s s2 h2) fun v H4 s4 dv4 => ⟨acc, s4 _ _ atD, by omega, acc ++ [v], upd_same, by rw [List.length_append, la]; rfl, ?_, fun b o e => ?_⟩
            · have et : (g.map f).take (i + 1) = (g.map f).take i ++ [f (t, d)] := by
                rw [List.take_succ, List.getElem?_map, eg]
                rfl
              have z := deAll_app (deAll_s s4 da) (.cons dv4 .nil)
              rw [← et] at z
              exact deAll_ut (s4 _ _ atD) z (noL_get nl _)
            · rw [upd_ne (ne_of_none e hD)]
              exact s4 _ _ (s2 _ _ e)
  · rintro H2 ⟨acc, atD, la, da, s2⟩
    rw [List.take_of_length_le (by rw [List.length_map]; omega)] at da
    exact hd D acc H2 s2 atD da
end
end Mine
namespace Mine
open PySem L2 PySem.Spec PyProof.Rows Pic LamX
abbrev sLaw : Stmt := top 42
structure TLw (mg : Str → Option Value) : Prop where
  range : mg "range" = none
  str : mg "str" = none
section
variable {w : World} {P : Program} {base : Heap} {K : PySem.W.Frag} {mg : Str → Option Value} {BP BT : Addr}
theorem scLaw : FnScope ["_law_script", "_law_stream", "_law_turn", "_law_picture", "_law_odds", "_law_met_here", "_law_some", "_law_held", "_law_odd", "_law_row", "_law_one", "_law_text", "_law_due"] ["_law_script"] (defScope sLaw) := ⟨rfl, rfl, rfl, by decide +kernel, rfl, by decide +kernel, by decide +kernel⟩
def spLaw (K : PySem.W.Frag) (T : List (Addr × Str)) : Sp := fun vs H Q _ => ∃ (a : Addr) (ns : List Int), vs = [.ref a] ∧ SqL K H a (ns.map V.int) ∧ Tabs T H ∧ ∀ H', Q (.bl true) H'
/-- what the law leans on -/
structure Lean4 (P : Program) (w : World) (K : PySem.W.Frag) (mg : Str → Option Value) (base : Heap) (BP BT : Addr) (T : List (Addr × Str)) : Prop where
  A : Kn P w K mg base CX0 1 "_law_start" ["_law_script"] (spStart K)
  D : Kn P w K mg base CX0 1 "_law_draw" ["_law_stream", "_law_many"] spDraw
  N : Kn P w K mg base CX0 4 "_law_drawn" ["_law_stream", "_law_rows", "_law_columns"] spDrawn
  Y : ∃ (f : Addr) (fd : FuncData), FnG P w K mg base 11 f fd ["_law_stream", "_law_given"] spRight ∧ mg "_law_text_right" = some (.ref f) ∧ PySem.W.keepIn K (.ref f) = true ∧ Binds K fd ["_law_stream", "_law_given"] []
  Z : Kn P w K mg base CX0 11 "_law_strings_right" ["_law_stream", "_law_text"] (spStr T)
  S : Kn P w K mg base CX0 5 "_law_same" ["_law_found", "_law_due"] (spSameE K 5)
  U : Kn P w K mg base CX0 6 "_law_same" ["_law_found", "_law_due"] (spSameE K 6)
  Sp : Kn P w K mg base CX0 3 "_law_a_spoiled" ["_law_thing"] (spSpoil K 3)
  T : KnK P w K mg base (L2.CX P w) 4 "picture_text" "picture" (spPicT K BP)
  R : KnK P w K mg base (L2.CX P w) 8 "read_picture" "text" (spPicR K BT)
  F : KnK P w K mg base CX0 10 "picture_fault" "text" (spPicF K)
  X : TLw mg
theorem st_next {D : Ends} {σ : L2.St} {H : Hp} (h : D.nx σ H) : tNext D σ H := h
theorem st_seq {a b : TS} {D : Ends} {σ : L2.St} {H : Hp} (h : a { D with nx := b D } σ H) : tSeq a b D σ H := h
theorem st_asg {te : TE} {g : TG} {D : Ends} {σ : L2.St} {H : Hp} (h : te σ H fun x H1 => g x σ H1 D.nx) : tAsg te g D σ H := h
theorem st_drop {te : TE} {D : Ends} {σ : L2.St} {H : Hp} (h : te σ H fun _ H1 => D.nx σ H1) : tDrop te D σ H := h
theorem st_ret {te : TE} {D : Ends} {σ : L2.St} {H : Hp} (h : te σ H D.rt) : tRet te D σ H := h
theorem st_ifs {c : TT} {t u : TS} {D : Ends} {σ : L2.St} {H : Hp} (h : c σ H fun b H1 => if b = true then t D σ H1 else u D σ H1) : tIfS c t u D σ H := h
theorem st_name {i : Nat} {v : V} {σ : L2.St} {H : Hp} {Q : L2.St → Hp → Prop} (h : Q (σ.set i (some v)) H) : gName i v σ H Q := h
theorem st_for {wi : TI} {g : TG} {tb : TS} {D : Ends} {σ : L2.St} {H : Hp} (h : wi σ H fun J H1 => ∃ W : Nat → Nat → L2.St → Hp → Prop, (∃ m, W 0 m σ H1) ∧
      ∀ i m σ H, W i m σ H → (J.stop i H ∧ D.nx σ H) ∨ (J.go i H ∧ ∃ N : L2.St → Hp → Prop, (∀ σ' H', N σ' H' → ∃ m', m' < m ∧ W (i + 1) m' σ' H') ∧ ∀ x H', J.yld i H x H' → g x σ H' fun σ2 H2 => tb { D with nx := N, ct := N, bk := D.nx } σ2 H2)) : tFor wi g tb D σ H := h
theorem st_itup {K : PySem.W.Frag} {tl : TE} {σ : L2.St} {H : Hp} {R : It → Hp → Prop} (h : tl σ H fun x H1 => ∃ a, x = .ref a ∧ (∃ xs, SqT K H1 a xs) ∧ R (Itt K a) H1) : iTup K tl σ H R := h
theorem st_lst {ts : TA} {σ : L2.St} {H : Hp} {Q : VK} (h : ts σ H fun xs H1 => xs.length ≤ sizeLine ∧ ∀ p, H1 p = none → Q (.ref p) (upd H1 p (.lst xs))) : tLst ts σ H Q := h
theorem st_not {t : TT} {σ : L2.St} {H : Hp} {Q : Bool → Hp → Prop} (h : t σ H fun c H1 => Q (!c) H1) : tNot t σ H Q := h
theorem st_b {t : TE} {σ : L2.St} {H : Hp} {Q : Bool → Hp → Prop} (h : t σ H fun x H1 => ∃ c, x = .bl c ∧ Q c H1) : tB t σ H Q := h
theorem st_call {sp : Sp} {dvs : List V} {E : XK} {ta : TA} {σ : L2.St} {H : Hp} {Q : VK} (h : ta σ H fun vs H1 => sp (vs ++ dvs) H1 Q E) : tCall sp dvs E ta σ H Q := h
theorem st_cons {t : TE} {ts : TA} {σ : L2.St} {H : Hp} {Q : List V → Hp → Prop} (h : t σ H fun x H1 => ts σ H1 fun xs H2 => Q (x :: xs) H2) : tCons t ts σ H Q := h
theorem given_len : ∀ p ∈ given, p.1.length ≤ 100000 := by decide +kernel
theorem empty_ok : picOf "" = .ok [] := by rfl
theorem ok_law {f c Pt : Addr} {fd : FuncData} {T : List (Addr × Str)} (F : FunC K "law" "law" sLaw f fd c) (TB : TabB base mg c Pt) (hm : (Pt, ("law" ++ ".<locals>." : Str) ++ "<lambda>") ∈ T) (hu : ∀ p ∈ T, p.1 = Pt → p.2 = ("law" ++ ".<locals>." : Str) ++ "<lambda>")
    {fM : Addr} {fdM : FuncData} (FM : Fun K "_law_met" "_law_met" sMet fM fdM) (gM : mg "_law_met" = some (.ref fM)) (bM : Binds K fdM ["_law_ask"] []) (M : MetT K mg BP BT) (LE : Lean4 P w K mg base BP BT T) : FnG P w K mg base 12 f fd ["_law_script"] (spLaw K T) := by
  obtain ⟨fA, fdA, GA, gA, kA, bA⟩ := LE.A
  obtain ⟨fD, fdD, GD, gD, kD, bD⟩ := LE.D
  obtain ⟨fN, fdN, GN, gN, kN, bN⟩ := LE.N
  obtain ⟨fY, fdY, GY, gY, kY, bY⟩ := LE.Y
  obtain ⟨fZ, fdZ, GZ, gZ, kZ, bZ⟩ := LE.Z
  obtain ⟨fS, fdS, GS, gS, kS, bS⟩ := LE.S
  obtain ⟨fU, fdU, GU, gU, kU, bU⟩ := LE.U
  obtain ⟨fP, fdP, GP, gP, kP, bP⟩ := LE.Sp
  obtain ⟨fT, fdT, GT, gT, kT, bT, nT⟩ := LE.T
  obtain ⟨fR, fdR, GR, gR, kR, bR, nR⟩ := LE.R
  obtain ⟨fF, fdF, GF, gF, kF, bF, nF⟩ := LE.F
  have X := LE.X
  clear LE
  refine FunC.okG F scLaw (fun vs H Q E h => ?_) (fun A outer s H vs Q E hr hg h => ?_)
  · obtain ⟨a, ns, rfl, _⟩ := h
    rfl
  · obtain ⟨sa, ns, rfl, hS, hT, kk⟩ := h
    obtain ⟨ocM, odM, kVM, docM, pmM, anM, cdvM, ctM, oslM, rfl, lkM, hcdM⟩ := FM.ex
    refine ⟨_, (pss_cons (ps_set (i := 1) scLaw.nd rfl (Or.inl rfl) (pe_call GA (hr.mono (by decide)) (by rfl) gA kA bA .nil pass0 (pa_cons (pv 0) pa_nil)))
      (pss_cons (ps_for PassesOwn.never rfl (pi_range1 rfl X.range (pa_cons pe_int pa_nil)) (pg_name (i := 2) scLaw.nd rfl (Or.inl rfl))
        (pss_cons (ps_set (i := 3) scLaw.nd rfl (Or.inl rfl) (pe_ifExp (pt_cmpR op_gt (pv 2) pe_int (nomark _)) (pe_call GN (hr.mono (by decide)) (by rfl) gN kN bN .nil pass0 (pa_cons (pv 1) (pa_cons (pe_op op_add pe_int (pe_call GD (hr.mono (by decide)) (by rfl) gD kD bD .nil pass0 (pa_cons (pv 1) (pa_cons pe_int pa_nil)))) (pa_cons (pe_op op_add pe_int (pe_call GD (hr.mono (by decide)) (by rfl) gD kD bD .nil pass0 (pa_cons (pv 1) (pa_cons pe_int pa_nil)))) pa_nil)))) (pe_lst pa_nil)))
      (pss_cons (ps_if (pt_not (pt_val (pe_callG GY hr hg (by rfl) gY kY bY (pa_cons (pv 1) (pa_cons (pv 3) pa_nil))))) (pss_one (ps_ret pe_bl)) pss_nil)
      (pss_one (ps_if (pt_not (pt_val (pe_call GZ hr (by rfl) gZ kZ bZ .nil pass0 (pa_cons (pv 1) (pa_cons (pe_join pe_str (pe_lc (own := [("_law_row", 9)]) (g := gName 9) (tt := tYes) (te := tRowT K 9 10) rfl scLaw.nd (pi_seq (pv 3)) (blkOk_by (own := [("_law_row", 9)]) (N := ["_law_script", "_law_stream", "_law_turn", "_law_picture", "_law_odds", "_law_met_here", "_law_some", "_law_held", "_law_odd", "_law_row", "_law_one", "_law_text", "_law_due"]) (sc := defScope sLaw) (by decide +kernel)) (fun _ _ _ _ _ => pg_name (i := 9) scLaw.nd rfl (Or.inl rfl)) (fun _ _ _ _ _ => pts_nil)
          (fun _ _ _ _ _ => pe_op op_add_str (pe_join pe_str (pe_lc (own := [("_law_one", 10)]) (g := gName 10) (tt := tYes) (te := tCB rStrI (tCons (tVar 10) tNil)) rfl scLaw.nd (pi_seq (pv 9)) (blkOk_by (own := [("_law_one", 10)]) (by rfl)) (fun _ _ _ _ _ => pg_name (i := 10) scLaw.nd rfl (Or.inl rfl)) (fun _ _ _ _ _ => pts_nil)
            (fun _ _ _ _ _ => pe_callTy call_str_int (by rfl) X.str (by decide +kernel) (pa_cons (pv 10) pa_nil)))) pe_str))) pa_nil))))) (pss_one (ps_ret pe_bl)) pss_nil)))))
      (pss_cons (ps_if (pt_not (pt_val (pe_callG GY hr hg (by rfl) gY kY bY (pa_cons (pv 1) (pa_cons (pe_call GN (hr.mono (by decide)) (by rfl) gN kN bN .nil pass0 (pa_cons (pv 1) (pa_cons pe_int (pa_cons pe_int pa_nil)))) pa_nil))))) (pss_one (ps_ret pe_bl)) pss_nil)
      (pss_cons (ps_set (i := 4) scLaw.nd rfl (Or.inl rfl) (pe_lst (pa_cons pe_non (pa_cons pe_int (pa_cons pe_str (pa_cons pe_dnewK (pa_cons pe_bl (pa_cons (pe_lst (pa_cons (pe_lst pa_nil) pa_nil)) (pa_cons (pe_lst (pa_cons pe_int pa_nil)) (pa_cons (pe_lst (pa_cons (pe_lst (pa_cons pe_int pa_nil)) (pa_cons (pe_lst (pa_cons pe_int (pa_cons pe_int pa_nil))) pa_nil))) (pa_cons (pe_lst (pa_cons (pe_lst (pa_cons pe_int (pa_cons pe_int pa_nil))) (pa_cons (pe_lst (pa_cons pe_int pa_nil)) pa_nil))) (pa_cons (pe_lst (pa_cons (pe_lst (pa_cons pe_non pa_nil)) pa_nil)) (pa_cons (pe_lst (pa_cons (pe_lst (pa_cons pe_bl pa_nil)) pa_nil)) (pa_cons (pe_lst (pa_cons (pe_lst (pa_cons pe_str pa_nil)) pa_nil)) (pa_cons (pe_lst (pa_cons (pe_lst (pa_cons pe_int pa_nil)) (pa_cons (pe_lst pa_nil) pa_nil))) pa_nil)))))))))))))))
      (pss_cons (ps_for PassesOwn.never rfl (pi_list (pv 4)) (pg_name (i := 8) scLaw.nd rfl (Or.inr rfl))
        (pss_one (ps_if (pt_not (pt_val (pe_call GU (hr.mono (by decide)) (by rfl) gU kU bU .nil pass0 (pa_cons (pe_lst (pa_cons (pe_lamcall (T := T) (TT := TMet BP BT) (t := fun E => tCall (spPicT K BP) [] E (tCons (tVar 8) tNil)) (k := 4) (by rfl) gM FM.kp lkM hcdM bM scMet rfl (.inl rfl) (met_gives M) TB (by rfl) (by exact hm) (by exact hu) (hr.mono (by decide)) (lamS_by (by show lamSB (defScope sLaw) _ = true; decide +kernel)) (by rfl) (fun _ _ _ _ _ => by rfl)
              (by intro A outer s H E f c' hr2; exact pe_call GT hr2 (by rfl) gT kT bT .nil (passes_call (takes_of rfl rfl rfl rfl) (fun _ _ _ _ h => h)) (pa_cons (pv 8) pa_nil))) pa_nil)) (pa_cons (pe_lst (pa_cons (pe_tup (pa_cons pe_str (pa_cons (pv 8) pa_nil))) pa_nil)) pa_nil))))) (pss_one (ps_ret pe_bl)) pss_nil)))
      (pss_cons (ps_for PassesOwn.never rfl (pi_tup (pe_tup (pa_cons pe_non (pa_cons pe_int (pa_cons (pe_lst (pa_cons pe_str pa_nil)) (pa_cons pe_dnewK (pa_cons pe_bl (pa_cons (pe_lst (pa_cons (pe_lst (pa_cons pe_int pa_nil)) pa_nil)) pa_nil)))))))) (pg_name (i := 8) scLaw.nd rfl (Or.inr rfl))
        (pss_one (ps_if (pt_not (pt_val (pe_call GS (hr.mono (by decide)) (by rfl) gS kS bS .nil pass0 (pa_cons (pe_lst (pa_cons (pe_lamcall (T := T) (TT := TMet BP BT) (t := fun E => tCall (spPicR K BT) [] E (tCons (tVar 8) tNil)) (k := 8) (by rfl) gM FM.kp lkM hcdM bM scMet rfl (.inl rfl) (met_gives M) TB (by rfl) (by exact hm) (by exact hu) (hr.mono (by decide)) (lamS_by (by show lamSB (defScope sLaw) _ = true; decide +kernel)) (by rfl) (fun _ _ _ _ _ => by rfl)
              (by intro A outer s H E f c' hr2; exact pe_call GR hr2 (by rfl) gR kR bR .nil (passes_call (takes_of rfl rfl rfl rfl) (fun _ _ _ _ h => h)) (pa_cons (pv 8) pa_nil))) (pa_cons (pe_call GF (hr.mono (by decide)) (by rfl) gF kF bF .nil pass0 (pa_cons (pv 8) pa_nil)) pa_nil))) (pa_cons (pe_lst (pa_cons (pe_tup (pa_cons pe_str (pa_cons (pe_tup (pa_cons pe_int (pa_cons pe_int pa_nil))) pa_nil))) (pa_cons (pe_tup (pa_cons pe_int (pa_cons pe_int pa_nil))) pa_nil))) pa_nil))))) (pss_one (ps_ret pe_bl)) pss_nil)))
      (pss_cons (ps_set (i := 7) scLaw.nd rfl (Or.inr rfl) (pe_lst (pa_cons (pe_lst (pa_cons pe_str pa_nil)) pa_nil)))
      (pss_cons (ps_set (i := 5) scLaw.nd rfl (Or.inl rfl) (pe_lamcall (T := T) (TT := TMet BP BT) (t := fun E => tCall (spPicT K BP) [] E (tCons (tVar 7) tNil)) (k := 4) (by rfl) gM FM.kp lkM hcdM bM scMet rfl (.inl rfl) (met_gives M) TB (by rfl) (by exact hm) (by exact hu) (hr.mono (by decide)) (lamS_by (by show lamSB (defScope sLaw) _ = true; decide +kernel)) (by rfl) (fun _ _ _ _ _ => by rfl)
              (by intro A outer s H E f c' hr2; exact pe_call GT hr2 (by rfl) gT kT bT .nil (passes_call (takes_of rfl rfl rfl rfl) (fun _ _ _ _ h => h)) (pa_cons (pv 7) pa_nil))))
      (pss_cons (ps_expr (pe_call GP (hr.mono (by decide)) (by rfl) gP kP bP .nil pass0 (pa_cons (pv 7) pa_nil)))
      (pss_cons (ps_set (i := 6) scLaw.nd rfl (Or.inl rfl) (pe_lst (pa_cons (pe_tup (pa_cons pe_str (pa_cons pe_non pa_nil))) (pa_cons (pe_tup (pa_cons pe_str (pa_cons (pe_tup (pa_cons pe_int (pa_cons pe_int pa_nil))) pa_nil))) (pa_cons (pe_tup (pa_cons pe_str (pa_cons (pe_tup (pa_cons pe_int (pa_cons pe_int pa_nil))) pa_nil))) (pa_cons (pe_tup (pa_cons pe_str (pa_cons (pe_tup (pa_cons pe_int (pa_cons pe_int pa_nil))) pa_nil))) (pa_cons (pe_tup (pa_cons pe_str (pa_cons (pe_tup (pa_cons pe_int (pa_cons pe_int pa_nil))) pa_nil))) pa_nil)))))))
      (pss_cons (ps_expr (pe_bm PySem.F.plainAttrs_list PySem.F.slot_list_append PySem.F.type_list_append mt_append (pv 6) (pa_cons (pe_tup (pa_cons pe_str (pa_cons (pe_tup (pa_cons pe_int (pa_cons pe_int pa_nil))) pa_nil))) pa_nil)))
      (pss_cons (ps_expr (pe_bm PySem.F.plainAttrs_list PySem.F.slot_list_extend PySem.F.type_list_extend mt_extend (pv 6) (pa_cons (pe_lst (pa_cons (pe_tup (pa_cons pe_str (pa_cons (pe_tup (pa_cons pe_int (pa_cons pe_int pa_nil))) pa_nil))) (pa_cons (pe_tup (pa_cons pe_str (pa_cons (pe_tup (pa_cons pe_int (pa_cons pe_int pa_nil))) pa_nil))) (pa_cons (pe_tup (pa_cons pe_str (pa_cons (pe_tup (pa_cons pe_int (pa_cons pe_int pa_nil))) pa_nil))) (pa_cons (pe_tup (pa_cons pe_str (pa_cons (pe_tup (pa_cons pe_int (pa_cons pe_int pa_nil))) pa_nil))) (pa_cons (pe_tup (pa_cons pe_str (pa_cons (pe_tup (pa_cons pe_int (pa_cons pe_int pa_nil))) pa_nil))) pa_nil)))))) pa_nil)))
      (pss_cons (ps_expr (pe_bm PySem.F.plainAttrs_list PySem.F.slot_list_append PySem.F.type_list_append mt_append (pv 6) (pa_cons (pe_tup (pa_cons pe_str (pa_cons (pe_tup (pa_cons pe_int (pa_cons pe_int pa_nil))) pa_nil))) pa_nil)))
      (pss_cons (ps_expr (pe_bm PySem.F.plainAttrs_list PySem.F.slot_list_extend PySem.F.type_list_extend mt_extend (pv 6) (pa_cons (pe_lst (pa_cons (pe_tup (pa_cons pe_str (pa_cons pe_non pa_nil))) (pa_cons (pe_tup (pa_cons pe_str (pa_cons (pe_tup (pa_cons pe_int (pa_cons pe_int pa_nil))) pa_nil))) (pa_cons (pe_tup (pa_cons pe_str (pa_cons pe_non pa_nil))) pa_nil)))) pa_nil)))
      (pss_cons (ps_expr (pe_bm PySem.F.plainAttrs_list PySem.F.slot_list_append PySem.F.type_list_append mt_append (pv 6) (pa_cons (pe_tup (pa_cons pe_str (pa_cons (pe_tup (pa_cons pe_int (pa_cons pe_int pa_nil))) pa_nil))) pa_nil)))
      (pss_cons (ps_if (pt_not (pt_val (pe_call GS (hr.mono (by decide)) (by rfl) gS kS bS .nil pass0 (pa_cons (pe_lc (own := [("_law_text", 11), ("_law_due", 12)]) (g := gTup K 2 (gCons (gName 11) (gCons (gName 12) gNil))) (tt := tYes) (te := tCall (spPicF K) [] E0 (tCons (tVar 11) tNil)) rfl scLaw.nd (pi_seq (pv 6)) (blkOk_by (own := [("_law_text", 11), ("_law_due", 12)]) (N := ["_law_script", "_law_stream", "_law_turn", "_law_picture", "_law_odds", "_law_met_here", "_law_some", "_law_held", "_law_odd", "_law_row", "_law_one", "_law_text", "_law_due"]) (sc := defScope sLaw) (by decide +kernel)) (fun _ _ _ _ _ => pg_tup rfl (pgs_cons (pg_name (i := 11) scLaw.nd rfl (Or.inl rfl)) (pgs_cons (pg_name (i := 12) scLaw.nd rfl (Or.inl rfl)) pgs_nil))) (fun _ _ _ _ _ => pts_nil) (fun _ _ _ _ _ => (pe_call GF (hr.mono (by decide)) (by rfl) gF kF bF .nil pass0 (pa_cons (pv 11) pa_nil)))) (pa_cons (pe_lc (own := [("_law_text", 11), ("_law_due", 12)]) (g := gTup K 2 (gCons (gName 11) (gCons (gName 12) gNil))) (tt := tYes) (te := tVar 12) rfl scLaw.nd (pi_seq (pv 6)) (blkOk_by (own := [("_law_text", 11), ("_law_due", 12)]) (N := ["_law_script", "_law_stream", "_law_turn", "_law_picture", "_law_odds", "_law_met_here", "_law_some", "_law_held", "_law_odd", "_law_row", "_law_one", "_law_text", "_law_due"]) (sc := defScope sLaw) (by decide +kernel)) (fun _ _ _ _ _ => pg_tup rfl (pgs_cons (pg_name (i := 11) scLaw.nd rfl (Or.inl rfl)) (pgs_cons (pg_name (i := 12) scLaw.nd rfl (Or.inl rfl)) pgs_nil))) (fun _ _ _ _ _ => pts_nil) (fun _ _ _ _ _ => pv 12)) pa_nil))))) (pss_one (ps_ret pe_bl)) pss_nil)
      (pss_one (ps_ret (pe_and (pe_call GS (hr.mono (by decide)) (by rfl) gS kS bS .nil pass0 (pa_cons (pv 5) (pa_cons (pe_tup (pa_cons pe_str (pa_cons (pv 7) pa_nil))) pa_nil))) (pe_one (pe_call GS (hr.mono (by decide)) (by rfl) gS kS bS .nil pass0 (pa_cons (pe_lst (pa_cons (pe_call GT (hr.mono (by decide)) (by rfl) gT kT bT .nil passX (pa_cons (pe_lst pa_nil) pa_nil)) (pa_cons (pe_call GR (hr.mono (by decide)) (by rfl) gR kR bR .nil passX (pa_cons pe_str pa_nil)) pa_nil))) (pa_cons (pe_lst (pa_cons pe_str (pa_cons (pe_lst pa_nil) pa_nil))) pa_nil))))))))))))))))))))))), ?_⟩
    have big : 1000000 ≤ sizeLine := by decide
    dsimp only [tSeq, tAsg]
    refine ⟨_, rfl, sa, ns, rfl, hS, fun a q H1 np s1 S1 => ?_⟩
    have SA1 : StA H1 a q 0 := ⟨_, _, _, S1⟩
    have T1 := hT.ext s1
    clear S1 hS hT
    refine ⟨_, rfl, by decide, by decide, ?_⟩
    refine for_any (n := 5) (fun j σ H' => ∃ (v2 v3 : Option V) (n' : Int), σ = [some (.ref sa), some (.ref a), v2, v3, none, none, none, none, none, none, none, none, none] ∧ n' ≤ 30000 * j ∧ StA H' a q n' ∧ Tabs T H') ?_ ?_ ?_ ?_ ?_
    · exact ⟨_, _, 0, rfl, by omega, SA1, T1⟩
    · exact fun j _ _ lt _ => lt
    · exact fun _ _ _ => Nat.le_refl _
    · rintro j σ H2 x H3 lt ⟨v2, v3, n2, rfl, hn2, S2, T2⟩ ⟨rfl, rfl⟩
      dsimp only [tSeq, tAsg]
      refine ⟨_, rfl, _, _, rfl, rfl, _, rfl, ?_⟩
      refine ite2 (fun _ => ?_) fun _ => ?_
      case' refine_1 =>
        refine ⟨_, rfl, _, rfl, ?_⟩
        dsimp only [tCons, tNil, tC]
        refine sp_draw 4 S2 rfl (by decide) (by decide) (by omega) fun d1 H4 d10 d11 S4 k4 => ⟨_, _, rfl, rfl, _, rfl, ?_⟩
        dsimp only [tCons, tNil, tC]
        refine sp_draw 4 S4 rfl (by decide) (by decide) (by omega) fun d2 H5 d20 d21 S5 k5 => ⟨_, _, rfl, rfl, ?_⟩
        obtain ⟨r1, rfl⟩ := Int.eq_ofNat_of_zero_le d10
        obtain ⟨r2, rfl⟩ := Int.eq_ofNat_of_zero_le d20
        refine ⟨a, q, n2 + 1 + 1, 1 + r1, 1 + r2, rfl, S5, by omega, by omega, by omega, fun p qs rows H6 n6 hn6 S6 k6 atp hrw dr off => ?_⟩
        have T6 : Tabs T H6 := tabs_kp (tabs_kp (tabs_kp T2 S2 k4) S4 k5) S5 k6
        have sh4 : rows.length ≤ 4 ∧ ∀ r ∈ rows, r.length ≤ 4 := ⟨by have := dr.1; omega, fun r hr => by have := (dr.2 r hr).1; omega⟩
        have sh : Shape rows := ⟨by have := dr.1; omega, 1 + r2, by omega, by omega, fun r hr => ⟨(dr.2 r hr).1, fun i hi => Nat.lt_trans ((dr.2 r hr).2 i hi) (by decide)⟩⟩
        have hn6' : n6 ≤ n2 + 20002 := by omega
        clear hn6 dr S5 k6 k5 S4 k4 T2 S2 d20 d21 d10 d11
      case' refine_2 =>
        refine ⟨by show 0 ≤ sizeLine; omega, fun p np => ?_⟩
        obtain ⟨qs, eqs⟩ : ∃ qs : List Addr, qs = [] := ⟨_, rfl⟩
        obtain ⟨rows, erows⟩ : ∃ rows : List (List Int), rows = [] := ⟨_, rfl⟩
        obtain ⟨n6, en6⟩ : ∃ n6 : Int, n6 = n2 := ⟨_, rfl⟩
        have s6 : Same H3 (upd H3 p (.lst [])) := same_new np
        have S6 : StA (upd H3 p (.lst [])) a q n6 := en6 ▸ S2.s s6
        have T6 : Tabs T (upd H3 p (.lst [])) := T2.ext s6
        have atp : (upd H3 p (.lst [])) p = some (.lst (qs.map V.ref)) := by rw [eqs]; exact upd_same
        have hrw : RowsAt (upd H3 p (.lst [])) qs rows := by rw [eqs, erows]; exact .nil
        have off : ∀ b ∈ p :: qs, b ≠ a ∧ b ≠ q := by
          rw [eqs]
          intro b hb
          rw [List.mem_singleton.1 hb]
          exact S2.off np
        have sh4 : rows.length ≤ 4 ∧ ∀ r ∈ rows, r.length ≤ 4 := by rw [erows]; exact ⟨by decide, fun r hr => nomatch hr⟩
        have sh : Shape rows := by rw [erows]; exact ⟨by decide, 1, by decide, by decide, fun r hr => nomatch hr⟩
        have hn6' : n6 ≤ n2 + 20002 := by omega
        generalize upd H3 p (.lst []) = H6 at s6 S6 T6 atp hrw ⊢
        clear s6
      all_goals
        refine ⟨_, rfl, _, rfl, a, q, p, qs, n6, rows, rfl, S6, by omega, atp, hrw, sh, off, fun H7 n7 hn7 S7 k7 => ⟨_, rfl, ?_⟩⟩
        refine iteF ?_
        have T7 := tabs_kp T6 S6 k7
        have op := off p (List.mem_cons_self ..)
        have atp7 := k7 _ _ atp op.1 op.2
        have hrw7 : RowsAt H7 qs rows := rowsAt_mono hrw fun b o e hm => by
          have z := off b (List.mem_cons_of_mem _ hm)
          exact k7 b o e z.1 z.2
        refine ⟨_, rfl, ?_⟩
        refine rd_whole (K := K) (i := 3) (k := 9) (m := 10) rfl atp7 hrw7 sh.small (fun _ => rfl) (fun _ => rfl) (fun _ _ => rfl) (fun _ _ => rfl) fun H8 s8 => ?_
        refine ⟨a, q, n7, _, rfl, T7.ext s8, S7.s s8, by omega, ?_, fun H9 n9 hn9 S9 k9 T9 => ⟨_, rfl, ?_⟩⟩
        · rw [tS_len]
          unfold picL
          rw [List.length_flatten, List.map_map]
          have z : (rows.map (List.length ∘ rowL)).sum ≤ 100 * rows.length := sum_le fun r hm => by
            have g1 := sh4.2 r hm
            obtain ⟨_, wd, _, _, hr⟩ := sh
            have g2 := (hr r hm).2
            show (rowL r).length ≤ 100
            rw [rowL_join, List.length_append]
            have z := joinL_len [32] (r.map intL)
            have y : ((r.map intL).map List.length).sum ≤ 17 * (r.map intL).length := sum_le fun x hx => by
              obtain ⟨i, hi, rfl⟩ := List.mem_map.1 hx
              exact intL_len (g2 i hi)
            rw [List.length_map] at y z
            simp only [List.length_cons, List.length_nil] at z ⊢
            omega
          have := sh4.1
          omega
        · exact iteF ⟨_, _, n9, rfl, by omega, S9, T9⟩
    · rintro σ H2 ⟨v2, v3, n2, rfl, hn2, S2, T2⟩
      refine ⟨_, rfl, _, rfl, a, q, n2, 20, 10, rfl, S2, by omega, by decide, by decide, fun p qs rows H3 n3 hn3 S3 k3 atp hrw dr off => ?_⟩
      have sh : Shape rows := ⟨by have := dr.1; omega, 10, by omega, by omega, fun r hr => ⟨(dr.2 r hr).1, fun i hi => Nat.lt_trans ((dr.2 r hr).2 i hi) (by decide)⟩⟩
      refine ⟨a, q, p, qs, n3, rows, rfl, S3, by omega, atp, hrw, sh, off, fun H4 n4 _ _ k4 => ⟨_, rfl, ?_⟩⟩
      have T4 : Tabs T H4 := tabs_kp (tabs_kp T2 S2 k3) S3 k4
      clear k4 sh off dr hrw atp k3 S3 hn3 T2 S2 hn2 SA1 T1 s1 np
      refine iteF ?_
      refine st_next ?_
      dsimp only
      refine st_seq (st_asg ?_)
      refine (mk_lst (K := K) (H0 := H4) (mka_cons mk_n (mka_cons (mk_i 5) (mka_cons (mk_s "1\n") (mka_cons mk_dct (mka_cons (mk_b true) (mka_cons (mk_lst (mka_cons (mk_lst mka_nil (by decide)) mka_nil) (by decide)) (mka_cons (mk_lst (mka_cons (mk_i 1) mka_nil) (by decide)) (mka_cons (mk_lst (mka_cons (mk_lst (mka_cons (mk_i 1) mka_nil) (by decide)) (mka_cons (mk_lst (mka_cons (mk_i 1) (mka_cons (mk_i 2) mka_nil)) (by decide)) mka_nil)) (by decide))
        (mka_cons (mk_lst (mka_cons (mk_lst (mka_cons (mk_i 1) (mka_cons (mk_i 2) mka_nil)) (by decide)) (mka_cons (mk_lst (mka_cons (mk_i 1) mka_nil) (by decide)) mka_nil)) (by decide)) (mka_cons (mk_lst (mka_cons (mk_lst (mka_cons mk_n mka_nil) (by decide)) mka_nil) (by decide)) (mka_cons (mk_lst (mka_cons (mk_lst (mka_cons (mk_b true) mka_nil) (by decide)) mka_nil) (by decide)) (mka_cons (mk_lst (mka_cons (mk_lst (mka_cons (mk_s "1") mka_nil) (by decide)) mka_nil) (by decide))
        (mka_cons (mk_lst (mka_cons (mk_lst (mka_cons (mk_i 1) mka_nil) (by decide)) (mka_cons (mk_lst mka_nil (by decide)) mka_nil)) (by decide)) mka_nil))))))))))))) (by decide)) _ _ (Same.refl _) fun v H5 s5 dv => ?_
      generalize hds : ([PyData.none, .int 5, .str "1\n", .dict [], .bool true, .list [.list []], .list [.int 1], .list [.list [.int 1], .list [.int 1, .int 2]], .list [.list [.int 1, .int 2], .list [.int 1]], .list [.list [.none]], .list [.list [.bool true]], .list [.list [.str "1"]], .list [.list [.int 1], .list []]] : List PyData) = ds at dv
      have good : ∀ d ∈ ds, lenOk d = true ∧ fits d = true ∧ picD d = false ∧ deepE d ≤ 3 := by
        rw [← hds]
        intro d hd
        simp only [List.mem_cons, List.not_mem_nil, or_false] at hd
        rcases hd with rfl | rfl | rfl | rfl | rfl | rfl | rfl | rfl | rfl | rfl | rfl | rfl | rfl <;> exact ⟨rfl, rfl, rfl, by decide⟩
      clear hds
      have T5 := T4.ext s5
      cases dv with
      | @lst p xs _ hp hds =>
        dsimp only
        refine st_name ?_
        refine st_seq ?_
        refine ⟨_, rfl, p, rfl, ⟨_, hp⟩, ?_⟩
        have lx := deAll_len hds
        refine for_any (n := xs.length) (fun j σ H' => ∃ (v8 : Option V), σ = [some (.ref sa), some (.ref a), v2, v3, some (.ref p), none, none, none, v8, none, none, none, none] ∧ SqL K H' p xs ∧ DeAll K H' xs ds ∧ Tabs T H') ?_ ?_ ?_ ?_ ?_
        · exact ⟨_, rfl, hp, hds, T5⟩
        · rintro j σ H6 lt ⟨_, _, h6, _⟩
          exact ⟨xs, xs[j], h6, List.getElem?_eq_getElem lt⟩
        · rintro σ H6 ⟨_, _, h6, _⟩
          exact ⟨xs, h6, Nat.le_refl _⟩
        · rintro j σ H60 x H6 lt ⟨v8, rfl, h6, d6, T6⟩ ⟨rfl, hy⟩
          have ex := hy _ h6
          obtain ⟨d, ed, dx6⟩ := deAll_get d6 ex
          obtain ⟨g1, g2, g3, g4⟩ := good d (List.mem_of_getElem? ed)
          refine ⟨T6, fun H7 e7 T7 => ?_⟩
          refine ⟨_, rfl, x, d, rfl, de_e e7 dx6, g1, g2, .inr ⟨g3, fun dx H8 nd s8 hdx => .inl ⟨rfl, dx, x, rfl, hdx, fun tt H9 s9 htt => ?_⟩⟩⟩
          refine ⟨by show 1 ≤ sizeLine; omega, fun p1 n1 => ?_⟩
          have s10 : Same H9 (upd H9 p1 (.lst [.ref tt])) := same_new n1
          have at10 : (upd H9 p1 (.lst [.ref tt])) p1 = some (.lst [.ref tt]) := upd_same
          generalize upd H9 p1 (.lst [.ref tt]) = H10 at s10 at10 ⊢
          have s710 : Same H7 H10 := Same.trans s8 (Same.trans s9 s10)
          have e610 : ExtN H6 H10 := e7.trans (ExtN.of s710)
          have dx10 := de_e e610 dx6
          refine (mk_lst (K := K) (mka_cons (mk_tup (mka_cons (mk_s "picture") (mka_cons (mk_v rfl dx10) mka_nil)) (by show 2 ≤ 1000; decide)) mka_nil) (by show 1 ≤ 1000; decide)) H10 _ (Same.refl _) fun u H11 s11 du => ?_
          have gl : lenOk (.list [.tuple [.str "picture", d]]) = true := by
            show (true && ((true && (true && (lenOk d && true))) && true)) = true
            rw [g1]
            rfl
          have gd : deepE (.list [.tuple [.str "picture", d]]) < 6 := by
            show max (max 0 (max (deepE d) 0) + 1) 0 + 1 < 6
            omega
          refine ⟨.ref p1, u, _, _, rfl, .lst (SqL.of (s11 _ _ at10)) (.cons (.tup (SqT.of (s11 _ _ (s10 _ _ htt))) (.cons (.str _) (.cons (de_s s11 dx10) .nil))) .nil), du, gl, gd, fun H12 s12 => ⟨_, rfl, ?_⟩⟩
          rw [sameE_refl]
          have e612 : ExtN H6 H12 := e610.trans (ExtN.of (Same.trans s11 s12))
          exact iteF ⟨_, rfl, sqL_e e612 h6, deAll_e e612 d6, T7.ext (Same.trans s710 (Same.trans s11 s12))⟩
        · rintro σ H6 ⟨v8, rfl, _, _, T6⟩
          dsimp only
          refine st_seq (st_for (st_itup ?_))
          refine (mk_tup (K := K) (H0 := H6) (mka_cons mk_n (mka_cons (mk_i 5) (mka_cons (mk_lst (mka_cons (mk_s "1\n") mka_nil) (by decide)) (mka_cons mk_dct (mka_cons (mk_b true) (mka_cons (mk_lst (mka_cons (mk_lst (mka_cons (mk_i 1) mka_nil) (by decide)) mka_nil) (by decide)) mka_nil)))))) (by decide)) _ _ (Same.refl _) fun u H7 s7 du => ?_
          generalize hds : ([PyData.none, .int 5, .list [.str "1\n"], .dict [], .bool true, .list [.list [.int 1]]] : List PyData) = ds at du
          have good : ∀ d ∈ ds, kitB (tyD d) "str" = some false := by
            rw [← hds]
            intro d hd
            simp only [List.mem_cons, List.not_mem_nil, or_false] at hd
            rcases hd with rfl | rfl | rfl | rfl | rfl | rfl <;> decide +kernel
          clear hds
          have T7 := T6.ext s7
          cases du with
          | @tup p2 xs _ hp hds =>
            refine ⟨p2, rfl, ⟨_, hp⟩, ?_⟩
            have lx := deAll_len hds
            refine for_any (n := xs.length) (fun j σ H' => ∃ (v8 : Option V), σ = [some (.ref sa), some (.ref a), v2, v3, some (.ref p), none, none, none, v8, none, none, none, none] ∧ SqT K H' p2 xs ∧ DeAll K H' xs ds ∧ Tabs T H') ?_ ?_ ?_ ?_ ?_
            · exact ⟨_, rfl, hp, hds, T7⟩
            · rintro j σ H8 lt ⟨_, _, h6, _⟩
              exact ⟨xs, xs[j], h6, List.getElem?_eq_getElem lt⟩
            · rintro σ H8 ⟨_, _, h6, _⟩
              exact ⟨xs, h6, Nat.le_refl _⟩
            · rintro j σ H60 x H6 lt ⟨v8, rfl, h6, d6, T6⟩ ⟨rfl, hy⟩
              have ex := hy _ h6
              obtain ⟨d, ed, dx6⟩ := deAll_get d6 ex
              have g1 := good d (List.mem_of_getElem? ed)
              refine ⟨T6, fun H7 e7 T7 => ?_⟩
              refine ⟨_, rfl, x, rfl, .inr ⟨noText (de_e e7 dx6) g1, fun dx H8 nd s8 hdx => .inr ⟨rfl, dx, 0, 0, rfl, hdx, fun tt t1 H9 s9 ht1 htt => ?_⟩⟩⟩
              have e69 : ExtN H6 H9 := e7.trans (ExtN.of (Same.trans s8 s9))
              refine ⟨_, rfl, x, rfl, .inr ⟨noText (de_e e69 dx6) g1, fun p0 H95 s95 hp0 => ?_⟩⟩
              refine ⟨by show 2 ≤ sizeLine; omega, fun p1 n1 => ?_⟩
              have s10 : Same H95 (upd H95 p1 (.lst [.ref tt, .ref p0])) := same_new n1
              have at10 : (upd H95 p1 (.lst [.ref tt, .ref p0])) p1 = some (.lst [.ref tt, .ref p0]) := upd_same
              generalize upd H95 p1 (.lst [.ref tt, .ref p0]) = H10 at s10 at10 ⊢
              have s910 := Same.trans s95 s10
              have e610 : ExtN H6 H10 := e69.trans (ExtN.of s910)
              refine (mk_lst (K := K) (mka_cons (mk_tup (mka_cons (mk_s "text") (mka_cons (mk_tup (mka_cons (mk_i 0) (mka_cons (mk_i 0) mka_nil)) (by decide)) mka_nil)) (by decide)) (mka_cons (mk_tup (mka_cons (mk_i 0) (mka_cons (mk_i 0) mka_nil)) (by decide)) mka_nil)) (by decide)) H10 _ (Same.refl _) fun u H11 s11 du => ?_
              have s911 := Same.trans s910 s11
              refine ⟨.ref p1, u, _, _, rfl, .lst (SqL.of (s11 _ _ at10)) (.cons (.tup (SqT.of (s911 _ _ htt)) (.cons (.str _) (.cons (.tup (SqT.of (s911 _ _ ht1)) (.cons (.int _) (.cons (.int _) .nil))) .nil))) (.cons (.tup (SqT.of (s11 _ _ (s10 _ _ hp0))) (.cons (.int _) (.cons (.int _) .nil))) .nil)), du, rfl, (by show 3 < 5; decide), fun H12 s12 => ⟨_, rfl, ?_⟩⟩
              rw [sameE_refl]
              have e612 : ExtN H6 H12 := e610.trans (ExtN.of (Same.trans s11 s12))
              exact iteF ⟨_, rfl, sqT_e e612 h6, deAll_e e612 d6, T7.ext (Same.trans (Same.trans s8 s9) (Same.trans s911 s12))⟩
            · rintro σ H6 ⟨v8, rfl, _, _, T6⟩
              dsimp only
              refine st_seq (st_asg ?_)
              refine ⟨by show 1 ≤ sizeLine; omega, fun q1 nq => ⟨by show 1 ≤ sizeLine; omega, fun p1 np1 => ?_⟩⟩
              have s7 : Same H6 (upd H6 q1 (.lst [.str "x"])) := same_new nq
              have atq : (upd H6 q1 (.lst [.str "x"])) q1 = some (.lst [.str "x"]) := upd_same
              generalize upd H6 q1 (.lst [.str "x"]) = H7 at s7 atq np1 ⊢
              have s8 : Same H7 (upd H7 p1 (.lst [.ref q1])) := same_new np1
              have atp : (upd H7 p1 (.lst [.ref q1])) p1 = some (.lst [.ref q1]) := upd_same
              have pq : p1 ≠ q1 := fun e => by
                rw [e, atq] at np1
                cases np1
              generalize upd H7 p1 (.lst [.ref q1]) = H8 at s8 atp ⊢
              have atq8 := s8 _ _ atq
              have T8 := T6.ext (Same.trans s7 s8)
              dsimp only
              refine st_name ?_
              refine st_seq (st_asg ?_)
              refine ⟨T8, fun H9 e9 T9 => ?_⟩
              have nt : ∀ {xs : List V} (ps : Array Value), (HO.lst xs) ≠ .tbl ps := fun _ w => nomatch w
              have atp9 := e9 _ _ atp nt
              have atq9 := e9 _ _ atq8 nt
              refine ⟨_, rfl, .ref p1, .list [.list [.str "x"]], rfl, .lst (SqL.of atp9) (.cons (.lst (SqL.of atq9) (.cons (.str _) .nil)) .nil), rfl, rfl, .inr ⟨rfl, fun dx H10 nd s10 hdx => .inl ⟨rfl, dx, .ref p1, rfl, hdx, fun tt H11 s11 htt => ?_⟩⟩⟩
              have atp11 := s11 _ _ (s10 _ _ atp9)
              have atq11 := s11 _ _ (s10 _ _ atq9)
              have ntp : tt ≠ p1 := fun e => by
                rw [e, atp11] at htt
                cases htt
              have ntq : tt ≠ q1 := fun e => by
                rw [e, atq11] at htt
                cases htt
              dsimp only
              refine st_name ?_
              refine st_seq (st_drop ?_)
              refine ⟨_, rfl, .ref p1, rfl, .inr (.inr ⟨by decide, p1, [q1], [[.str "x"]], rfl, atp11, .cons atq11 .nil, ?_, fun xs hx => ?_, by show 1 ≤ 100000; decide, fun H12 k12 hp12 hr12 => ?_⟩)⟩
              · exact List.nodup_cons.mpr ⟨fun h => pq (List.mem_singleton.1 h), List.nodup_cons.mpr ⟨List.not_mem_nil, List.nodup_nil⟩⟩
              · rw [List.mem_singleton.1 hx]
                exact ⟨fun x hx => .inr ⟨"x", List.mem_singleton.1 hx⟩, by show 1 ≤ 100000; decide⟩
              have htt12 : H12 tt = some (.tup [.str "picture", .ref p1]) := k12 _ _ htt fun h => by
                rcases List.mem_cons.1 h with h | h
                · exact ntp h
                · exact ntq (List.mem_singleton.1 h)
              have hq12 : H12 q1 = some (.lst [.str "x", late]) := by
                cases hr12 with
                | cons h _ => exact h
              have hp12' : H12 p1 = some (.lst [.ref q1, late]) := hp12
              clear hp12 hr12 k12 T8 T9 T6 T7 good
              dsimp only
              refine st_seq (st_asg (st_lst ?_))
              refine (mka_cons (K := K) (mkP mk_n) (mka_cons (mkP (mkTwo 1 1)) (mka_cons (mkP (mkTwo 2 2)) (mka_cons (mkP (mkTwo 2 2)) (mka_cons (mkP (mkTwo 2 4)) mka_nil))))) H12 _ (Same.refl _) fun vs H13 s13 dvs => ?_
              replace dvs : DeAll K H13 vs (given1.map pairD) := dvs
              have lv := deAll_len dvs
              have l5 : (given1.map pairD).length = 5 := rfl
              refine ⟨by omega, fun L nL => ?_⟩
              have s14 : Same H13 (upd H13 L (.lst vs)) := same_new nL
              have atL : (upd H13 L (.lst vs)) L = some (.lst vs) := upd_same
              have fx : ∀ b o, H12 b = some o → b ≠ L ∧ (upd H13 L (.lst vs)) b = some o := fun b o e => ⟨ne_of_none (s13 _ _ e) nL, s14 _ _ (s13 _ _ e)⟩
              have dv14 := deAll_s s14 dvs
              generalize upd H13 L (.lst vs) = H14 at s14 atL fx dv14 ⊢
              dsimp only
              refine st_name ?_
              refine st_seq (st_drop ?_)
              refine st_app (g := given1) (t := "-") rfl atL dv14 (mkTwo 1 2) (by decide) (by rfl) fun vs2 H15 at15 dv15 k15 => ?_
              dsimp only
              refine st_seq (st_drop ?_)
              refine st_ext (g := given1 ++ givenA) (g2 := given2) rfl at15 dv15 (mka_cons (mkP (mkTwo 1 3)) (mka_cons (mkP (mkTwo 1 3)) (mka_cons (mkP (mkTwo 1 1)) (mka_cons (mkP (mkTwo 1 2)) (mka_cons (mkP (mkTwo 1 2)) mka_nil))))) (by decide) (by decide) (by rfl) fun vs3 H16 at16 dv16 k16 => ?_
              dsimp only
              refine st_seq (st_drop ?_)
              refine st_app (g := given1 ++ givenA ++ given2) (t := "1") rfl at16 dv16 (mkTwo 1 2) (by decide) (by rfl) fun vs4 H17 at17 dv17 k17 => ?_
              dsimp only
              refine st_seq (st_drop ?_)
              refine st_ext (g := given1 ++ givenA ++ given2 ++ givenB) (g2 := given3) rfl at17 dv17 (mka_cons (mkP mk_n) (mka_cons (mkP (mkTwo 2 2)) (mka_cons (mkP mk_n) mka_nil))) (by decide) (by decide) (by rfl) fun vs5 H18 at18 dv18 k18 => ?_
              dsimp only
              refine st_seq (st_drop ?_)
              refine st_app (g := given1 ++ givenA ++ given2 ++ givenB ++ given3) (t := "12345678901234567") rfl at18 dv18 (mkTwo 1 17) (by decide) (by rfl) fun vs6 H19 at19 dv19 k19 => ?_
              replace dv19 : DeAll K H19 vs6 (given.map pairD) := dv19
              have f19 : ∀ b o, H12 b = some o → H19 b = some o := fun b o e => by
                obtain ⟨n, e1⟩ := fx b o e
                exact k19 _ _ (k18 _ _ (k17 _ _ (k16 _ _ (k15 _ _ e1 n) n) n) n) n
              have tt19 := f19 _ _ htt12
              have q19 := f19 _ _ hq12
              have p19 := f19 _ _ hp12'
              clear f19 k19 k18 k17 k16 k15 fx dv18 dv17 dv16 dv15 dv14 at18 at17 at16 at15 atL
              dsimp only
              refine st_seq (st_ifs (st_not (st_b (st_call (st_cons ?_)))))
              refine lc_given (K := K) (g := given) (L := L) (fun p => faultD p.1) rfl (.inl (SqL.of at19)) dv19 (by rfl) (by decide) (fun _ _ => rfl) (fun t d y H' R hmem hy k => ?_) fun D1 us H20 s20 hD1 hus => ?_
              · refine ⟨_, rfl, .str t, rfl, .inl ⟨t, rfl, given_len _ hmem, fun rows H2 ok s2 => k _ _ s2 ?_, fun ln sg p H2 er s2 hp => k _ _ s2 ?_⟩⟩
                · show De K H2 .non (faultD t)
                  unfold faultD
                  rw [ok]
                  exact .non
                · show De K H2 (.ref p) (faultD t)
                  unfold faultD
                  rw [er]
                  exact .tup (SqT.of hp) (.cons (.int _) (.cons (.int _) .nil))
              refine st_cons ?_
              refine lc_given (K := K) (g := given) (L := L) (fun p => p.2) rfl (.inl (SqL.of (s20 _ _ at19))) (deAll_s s20 dv19) (by rfl) (by decide) (fun _ _ => rfl) (fun t d y H' R hmem hy k => ⟨y, rfl, k y H' (Same.refl _) hy⟩) fun D2 us2 H21 s21 hD2 hus2 => ?_
              refine ⟨.ref D1, .ref D2, .list (given.map fun p => faultD p.1), .list (given.map fun p => p.2), rfl, .lst (SqL.of (s21 _ _ hD1)) (deAll_s s21 hus), .lst (SqL.of hD2) hus2, by rfl, by decide +kernel, fun H22 s22 => ⟨_, rfl, ?_⟩⟩
              rw [given_ok, sameE_refl]
              refine iteF ?_
              have s1922 : Same H19 H22 := Same.trans s20 (Same.trans s21 s22)
              refine st_next ?_
              dsimp only
              refine st_ret ?_
              refine ⟨_, rfl, _, rfl, by show 2 ≤ sizeLine; omega, fun pm nm => ?_⟩
              have s23 : Same H22 (upd H22 pm (.tup [.str "picture", .ref p1])) := same_new nm
              have at23 : (upd H22 pm (.tup [.str "picture", .ref p1])) pm = some (.tup [.str "picture", .ref p1]) := upd_same
              generalize upd H22 pm (.tup [.str "picture", .ref p1]) = H23 at s23 at23 ⊢
              have s1923 := Same.trans s1922 s23
              have dh : De K H23 (.ref p1) (.list [.list [.str "x", .str "late9"], .str "late9"]) := .lst (SqL.of (s1923 _ _ p19)) (.cons (.lst (SqL.of (s1923 _ _ q19)) (.cons (.str _) (.cons (.str _) .nil))) (.cons (.str _) .nil))
              refine ⟨.ref tt, .ref pm, .tuple [.str "picture", .list [.list [.str "x", .str "late9"], .str "late9"]], .tuple [.str "picture", .list [.list [.str "x", .str "late9"], .str "late9"]], rfl, .tup (SqT.of (s1923 _ _ tt19)) (.cons (.str _) (.cons dh .nil)), .tup (SqT.of at23) (.cons (.str _) (.cons dh .nil)), rfl, by decide, fun H24 s24 => ⟨_, rfl, ?_⟩⟩
              rw [sameE_refl]
              refine iteT ?_
              refine ⟨by show 0 ≤ sizeLine; omega, fun pe npe => ?_⟩
              refine ⟨.ref pe, .list [], rfl, .lst (SqL.of upd_same) .nil, rfl, rfl, .inl ⟨[], rfl, ⟨[], rfl, .nil⟩, ⟨by decide, fun r hr => nomatch hr⟩, fun H25 s25 => ?_⟩⟩
              refine ⟨.str "", rfl, .inl ⟨"", rfl, by decide, fun rows p2 qs2 H26 ok s26 hp2 hr2 _ _ => ?_, fun ln sg er => ?_⟩⟩
              · rw [empty_ok] at ok
                cases ok
                cases hr2
                refine ⟨by show 2 ≤ sizeLine; omega, fun pl npl => ?_⟩
                have e0 : tS (picL []) = ("" : Str) := rfl
                rw [e0]
                have s27 : Same H26 (upd H26 pl (.lst [.str "", .ref p2])) := same_new npl
                have at27 : (upd H26 pl (.lst [.str "", .ref p2])) pl = some (.lst [.str "", .ref p2]) := upd_same
                generalize upd H26 pl (.lst [.str "", .ref p2]) = H27 at s27 at27 ⊢
                refine (mk_lst (K := K) (mka_cons (mk_s "") (mka_cons (mk_lst mka_nil (by decide)) mka_nil)) (by decide)) H27 _ (Same.refl _) fun u H28 s28 du => ?_
                refine ⟨.ref pl, u, .list [.str "", .list []], _, rfl, .lst (SqL.of (s28 _ _ at27)) (.cons (.str _) (.cons (.lst (SqL.of (s28 _ _ (s27 _ _ hp2))) .nil) .nil)), du, rfl, by decide, fun H29 s29 => ?_⟩
                rw [sameE_refl]
                exact kk H29
              · rw [empty_ok] at er
                cases er
end
end Mine
namespace Mine
open LamX L2 PySem PySem.Spec PyProof.Rows
section
variable {P : Program} {w : World} {K : PySem.W.Frag} {mg mb : Str → Option Value} {k : Nat} {fa a : Addr} {cs : List (Addr × Addr)} {tb : List Addr} {fd : FuncData} {x : Str} {sp : Sp} {s1 : Shared} {vs : List Value} {ns : List Int}
/-- the script's list -/
abbrev lstO (vs : List Value) : Obj := { cls := .type "list", data := .seq vs.toArray }
abbrev emptyO : Obj := { cls := .none, data := .fields #[] }
/-- the heap that the law's call begins with: the script, if K does not hold it, and the empty tables -/
def Beg (K : PySem.W.Frag) (a : Addr) (tb : List Addr) (vs : List Value) (ns : List Int) : Hp := fun b => if b ∈ tb then some (.tbl #[]) else if b = a ∧ (K.lookup a).isNone then some (.frz (lstO vs) (.lst (ns.map V.int))) else none
theorem beg_cases (b : Addr) : (b ∈ tb ∧ Beg K a tb vs ns b = some (.tbl #[])) ∨ (b ∉ tb ∧ b = a ∧ K.lookup a = none ∧ Beg K a tb vs ns b = some (.frz (lstO vs) (.lst (ns.map V.int)))) ∨ (b ∉ tb ∧ Beg K a tb vs ns b = none) := by
  unfold Beg
  by_cases h : b ∈ tb
  · exact .inl ⟨h, if_pos h⟩
  · by_cases e : b = a ∧ (K.lookup a).isNone
    · exact .inr (.inl ⟨h, e.1, Option.isNone_iff_eq_none.mp e.2, by rw [if_neg h, if_pos e]⟩)
    · exact .inr (.inr ⟨h, by rw [if_neg h, if_neg e]⟩)
/-- what is neither a row of things nor an empty table is not tracked -/
theorem beg_off {b : Addr} {o : Obj} (h1 : ∀ b ∈ tb, s1.heap.get? b = some emptyO) (h2 : s1.heap.get? a = some (lstO vs)) (ho : s1.heap.get? b = some o) (n1 : o.data ≠ .fields #[]) (n2 : ∀ us n, o.data ≠ .seq us n) : Beg K a tb vs ns b = none := by
  rcases beg_cases (K := K) (a := a) (tb := tb) (vs := vs) (ns := ns) b with ⟨h, _⟩ | ⟨_, rfl, _⟩ | ⟨_, e⟩
  · have z := ho.symm.trans (h1 b h)
    cases z
    exact absurd rfl n1
  · have z := ho.symm.trans h2
    cases z
    exact absurd rfl (n2 _ _)
  · exact e
theorem beg_ns {b : Addr} {m : Str → Option Value} (h1 : ∀ b ∈ tb, s1.heap.get? b = some emptyO) (h2 : s1.heap.get? a = some (lstO vs)) (h : s1.heap.Ns b m) : (hidT s1.heap (Beg K a tb vs ns)).Ns b m := by
  obtain ⟨o, es, ep, e, d, r⟩ := h
  exact ⟨o, es, ep, hidT_get e (beg_off h1 h2 e (fun z => by rw [d] at z; cases z) fun _ _ z => by rw [d] at z; cases z), d, r⟩
theorem beg_kin (KX : K.In s1.heap) (h2 : s1.heap.get? a = some (lstO vs)) (nT : ∀ b ∈ tb, K.lookup b = none) : K.In (hidT s1.heap (Beg K a tb vs ns)) := fun b o e => by
  refine hidT_get (KX b o e) ?_
  rcases beg_cases (K := K) (a := a) (tb := tb) (vs := vs) (ns := ns) b with ⟨h, _⟩ | ⟨_, rfl, l, _⟩ | ⟨_, q⟩
  · rw [nT b h] at e
    cases e
  · rw [l] at e
    cases e
  · exact q
theorem beg_ok (h1 : ∀ b ∈ tb, s1.heap.get? b = some emptyO) (h2 : s1.heap.get? a = some (lstO vs)) (rv : Vals (ns.map V.int) vs) (hl : ns.length ≤ sizeLine) : HOk P w (Beg K a tb vs ns) s1.heap := fun b u z => by
  rcases beg_cases (K := K) (a := a) (tb := tb) (vs := vs) (ns := ns) b with ⟨h, q⟩ | ⟨_, rfl, _, q⟩ | ⟨_, q⟩
  · cases q.symm.trans z
    exact h1 b h
  · cases q.symm.trans z
    exact ⟨h2, by rw [List.length_map]; exact hl, vs, _, rv, h2⟩
  · cases q.symm.trans z
theorem beg_script (KX : K.In s1.heap) (h1 : ∀ b ∈ tb, s1.heap.get? b = some emptyO) (h2 : s1.heap.get? a = some (lstO vs)) (rv : Vals (ns.map V.int) vs) (hl : ns.length ≤ sizeLine) (hv : vs.length = ns.length) : SqL K (Beg K a tb vs ns) a (ns.map V.int) := by
  have na : a ∉ tb := fun z => by
    have q := (h1 a z).symm.trans h2
    cases q
  cases l : K.lookup a with
  | none => exact .inl (.inr ⟨lstO vs, by unfold Beg; rw [if_neg na, if_pos ⟨rfl, by rw [l]; rfl⟩]⟩)
  | some o =>
    have q := (KX a o l).symm.trans h2
    cases q
    exact .inr ⟨_, vs.toArray, _, l, rfl, rfl, rfl, by rw [List.size_toArray, hv]; exact hl, by simpa using rv⟩
theorem beg_tab {c t : Addr} (h1 : ∀ b ∈ tb, s1.heap.get? b = some emptyO) (h2 : s1.heap.get? a = some (lstO vs)) (hns : s1.heap.Ns mainGlobals mg) (ht : t ∈ tb) (C : PySem.W.CodeHd s1.heap c t) (hbm : ∃ (bm : Addr) (ob : Obj), mg "__builtins__" = some (.ref bm) ∧ bm ≠ builtinsNs ∧ s1.heap.get? bm = some ob ∧ ob.cls = .type "module" ∧ ob.dict = some builtinsNs ∧ ob.data = .plain) :
    TabB (hidT s1.heap (Beg K a tb vs ns)) mg c t := by
  obtain ⟨g, es, ep, g1, g2, _⟩ := hns
  refine ⟨?_, ?_, fun z => ?_⟩
  · obtain ⟨o, us, file, tf, flags, tg, inF, text, tt, e1, r1, r2, r3, rest⟩ := C
    refine ⟨o, us, file, tf, flags, tg, inF, text, tt, hidT_get e1 (beg_off h1 h2 e1 (fun z => ?_) fun _ _ z => ?_), r1, r2, r3, rest⟩ <;> rw [r2] at z <;> cases z
    simp at r3
  · obtain ⟨bi, ob, b1, b2, b3, b4, b5, b6⟩ := hbm
    refine ⟨bi, ob, b1, b2, fun q => ?_, fun q => ?_, hidT_get b3 (beg_off h1 h2 b3 (fun z => ?_) fun _ _ z => ?_), b4, b5, b6⟩
    · rw [q, g1] at b3
      cases b3
      rw [g2] at b6
      cases b6
    · rw [q, h1 t ht] at b3
      cases b3
      cases b6
    · rw [b6] at z
      cases z
    · rw [b6] at z
      cases z
  · have q := (h1 t ht).symm.trans (z ▸ g1)
    cases q
    cases g2
/-- the law's call, where its promise is kept with no repr under way -/
theorem call_law (KX : K.In s1.heap) (hns : s1.heap.Ns mainGlobals mg) (hb : s1.heap.Ns builtinsNs mb) (hbb : ∀ y : Str, y ≠ "__name__" → mb y = bootBuiltins y) (hlim : s1.heap.NoLimit) (hg : s1.gens = #[])
    (h1 : ∀ b ∈ cs.map (·.2), s1.heap.get? b = some emptyO) (nT : ∀ b ∈ cs.map (·.2), K.lookup b = none) (C : ∀ p ∈ cs, PySem.W.CodeHd s1.heap p.1 p.2)
    (hbm : ∃ (bm : Addr) (ob : Obj), mg "__builtins__" = some (.ref bm) ∧ bm ≠ builtinsNs ∧ s1.heap.get? bm = some ob ∧ ob.cls = .type "module" ∧ ob.dict = some builtinsNs ∧ ob.data = .plain)
    (h2 : s1.heap.get? a = some (lstO vs)) (hi : IntsAre vs ns) (hl : ns.length ≤ sizeLine) (hr : Room k callerA)
    (F : ∀ base : Heap, K.In base → base.Ns mainGlobals mg → (∀ p ∈ cs, TabB base mg p.1 p.2) → FnG P w K mg base k fa fd [x] sp) (hbind : ∀ (s : Shared) (u : Value), BindsTo s fd ⟨[u], []⟩ [(x, u)])
    (hsp : ∀ H : Hp, (∀ p ∈ cs, H p.2 = some (.tbl #[])) → SqL K H a (ns.map V.int) → sp [.ref a] H (fun v _ => v = .bl true) fun _ _ _ => False) :
    codeAny (model P w) callerA (.call (.ref fa) ⟨[.ref a], []⟩) (fun r s' => r = .ok (.ret (.bool true)) ∧ OldK s1.heap s'.heap ∧ s'.os = s1.os ∧ AllBare s'.gens) s1 := by
  have rv := vals_ints hi
  have hin : ∀ p ∈ cs, p.2 ∈ cs.map (·.2) := fun p hp => List.mem_map.mpr ⟨p, hp, rfl⟩
  have kin := beg_kin (a := a) (vs := vs) (ns := ns) KX h2 nT
  have nsB := beg_ns (K := K) (vs := vs) (ns := ns) h1 h2 hns
  have hok := beg_ok (P := P) (w := w) (K := K) h1 h2 rv hl
  have hM : L2.Mod K mg (hidT s1.heap (Beg K a (cs.map (·.2)) vs ns)) := ⟨kin, nsB, ⟨mb, beg_ns h1 h2 hb, hbb⟩, let ⟨mc, l1, l2⟩ := hlim; ⟨mc, beg_ns h1 h2 l1, l2⟩⟩
  have e0 : Env0 P w K mg (hidT s1.heap (Beg K a (cs.map (·.2)) vs ns)) callerA [] s1 (Beg K a (cs.map (·.2)) vs ns) := ⟨rfl, hM, fun b o e => of_hidT e, Nat.le_of_eq (hidT_size _ _), trivial, fun b hb => absurd (show b ∈ ([] : List Addr) from hb) (by simp), hok, .of_eq hg⟩
  have G := F _ kin nsB fun p hp => beg_tab h1 h2 hns (hin p hp) (C p hp) hbm
  have tbl : ∀ b ∈ cs.map (·.2), Beg K a (cs.map (·.2)) vs ns b = some (.tbl #[]) := fun b hb => if_pos hb
  have start := hsp _ (fun p hp => tbl _ (hin p hp)) (beg_script KX h1 h2 rv hl hi.length)
  generalize hH : Beg K a (cs.map (·.2)) vs ns = H at *
  refine codeAny_mono (G.does callerA [] s1 H ⟨[.ref a], []⟩ [.ref a] [.ref a] _ _ hr rfl e0 (hbind s1 (.ref a)) (.cons rfl .nil) start) fun r s2 h => ?_
  match r, h with
  | .ok (.ret u), ⟨v, H2, os, bare, un, hok2, ru, q⟩ =>
    have qv : v = .bl true := q
    subst qv
    obtain rfl : u = Value.bool true := ru
    have same : ∀ b o, b ∉ cs.map (·.2) → s1.heap.get? b = some o → s2.heap.get? b = some o := fun b o nb e => by
      have bc := beg_cases (K := K) (a := a) (tb := cs.map (·.2)) (vs := vs) (ns := ns) b
      rw [hH] at bc
      rcases bc with ⟨z, _⟩ | ⟨_, _, _, z⟩ | ⟨_, z⟩
      · exact absurd z nb
      · have z2 := un.frzs b _ _ z
        have y1 := (hok b _ z).1
        have y2 := (hok2 b _ z2).1
        rw [e] at y1
        rw [y2, y1]
      · exact un.keep b o e z (by simp [frs]) (by simp)
    have more : ∀ p ∈ cs, ∃ ps : Array Value, s2.heap.get? p.2 = some { cls := .none, data := .fields ps } := fun p hp => by
      obtain ⟨ps, z⟩ := un.tbls p.2 #[] (tbl _ (hin p hp))
      exact ⟨_, hok2 p.2 _ z⟩
    refine ⟨rfl, ⟨fun b o e => ?_, fun b o e => ?_⟩, os, bare⟩ <;> by_cases nb : b ∈ cs.map (·.2)
    · obtain ⟨p, hp, rfl⟩ := List.mem_map.mp nb
      obtain ⟨ps, hm⟩ := more p hp
      have z := e.symm.trans (h1 _ nb)
      cases z
      exact .inr (.inl ⟨((C p hp).tab (h1 _ nb)).isCodeTable, rfl, #[], ps, rfl, by rw [Array.empty_append]; exact hm⟩)
    · exact .inl (same b o nb e)
    · obtain ⟨p, hp, rfl⟩ := List.mem_map.mp nb
      obtain ⟨ps, hm⟩ := more p hp
      exact ⟨_, hm⟩
    · exact ⟨o, same b o nb e⟩
end
end Mine
namespace Mine
open PySem L2 PySem.Spec PyProof.Rows LamX NdefX
/-! ### what the written part is asked -/
def inSt (i : Nat) : Stmt := match top i with
  | .ClassDef _ _ _ b .. => b.getD 0 (.Pass ⟨0, 0, 0, 0⟩)
  | _ => .Pass ⟨0, 0, 0, 0⟩
def dS (i : Nat) (x : Str) : He.DefD := ⟨(x, none), x, x, defArgs (top i), defBody (top i), defScope (top i), [], []⟩
def dI (i : Nat) (x q : Str) : He.DefD := ⟨(x, some "__init__"), "__init__", q, defArgs (inSt i), defBody (inSt i), defScope (inSt i), [], []⟩
def dM (i : Nat) (m q : Str) : He.DefD := ⟨("Signs", some m), m, q, defArgs (mth i), defBody (mth i), defScope (mth i), [], []⟩
def fnL : List He.DefD := [dS 6 "is_list", dS 7 "is_integer", dS 9 "is_picture", dS 10 "need_picture", dS 14 "fault_of", dS 15 "read_number", dS 16 "read_integer", dS 18 "picture_text", dS 19 "row_text", dS 20 "read_picture", dS 21 "read_row", dS 22 "signs_behind", dS 23 "picture_fault", dS 25 "_law_a_picture", dS 26 "_law_a_spoiled", dS 27 "_law_a_bent", dS 28 "_law_a_due", dS 29 "_law_a_lines", dS 30 "_law_a_sees", dS 31 "_law_a_integer", dS 32 "_law_start", dS 33 "_law_draw", dS 34 "_law_pick", dS 35 "_law_same", dS 36 "_law_loose", dS 37 "_law_met", dS 38 "_law_wrong", dS 39 "_law_text_right", dS 40 "_law_strings_right", dS 41 "_law_drawn", dS 42 "law", dM 0 "__init__" "Signs.__init__", dM 1 "ended" "Signs.ended", dM 2 "seen" "Signs.seen", dM 3 "sees" "Signs.sees", dM 4 "wrong" "Signs.wrong", dM 5 "take" "Signs.take", dM 6 "one_of" "Signs.one_of", dI 2 "BadPicture" "BadPicture.__init__", dI 3 "BadText" "BadText.__init__"]
def faL : List He.Fa := [.glo "is_list", .glo "is_integer", .glo "is_picture", .glo "need_picture", .glo "fault_of", .glo "read_number", .glo "read_integer", .glo "picture_text", .glo "row_text", .glo "read_picture", .glo "read_row", .glo "signs_behind", .glo "picture_fault", .glo "_law_a_picture", .glo "_law_a_spoiled", .glo "_law_a_bent", .glo "_law_a_due", .glo "_law_a_lines", .glo "_law_a_sees", .glo "_law_a_integer", .glo "_law_start", .glo "_law_draw", .glo "_law_pick", .glo "_law_same", .glo "_law_loose", .glo "_law_met", .glo "_law_wrong", .glo "_law_text_right", .glo "_law_strings_right", .glo "_law_drawn", .glo "law", .glo "BadPicture", .glo "BadText", .glo "Signs", .free "isinstance", .free "list", .free "tuple", .free "dict", .free "int", .free "bool", .free "len", .free "all", .free "zip", .free "range", .free "str", .free "repr", .free "enumerate", .str "FIGURES" "0123456789", .int "MOST_FIGURES" 16, .cls "Signs", .mkr "Signs", .noat "Signs" "_text", .noat "Signs" "_done", .noat "Signs" "_at_line", .noat "Signs" "_at_sign", .meth "Signs" "ended", .meth "Signs" "seen", .meth "Signs" "sees", .meth "Signs" "wrong", .meth "Signs" "take", .meth "Signs" "one_of", .exm "BadPicture" "BadPicture" true, .exm "BadText" "BadPicture" false, .exm "BadText" "BadText" true]
def shapeB (K : PySem.W.Frag) (C : Addr) : Bool := match K.lookup C with
  | some ⟨.type "type", _, .cls cl, sl⟩ => (match cl.mro, sl.toList with
    | .ref D :: bm, [_, _, _, _, some (.builtin m), _] => decide (D = C) && (decide (m = "ValueError.__new__") && (!cl.hasDel && (cl.hasDict && PySem.HandSPX.refsVE bm)))
    | _, _ => false)
  | _ => false

def oexB (K : PySem.W.Frag) (C : Addr) : Bool := shapeB K C && (decide (PySem.W.findIn K (.ref C) "__setattr__" = some (some (.builtin "object.__setattr__"))) && (decide (PySem.W.typeIn K (.ref C) = some (.type "type")) && PySem.W.keepIn K (.ref C)))
def iniB (K : PySem.W.Frag) (C : Addr) : Bool := decide (PySem.W.findIn K (.ref C) "__init__" = some (some (.ref (He.ma K C "__init__")))) && decide (PySem.W.typeIn K (.ref (He.ma K C "__init__")) = some (.type "function"))
def fldB (K : PySem.W.Frag) (C : Addr) (fs : List Str) : Bool := fs.all fun f => decide (PySem.W.findIn K (.ref C) f = some none)
/-- an own exception: all that is asked of it -/
def ownB (K : PySem.W.Frag) (x : Str) (fs : List Str) : Bool := xfB K (He.ga K x) && (oexB K (He.ga K x) && (iniB K (He.ga K x) && fldB K (He.ga K x) fs))
def tfL : List He.Defn := [("_law_strings_right", none), ("law", none)]
def apart (K : PySem.W.Frag) : Bool := decide ((He.cT K ("_law_strings_right", none)).2 ≠ (He.cT K ("law", none)).2)
def exL (K : PySem.W.Frag) : Bool := apart K && (ownB K "BadPicture" ["thing"] && ownB K "BadText" ["line", "sign"])
abbrev Rw : PySem.W.OpenRow := PySem.W.OpenLaw.row PySem.Challenge.rw_partswithin_k04_whole_picture_texts
abbrev hkL : PySem.W.Hook := He.hookX 4 faL fnL [] tfL exL
def obL (s : PySem.W.SharedT) : He.AlX := He.obsX 4 faL fnL [] tfL exL (HandSHeadRun.getT s)
theorem obL_eq (s : PySem.W.SharedT) : obL s = hkL.obs s.abs := He.obsX_eq (HandSHeadRun.getT_eq s)
def lsA : List Str := ["is_list", "is_integer", "is_picture", "need_picture", "fault_of", "read_number", "read_integer", "picture_text", "row_text", "read_picture", "read_row", "signs_behind", "picture_fault", "_law_a_picture", "_law_a_spoiled", "_law_a_bent", "_law_a_due", "_law_a_lines", "_law_a_sees", "_law_a_integer"]
def lsB : List Str := ["_law_start", "_law_draw", "_law_pick", "_law_same", "_law_loose", "_law_met", "_law_wrong", "_law_text_right", "_law_strings_right", "_law_drawn", "PartsError", "BadPicture", "BadText", "FIGURES", "MOST_FIGURES", "Signs"]
def lsL : List Str := lsA ++ lsB
theorem runL (w : World) : HandSHeadRun.RunEq Rw (PySem.W.view Rw.prog [42]) hkL obL 8000 lsL w := by
  intro os
  kernel_rfl
end Mine
namespace Mine
open PySem L2 PySem.Spec PyProof.Rows LamX NdefX
section
variable {w : World} {P : Program} {base : Heap} {K : PySem.W.Frag} {mg : Str → Option Value}
theorem plain_def {x q : Str} {st : Stmt} {f : Addr} {fd : FuncData} (F : FunD K x q (defArgs st) (defBody st) (defScope st) [] [] f fd) : Fun K x q st f fd := by
  obtain ⟨oc, od, dV, kV, doc, pm, an, cdv, ct, osl, e, lk, hcd, hD, _⟩ := F.ex
  rcases hD with ⟨_, rfl⟩ | ⟨n, _⟩
  · exact ⟨⟨oc, od, kV, doc, pm, an, cdv, ct, osl, e, lk, hcd⟩, F.kp⟩
  · exact absurd rfl n
theorem code_def {x q : Str} {st : Stmt} {p : He.Defn} {fd : FuncData} (F : FunD K x q (defArgs st) (defBody st) (defScope st) [] [] (He.fAd K p) fd) : FunC K x q st (He.fAd K p) fd (He.cT K p).1 := by
  obtain ⟨oc, od, dV, kV, doc, pm, an, cdv, ct, osl, e, lk, hcd, hD, _⟩ := F.ex
  rcases hD with ⟨_, rfl⟩ | ⟨n, _⟩
  · obtain ⟨c, rfl⟩ := He.codeIn_ref hcd
    have z : He.codeOf K p = c := He.codeOf_eq lk (by rw [e])
    have z2 : (He.cT K p).1 = c := z
    rw [z2]
    exact ⟨⟨oc, od, kV, doc, pm, an, ct, osl, e, lk, hcd⟩, F.kp⟩
  · exact absurd rfl n
theorem shape_ok {C : Addr} (h : shapeB K C = true) : ∃ nm q N bs bm sn sub ab col dd k0 k1 k2 k3 k5, K.lookup C = some (excClassObj nm q C N bs bm true sn sub ab col dd k0 k1 k2 k3 k5 "ValueError.__new__") ∧ PySem.HandSPX.refsVE bm = true := by
  unfold shapeB at h
  split at h
  · rename_i dd cd sl ho
    split at h
    · rename_i D bm k0 k1 k2 k3 m k5 hm hs
      simp only [Bool.and_eq_true, decide_eq_true_eq, Bool.not_eq_true'] at h
      obtain ⟨rfl, rfl, h3, h4, h5⟩ := h
      obtain ⟨nm, bs, up, ns, qn, hd, sn, sub, ab, col, del⟩ := cd
      dsimp only at hm h3 h4
      subst hm h3 h4
      obtain ⟨l⟩ := sl
      dsimp only at hs
      subst hs
      exact ⟨nm, qn, ns, bs, bm, sn, sub, ab, col, dd, k0, k1, k2, k3, k5, ho, h5⟩
    · cases h
  · cases h

structure OwnOk (K : PySem.W.Frag) (C : Addr) (fs : List Str) : Prop where
  oex : OexC K C
  xf : XfC K C
  ini : PySem.W.findIn K (.ref C) "__init__" = some (some (.ref (He.ma K C "__init__")))
  fn : PySem.W.typeIn K (.ref (He.ma K C "__init__")) = some (.type "function")
  no : ∀ f ∈ fs, PySem.W.findIn K (.ref C) f = some none
theorem own_ok {x : Str} {fs : List Str} (h : ownB K x fs = true) : OwnOk K (He.ga K x) fs := by
  unfold ownB at h
  obtain ⟨h1, h⟩ := He.ba h
  obtain ⟨h2, h⟩ := He.ba h
  obtain ⟨h3, h4⟩ := He.ba h
  have xf := xfB_ok h1
  unfold oexB at h2
  unfold iniB at h3
  unfold fldB at h4
  simp only [Bool.and_eq_true, decide_eq_true_eq] at h2 h3
  exact ⟨⟨shape_ok h2.1, h2.2.1, xf.exC, h2.2.2.1, h2.2.2.2⟩, xf, h3.1, h3.2, fun f hf => of_decide_eq_true (List.all_eq_true.mp h4 f hf)⟩
theorem vals_rev : ∀ {b : List V} {d : List Value}, Vals b d → Vals b.reverse d.reverse
  | _, _, .nil => .nil
  | _, _, .cons r t => by
    simp only [List.reverse_cons]
    exact Vals.append (vals_rev t) (.cons r .nil)
theorem xc1_of {C : Addr} {x q p : Str} {st : Stmt} {fd : FuncData} {q1 q2 q3 q4 : Pos} (c : OwnOk K C [p]) (g : mg x = some (.ref (C))) (F : FunD K "__init__" q (defArgs st) (defBody st) (defScope st) [] [] (He.ma K (C) "__init__") fd)
    (hb : defBody st = [.Assign [.Attribute (.Name "self" q1) p q2] (.Name p q3) q4]) (S : FnScope ["self", p] ["self", p] (defScope st)) (h0 : (defScope st).names.lookup ("self" : Str) = some NameKind.local) (h1 : (defScope st).names.lookup p = some NameKind.local) (hd : (p == ("__debug__" : Str)) = false) (hcd : (p == ("__classdict__" : Str)) = false)
    (b1 : ∀ (kV doc pm : Value) (an : Option Addr) (cdv ct u v : Value), bindArgs (PySem.W.fnOf "__init__" q (defArgs st) (defBody st) (defScope st) .none kV doc pm an cdv ct) ⟨[u, v], []⟩ = pure [(("self" : Str), u), (p, v)])
    (b2 : ∀ (kV doc pm : Value) (an : Option Addr) (cdv ct u v : Value), bindArgs (PySem.W.fnOf "__init__" q (defArgs st) (defBody st) (defScope st) .none kV doc pm an cdv ct) ⟨[u], [(p, v)]⟩ = pure [(("self" : Str), u), (p, v)]) : XC1 P w K mg base x (C) p p := by
  have F1 := plain_def F
  refine ⟨c.oex, c.no p (List.mem_cons_self ..), g, _, fd, c.ini, c.fn, ok_init1 F1 S hb h0 h1 hd hcd, F.bindsN fun kV doc pm an cdv ct us hl => ?_, ?_⟩
  · match us, hl with
    | [u, v], _ => exact b1 kV doc pm an cdv ct u v
  · obtain ⟨oc, od, kV, doc, pm, an, cdv, ct, osl, rfl, _, _⟩ := F1.ex
    refine ⟨fun s us ws _ hu hw => ?_, fun r z => Vals.append r z⟩
    match us, ws, hu, hw with
    | [u], [v], _, _ => exact .of_eq (b2 kV doc pm an cdv ct u v)
theorem xc2_of {C : Addr} {x q p r : Str} {st : Stmt} {fd : FuncData} {q1 q2 q3 q4 r1 r2 r3 r4 : Pos} (c : OwnOk K C [p, r]) (g : mg x = some (.ref (C))) (F : FunD K "__init__" q (defArgs st) (defBody st) (defScope st) [] [] (He.ma K (C) "__init__") fd)
    (hb : defBody st = [.Assign [.Attribute (.Name "self" q1) p q2] (.Name p q3) q4, .Assign [.Attribute (.Name "self" r1) r r2] (.Name r r3) r4]) (S : FnScope ["self", p, r] ["self", p, r] (defScope st)) (h0 : (defScope st).names.lookup ("self" : Str) = some NameKind.local) (h1 : (defScope st).names.lookup p = some NameKind.local) (h2 : (defScope st).names.lookup r = some NameKind.local)
    (hd : (p == ("__debug__" : Str)) = false) (hcd : (p == ("__classdict__" : Str)) = false) (hd2 : (r == ("__debug__" : Str)) = false) (hcd2 : (r == ("__classdict__" : Str)) = false)
    (b1 : ∀ (kV doc pm : Value) (an : Option Addr) (cdv ct u v y : Value), bindArgs (PySem.W.fnOf "__init__" q (defArgs st) (defBody st) (defScope st) .none kV doc pm an cdv ct) ⟨[u, v, y], []⟩ = pure [(("self" : Str), u), (p, v), (r, y)])
    (b2 : ∀ (kV doc pm : Value) (an : Option Addr) (cdv ct u v y : Value), bindArgs (PySem.W.fnOf "__init__" q (defArgs st) (defBody st) (defScope st) .none kV doc pm an cdv ct) ⟨[u], [(r, y), (p, v)]⟩ = pure [(("self" : Str), u), (p, v), (r, y)]) : XC2 P w K mg base x (C) p r p r := by
  have F1 := plain_def F
  refine ⟨c.oex, c.no p (List.mem_cons_self ..), c.no r (List.mem_cons_of_mem _ (List.mem_cons_self ..)), g, _, fd, c.ini, c.fn, ok_init2 F1 S hb h0 h1 h2 hd hcd hd2 hcd2, F.bindsN fun kV doc pm an cdv ct us hl => ?_, ?_⟩
  · match us, hl with
    | [u, v, y], _ => exact b1 kV doc pm an cdv ct u v y
  · obtain ⟨oc, od, kV, doc, pm, an, cdv, ct, osl, rfl, _, _⟩ := F1.ex
    refine ⟨fun s us ws _ hu hw => ?_, fun ra z => ?_⟩
    · match us, ws, hu, hw with
      | [u], [y, v], _, _ => exact .of_eq (b2 kV doc pm an cdv ct u v y)
    · exact Vals.append ra (vals_rev z)

end
section
variable {P : Program} {w : World} {K : PySem.W.Frag} {mg : Str → Option Value} {h base : Heap}
theorem one_bind {x q p : Str} {st : Stmt} {f : Addr} {fd : FuncData} (F : FunD K x q (defArgs st) (defBody st) (defScope st) [] [] f fd) (b : ∀ (kV doc pm : Value) (an : Option Addr) (cdv ct u : Value), bindArgs (PySem.W.fnOf x q (defArgs st) (defBody st) (defScope st) .none kV doc pm an cdv ct) ⟨[u], []⟩ = pure [(p, u)]) : Binds K fd [p] [] :=
  F.bindsN fun kV doc pm an cdv ct us hl => match us, hl with
    | [u], _ => b kV doc pm an cdv ct u
theorem two_bind {x q p r : Str} {st : Stmt} {f : Addr} {fd : FuncData} (F : FunD K x q (defArgs st) (defBody st) (defScope st) [] [] f fd) (b : ∀ (kV doc pm : Value) (an : Option Addr) (cdv ct u v : Value), bindArgs (PySem.W.fnOf x q (defArgs st) (defBody st) (defScope st) .none kV doc pm an cdv ct) ⟨[u, v], []⟩ = pure [(p, u), (r, v)]) : Binds K fd [p, r] [] :=
  F.bindsN fun kV doc pm an cdv ct us hl => match us, hl with
    | [u, v], _ => b kV doc pm an cdv ct u v
theorem three_bind {x q p r t : Str} {st : Stmt} {f : Addr} {fd : FuncData} (F : FunD K x q (defArgs st) (defBody st) (defScope st) [] [] f fd) (b : ∀ (kV doc pm : Value) (an : Option Addr) (cdv ct u v y : Value), bindArgs (PySem.W.fnOf x q (defArgs st) (defBody st) (defScope st) .none kV doc pm an cdv ct) ⟨[u, v, y], []⟩ = pure [(p, u), (r, v), (t, y)]) : Binds K fd [p, r, t] [] :=
  F.bindsN fun kV doc pm an cdv ct us hl => match us, hl with
    | [u, v, y], _ => b kV doc pm an cdv ct u v y

theorem four_bind {x q p r t y : Str} {st : Stmt} {f : Addr} {fd : FuncData} (F : FunD K x q (defArgs st) (defBody st) (defScope st) [] [] f fd) (b : ∀ (kV doc pm : Value) (an : Option Addr) (cdv ct u v z o : Value), bindArgs (PySem.W.fnOf x q (defArgs st) (defBody st) (defScope st) .none kV doc pm an cdv ct) ⟨[u, v, z, o], []⟩ = pure [(p, u), (r, v), (t, z), (y, o)]) : Binds K fd [p, r, t, y] [] :=
  F.bindsN fun kV doc pm an cdv ct us hl => match us, hl with
    | [u, v, z, o], _ => b kV doc pm an cdv ct u v z o
theorem kw_bind {x q p : Str} {st : Stmt} {f : Addr} {fd : FuncData} (F : FunD K x q (defArgs st) (defBody st) (defScope st) [] [] f fd) (b : ∀ (kV doc pm : Value) (an : Option Addr) (cdv ct u : Value), bindArgs (PySem.W.fnOf x q (defArgs st) (defBody st) (defScope st) .none kV doc pm an cdv ct) ⟨[], [(p, u)]⟩ = pure [(p, u)]) : KBn K fd [p] 0 [p] (fun us ws => us ++ ws) (fun vs zs => vs ++ zs) := by
  obtain ⟨oc, od, kV, doc, pm, an, cdv, ct, osl, rfl, _, _⟩ := (plain_def F).ex
  refine ⟨fun s us ws _ hu hw => ?_, fun r z => Vals.append r z⟩
  match us, ws, hu, hw with
  | [], [u], _, _ => exact .of_eq (b kV doc pm an cdv ct u)
/-- the tables of the lambdas' code -/
def tbT (K : PySem.W.Frag) : List (Addr × Str) := [((He.cT K ("_law_strings_right", none)).2, ("_law_strings_right" ++ ".<locals>." : Str) ++ "<lambda>"), ((He.cT K ("law", none)).2, ("law" ++ ".<locals>." : Str) ++ "<lambda>")]
theorem lean_of (X : K.In h) (G : h.Ns mainGlobals mg) (c : He.SaysD faL fnL K) (m : exL K = true) (TB : ∀ p ∈ tfL.map (He.cT K), TabB base mg p.1 p.2) : Lean4 P w K mg base (He.ga K "BadPicture") (He.ga K "BadText") (tbT K) ∧ MetT K mg (He.ga K "BadPicture") (He.ga K "BadText") ∧
    ∃ fdM, Fun K "_law_met" "_law_met" sMet (He.ga K "_law_met") fdM ∧ mg "_law_met" = some (.ref (He.ga K "_law_met")) ∧ Binds K fdM ["_law_ask"] [] := by
  have g : ∀ {i : Nat} {x : Str}, faL[i]? = some (He.Fa.glo x) → mg x = some (.ref (He.ga K x)) := fun e => He.glo_ok X G (c.fact _ e)
  have fr : ∀ {i : Nat} {x : Str}, faL[i]? = some (He.Fa.free x) → mg x = none := fun e => He.free_ok X G (c.fact _ e)
  unfold exL at m
  obtain ⟨m1, m2⟩ := He.ba m
  obtain ⟨m2, m3⟩ := He.ba m2
  have ap : (He.cT K ("_law_strings_right", none)).2 ≠ (He.cT K ("law", none)).2 := of_decide_eq_true m1
  have oP := own_ok m2
  have oT := own_ok m3
  have hTS4 : TS4 mg := ⟨fr (i := 34) rfl, fr (i := 35) rfl, fr (i := 36) rfl, fr (i := 37) rfl, fr (i := 38) rfl, fr (i := 39) rfl, fr (i := 40) rfl, fr (i := 41) rfl, fr (i := 42) rfl⟩
  have hTxtD : TxtD K mg := ⟨fr (i := 38) rfl, fr (i := 35) rfl, fr (i := 43) rfl, fr (i := 40) rfl⟩
  have hTI4 : TI4 mg := ⟨fr (i := 43) rfl, fr (i := 38) rfl, fr (i := 40) rfl, fr (i := 46) rfl⟩
  have hTR4 : TR4 mg := ⟨fr (i := 44) rfl⟩
  have hTRx : TRx mg := ⟨fr (i := 44) rfl, fr (i := 45) rfl⟩
  have hTSr : TSr mg := ⟨fr (i := 43) rfl, fr (i := 40) rfl⟩
  have hTLw : TLw mg := ⟨fr (i := 43) rfl, fr (i := 44) rfl⟩
  have cls : Cls K (He.ga K "Signs") := He.cls_ok (c.fact 49 rfl)
  have n0 : NoAttr K (He.ga K "Signs") "_text" := He.noat_ok (c.fact 51 rfl)
  have n1 : NoAttr K (He.ga K "Signs") "_done" := He.noat_ok (c.fact 52 rfl)
  have n2 : NoAttr K (He.ga K "Signs") "_at_line" := He.noat_ok (c.fact 53 rfl)
  have n3 : NoAttr K (He.ga K "Signs") "_at_sign" := He.noat_ok (c.fact 54 rfl)
  have hSg : SgT K mg (He.ga K "Signs") := ⟨cls, n0, n1, n2, n3, fr (i := 40) rfl⟩
  have hIn : IniT K mg (He.ga K "Signs") := ⟨cls, n0, n1, n2, n3, fr (i := 34) rfl, fr (i := 44) rfl⟩
  have hCon : ConT mg := ⟨He.str_ok X G (c.fact 47 rfl), He.int_ok X G (c.fact 48 rfl), fr (i := 38) rfl, fr (i := 40) rfl⟩
  obtain ⟨f_is_list, F_is_list⟩ := c.def_ 0 (d := dS 6 "is_list") rfl
  have b_is_list : Binds K f_is_list ["thing"] [] := one_bind (st := top 6) F_is_list fun _ _ _ _ _ _ _ => rfl
  have g_is_list : mg "is_list" = some (.ref (He.ga K "is_list")) := (g (i := 0) rfl)
  obtain ⟨f_is_integer, F_is_integer⟩ := c.def_ 1 (d := dS 7 "is_integer") rfl
  have b_is_integer : Binds K f_is_integer ["thing"] [] := one_bind (st := top 7) F_is_integer fun _ _ _ _ _ _ _ => rfl
  have g_is_integer : mg "is_integer" = some (.ref (He.ga K "is_integer")) := (g (i := 1) rfl)
  obtain ⟨f_is_picture, F_is_picture⟩ := c.def_ 2 (d := dS 9 "is_picture") rfl
  have b_is_picture : Binds K f_is_picture ["thing"] [] := one_bind (st := top 9) F_is_picture fun _ _ _ _ _ _ _ => rfl
  have g_is_picture : mg "is_picture" = some (.ref (He.ga K "is_picture")) := (g (i := 2) rfl)
  obtain ⟨f_need_picture, F_need_picture⟩ := c.def_ 3 (d := dS 10 "need_picture") rfl
  have b_need_picture : Binds K f_need_picture ["picture"] [] := one_bind (st := top 10) F_need_picture fun _ _ _ _ _ _ _ => rfl
  have g_need_picture : mg "need_picture" = some (.ref (He.ga K "need_picture")) := (g (i := 3) rfl)
  obtain ⟨f_fault_of, F_fault_of⟩ := c.def_ 4 (d := dS 14 "fault_of") rfl
  have b_fault_of : Binds K f_fault_of ["read", "text"] [] := two_bind (st := top 14) F_fault_of fun _ _ _ _ _ _ _ _ => rfl
  have g_fault_of : mg "fault_of" = some (.ref (He.ga K "fault_of")) := (g (i := 4) rfl)
  obtain ⟨f_read_number, F_read_number⟩ := c.def_ 5 (d := dS 15 "read_number") rfl
  have b_read_number : Binds K f_read_number ["signs"] [] := one_bind (st := top 15) F_read_number fun _ _ _ _ _ _ _ => rfl
  have g_read_number : mg "read_number" = some (.ref (He.ga K "read_number")) := (g (i := 5) rfl)
  obtain ⟨f_read_integer, F_read_integer⟩ := c.def_ 6 (d := dS 16 "read_integer") rfl
  have b_read_integer : Binds K f_read_integer ["signs"] [] := one_bind (st := top 16) F_read_integer fun _ _ _ _ _ _ _ => rfl
  have g_read_integer : mg "read_integer" = some (.ref (He.ga K "read_integer")) := (g (i := 6) rfl)
  obtain ⟨f_picture_text, F_picture_text⟩ := c.def_ 7 (d := dS 18 "picture_text") rfl
  have b_picture_text : Binds K f_picture_text ["picture"] [] := one_bind (st := top 18) F_picture_text fun _ _ _ _ _ _ _ => rfl
  have g_picture_text : mg "picture_text" = some (.ref (He.ga K "picture_text")) := (g (i := 7) rfl)
  obtain ⟨f_row_text, F_row_text⟩ := c.def_ 8 (d := dS 19 "row_text") rfl
  have b_row_text : Binds K f_row_text ["row"] [] := one_bind (st := top 19) F_row_text fun _ _ _ _ _ _ _ => rfl
  have g_row_text : mg "row_text" = some (.ref (He.ga K "row_text")) := (g (i := 8) rfl)
  obtain ⟨f_read_picture, F_read_picture⟩ := c.def_ 9 (d := dS 20 "read_picture") rfl
  have b_read_picture : Binds K f_read_picture ["text"] [] := one_bind (st := top 20) F_read_picture fun _ _ _ _ _ _ _ => rfl
  have g_read_picture : mg "read_picture" = some (.ref (He.ga K "read_picture")) := (g (i := 9) rfl)
  obtain ⟨f_read_row, F_read_row⟩ := c.def_ 10 (d := dS 21 "read_row") rfl
  have b_read_row : Binds K f_read_row ["signs", "width"] [] := two_bind (st := top 21) F_read_row fun _ _ _ _ _ _ _ _ => rfl
  have g_read_row : mg "read_row" = some (.ref (He.ga K "read_row")) := (g (i := 10) rfl)
  obtain ⟨f_signs_behind, F_signs_behind⟩ := c.def_ 11 (d := dS 22 "signs_behind") rfl
  have b_signs_behind : Binds K f_signs_behind ["many", "width"] [] := two_bind (st := top 22) F_signs_behind fun _ _ _ _ _ _ _ _ => rfl
  have g_signs_behind : mg "signs_behind" = some (.ref (He.ga K "signs_behind")) := (g (i := 11) rfl)
  obtain ⟨f_picture_fault, F_picture_fault⟩ := c.def_ 12 (d := dS 23 "picture_fault") rfl
  have b_picture_fault : Binds K f_picture_fault ["text"] [] := one_bind (st := top 23) F_picture_fault fun _ _ _ _ _ _ _ => rfl
  have g_picture_fault : mg "picture_fault" = some (.ref (He.ga K "picture_fault")) := (g (i := 12) rfl)
  obtain ⟨f__law_a_picture, F__law_a_picture⟩ := c.def_ 13 (d := dS 25 "_law_a_picture") rfl
  have b__law_a_picture : Binds K f__law_a_picture ["_law_stream", "_law_rows", "_law_columns", "_law_shades"] [] := four_bind (st := top 25) F__law_a_picture fun _ _ _ _ _ _ _ _ _ _ => rfl
  have g__law_a_picture : mg "_law_a_picture" = some (.ref (He.ga K "_law_a_picture")) := (g (i := 13) rfl)
  obtain ⟨f__law_a_spoiled, F__law_a_spoiled⟩ := c.def_ 14 (d := dS 26 "_law_a_spoiled") rfl
  have b__law_a_spoiled : Binds K f__law_a_spoiled ["_law_thing"] [] := one_bind (st := top 26) F__law_a_spoiled fun _ _ _ _ _ _ _ => rfl
  have g__law_a_spoiled : mg "_law_a_spoiled" = some (.ref (He.ga K "_law_a_spoiled")) := (g (i := 14) rfl)
  obtain ⟨f__law_a_bent, F__law_a_bent⟩ := c.def_ 15 (d := dS 27 "_law_a_bent") rfl
  have b__law_a_bent : Binds K f__law_a_bent ["_law_stream", "_law_text", "_law_signs"] [] := three_bind (st := top 27) F__law_a_bent fun _ _ _ _ _ _ _ _ _ => rfl
  have g__law_a_bent : mg "_law_a_bent" = some (.ref (He.ga K "_law_a_bent")) := (g (i := 15) rfl)
  obtain ⟨f__law_a_due, F__law_a_due⟩ := c.def_ 16 (d := dS 28 "_law_a_due") rfl
  have b__law_a_due : Binds K f__law_a_due ["_law_walk", "_law_due"] [] := two_bind (st := top 28) F__law_a_due fun _ _ _ _ _ _ _ _ => rfl
  have g__law_a_due : mg "_law_a_due" = some (.ref (He.ga K "_law_a_due")) := (g (i := 16) rfl)
  obtain ⟨f__law_a_lines, F__law_a_lines⟩ := c.def_ 17 (d := dS 29 "_law_a_lines") rfl
  have b__law_a_lines : Binds K f__law_a_lines ["_law_text"] [] := one_bind (st := top 29) F__law_a_lines fun _ _ _ _ _ _ _ => rfl
  have g__law_a_lines : mg "_law_a_lines" = some (.ref (He.ga K "_law_a_lines")) := (g (i := 17) rfl)
  obtain ⟨f__law_a_sees, F__law_a_sees⟩ := c.def_ 18 (d := dS 30 "_law_a_sees") rfl
  have b__law_a_sees : Binds K f__law_a_sees ["_law_walk", "_law_sign"] [] := two_bind (st := top 30) F__law_a_sees fun _ _ _ _ _ _ _ _ => rfl
  have g__law_a_sees : mg "_law_a_sees" = some (.ref (He.ga K "_law_a_sees")) := (g (i := 18) rfl)
  obtain ⟨f__law_a_integer, F__law_a_integer⟩ := c.def_ 19 (d := dS 31 "_law_a_integer") rfl
  have b__law_a_integer : Binds K f__law_a_integer ["_law_walk", "_law_is_signed"] [] := two_bind (st := top 31) F__law_a_integer fun _ _ _ _ _ _ _ _ => rfl
  have g__law_a_integer : mg "_law_a_integer" = some (.ref (He.ga K "_law_a_integer")) := (g (i := 19) rfl)
  obtain ⟨f__law_start, F__law_start⟩ := c.def_ 20 (d := dS 32 "_law_start") rfl
  have b__law_start : Binds K f__law_start ["_law_script"] [] := one_bind (st := top 32) F__law_start fun _ _ _ _ _ _ _ => rfl
  have g__law_start : mg "_law_start" = some (.ref (He.ga K "_law_start")) := (g (i := 20) rfl)
  obtain ⟨f__law_draw, F__law_draw⟩ := c.def_ 21 (d := dS 33 "_law_draw") rfl
  have b__law_draw : Binds K f__law_draw ["_law_stream", "_law_many"] [] := two_bind (st := top 33) F__law_draw fun _ _ _ _ _ _ _ _ => rfl
  have g__law_draw : mg "_law_draw" = some (.ref (He.ga K "_law_draw")) := (g (i := 21) rfl)
  obtain ⟨f__law_pick, F__law_pick⟩ := c.def_ 22 (d := dS 34 "_law_pick") rfl
  have b__law_pick : Binds K f__law_pick ["_law_stream", "_law_some"] [] := two_bind (st := top 34) F__law_pick fun _ _ _ _ _ _ _ _ => rfl
  have g__law_pick : mg "_law_pick" = some (.ref (He.ga K "_law_pick")) := (g (i := 22) rfl)
  obtain ⟨f__law_same, F__law_same⟩ := c.def_ 23 (d := dS 35 "_law_same") rfl
  have b__law_same : Binds K f__law_same ["_law_found", "_law_due"] [] := two_bind (st := top 35) F__law_same fun _ _ _ _ _ _ _ _ => rfl
  have g__law_same : mg "_law_same" = some (.ref (He.ga K "_law_same")) := (g (i := 23) rfl)
  obtain ⟨f__law_loose, F__law_loose⟩ := c.def_ 24 (d := dS 36 "_law_loose") rfl
  have b__law_loose : Binds K f__law_loose ["_law_stream", "_law_thing"] [] := two_bind (st := top 36) F__law_loose fun _ _ _ _ _ _ _ _ => rfl
  have g__law_loose : mg "_law_loose" = some (.ref (He.ga K "_law_loose")) := (g (i := 24) rfl)
  obtain ⟨f__law_met, F__law_met⟩ := c.def_ 25 (d := dS 37 "_law_met") rfl
  have b__law_met : Binds K f__law_met ["_law_ask"] [] := one_bind (st := top 37) F__law_met fun _ _ _ _ _ _ _ => rfl
  have g__law_met : mg "_law_met" = some (.ref (He.ga K "_law_met")) := (g (i := 25) rfl)
  obtain ⟨f__law_wrong, F__law_wrong⟩ := c.def_ 26 (d := dS 38 "_law_wrong") rfl
  have b__law_wrong : Binds K f__law_wrong ["_law_text"] [] := one_bind (st := top 38) F__law_wrong fun _ _ _ _ _ _ _ => rfl
  have g__law_wrong : mg "_law_wrong" = some (.ref (He.ga K "_law_wrong")) := (g (i := 26) rfl)
  obtain ⟨f__law_text_right, F__law_text_right⟩ := c.def_ 27 (d := dS 39 "_law_text_right") rfl
  have b__law_text_right : Binds K f__law_text_right ["_law_stream", "_law_given"] [] := two_bind (st := top 39) F__law_text_right fun _ _ _ _ _ _ _ _ => rfl
  have g__law_text_right : mg "_law_text_right" = some (.ref (He.ga K "_law_text_right")) := (g (i := 27) rfl)
  obtain ⟨f__law_strings_right, F__law_strings_right⟩ := c.def_ 28 (d := dS 40 "_law_strings_right") rfl
  have b__law_strings_right : Binds K f__law_strings_right ["_law_stream", "_law_text"] [] := two_bind (st := top 40) F__law_strings_right fun _ _ _ _ _ _ _ _ => rfl
  have g__law_strings_right : mg "_law_strings_right" = some (.ref (He.ga K "_law_strings_right")) := (g (i := 28) rfl)
  obtain ⟨f__law_drawn, F__law_drawn⟩ := c.def_ 29 (d := dS 41 "_law_drawn") rfl
  have b__law_drawn : Binds K f__law_drawn ["_law_stream", "_law_rows", "_law_columns"] [] := three_bind (st := top 41) F__law_drawn fun _ _ _ _ _ _ _ _ _ => rfl
  have g__law_drawn : mg "_law_drawn" = some (.ref (He.ga K "_law_drawn")) := (g (i := 29) rfl)
  obtain ⟨f_m___init__, F_m___init__⟩ := c.def_ 31 (d := dM 0 "__init__" "Signs.__init__") rfl
  have b_m___init__ : Binds K f_m___init__ ["self", "text"] [] := two_bind (st := mth 0) F_m___init__ fun _ _ _ _ _ _ _ _ => rfl
  obtain ⟨f_m_ended, F_m_ended⟩ := c.def_ 32 (d := dM 1 "ended" "Signs.ended") rfl
  have b_m_ended : Binds K f_m_ended ["self"] [] := one_bind (st := mth 1) F_m_ended fun _ _ _ _ _ _ _ => rfl
  have m_ended : Meth K (He.ga K "Signs") "ended" (He.ma K (He.ga K "Signs") "ended") := He.meth_ok (c.fact 55 rfl)
  obtain ⟨f_m_seen, F_m_seen⟩ := c.def_ 33 (d := dM 2 "seen" "Signs.seen") rfl
  have b_m_seen : Binds K f_m_seen ["self"] [] := one_bind (st := mth 2) F_m_seen fun _ _ _ _ _ _ _ => rfl
  have m_seen : Meth K (He.ga K "Signs") "seen" (He.ma K (He.ga K "Signs") "seen") := He.meth_ok (c.fact 56 rfl)
  obtain ⟨f_m_sees, F_m_sees⟩ := c.def_ 34 (d := dM 3 "sees" "Signs.sees") rfl
  have b_m_sees : Binds K f_m_sees ["self", "choices"] [] := two_bind (st := mth 3) F_m_sees fun _ _ _ _ _ _ _ _ => rfl
  have m_sees : Meth K (He.ga K "Signs") "sees" (He.ma K (He.ga K "Signs") "sees") := He.meth_ok (c.fact 57 rfl)
  obtain ⟨f_m_wrong, F_m_wrong⟩ := c.def_ 35 (d := dM 4 "wrong" "Signs.wrong") rfl
  have b_m_wrong : Binds K f_m_wrong ["self"] [] := one_bind (st := mth 4) F_m_wrong fun _ _ _ _ _ _ _ => rfl
  have m_wrong : Meth K (He.ga K "Signs") "wrong" (He.ma K (He.ga K "Signs") "wrong") := He.meth_ok (c.fact 58 rfl)
  obtain ⟨f_m_take, F_m_take⟩ := c.def_ 36 (d := dM 5 "take" "Signs.take") rfl
  have b_m_take : Binds K f_m_take ["self", "choices"] [] := two_bind (st := mth 5) F_m_take fun _ _ _ _ _ _ _ _ => rfl
  have m_take : Meth K (He.ga K "Signs") "take" (He.ma K (He.ga K "Signs") "take") := He.meth_ok (c.fact 59 rfl)
  obtain ⟨f_m_one_of, F_m_one_of⟩ := c.def_ 37 (d := dM 6 "one_of" "Signs.one_of") rfl
  have b_m_one_of : Binds K f_m_one_of ["self", "words"] [] := two_bind (st := mth 6) F_m_one_of fun _ _ _ _ _ _ _ _ => rfl
  have m_one_of : Meth K (He.ga K "Signs") "one_of" (He.ma K (He.ga K "Signs") "one_of") := He.meth_ok (c.fact 60 rfl)
  obtain ⟨f_bp, F_bp⟩ := c.def_ 38 (d := dI 2 "BadPicture" "BadPicture.__init__") rfl
  obtain ⟨f_bt, F_bt⟩ := c.def_ 39 (d := dI 3 "BadText" "BadText.__init__") rfl
  have gP : mg "BadPicture" = some (.ref (He.ga K "BadPicture")) := (g (i := 31) rfl)
  have gT : mg "BadText" = some (.ref (He.ga K "BadText")) := (g (i := 32) rfl)
  have gS : mg "Signs" = some (.ref (He.ga K "Signs")) := (g (i := 33) rfl)
  have xP : XC1 P w K mg base "BadPicture" (He.ga K "BadPicture") "thing" "thing" := xc1_of (st := inSt 2) oP gP F_bp rfl ⟨rfl, rfl, rfl, by decide +kernel, rfl, by decide +kernel, by decide +kernel⟩ rfl rfl rfl rfl (fun _ _ _ _ _ _ _ _ => rfl) (fun _ _ _ _ _ _ _ _ => rfl)
  have xT : XC2 P w K mg base "BadText" (He.ga K "BadText") "line" "sign" "line" "sign" := xc2_of (st := inSt 3) oT gT F_bt rfl ⟨rfl, rfl, rfl, by decide +kernel, rfl, by decide +kernel, by decide +kernel⟩ rfl rfl rfl rfl rfl rfl rfl (fun _ _ _ _ _ _ _ _ _ => rfl) (fun _ _ _ _ _ _ _ _ _ => rfl)
  have hBt : BtT P w K mg base (He.ga K "BadText") := ⟨gT, xT⟩
  have nl := oT.no "line" (List.mem_cons_self ..)
  have ns := oT.no "sign" (List.mem_cons_of_mem _ (List.mem_cons_self ..))
  have exT : PySem.W.exmOne K (.ref (He.ga K "BadText")) (.ref (He.ga K "BadText")) = some true := He.exm_ok (c.fact 63 rfl)
  have hBx : BxT K mg (He.ga K "BadText") := ⟨gT, oT.xf, nl, ns, exT⟩
  have hM : MetT K mg (He.ga K "BadPicture") (He.ga K "BadText") := ⟨gP, gT, oP.xf, oT.xf, oP.no "thing" (List.mem_cons_self ..), nl, ns, He.exm_ok (c.fact 61 rfl), He.exm_ok (c.fact 62 rfl), exT⟩
  -- the code's own defs
  have oEn : FnOk P w K mg base CX0 1 _ f_m_ended ["self"] (spEnded (He.ga K "Signs")) := ok_ended (plain_def F_m_ended) hSg
  have oSn : FnOk P w K mg base CX0 1 _ f_m_seen ["self"] (spSeen (He.ga K "Signs")) := ok_seen (plain_def F_m_seen) hSg
  have oSS : FnOk P w K mg base CX0 2 _ f_m_sees ["self", "choices"] (spSees (He.ga K "Signs") howS) := ok_seesS (plain_def F_m_sees) hSg m_ended oEn b_m_ended m_seen oSn b_m_seen
  have oSL : FnOk P w K mg base CX0 2 _ f_m_sees ["self", "choices"] (spSees (He.ga K "Signs") (howL K)) := ok_seesL (plain_def F_m_sees) hSg m_ended oEn b_m_ended m_seen oSn b_m_seen
  have oWr : FnOk P w K mg base (L2.CX P w) 3 _ f_m_wrong ["self"] (spWrong (He.ga K "Signs") (He.ga K "BadText")) := ok_wrong (plain_def F_m_wrong) hSg hBt
  have oTS : FnOk P w K mg base (L2.CX P w) 4 _ f_m_take ["self", "choices"] (spTake (He.ga K "Signs") (He.ga K "BadText") howS) := ok_take (plain_def F_m_take) hSg m_sees oSS b_m_sees m_wrong oWr b_m_wrong m_seen oSn b_m_seen
  have oTL : FnOk P w K mg base (L2.CX P w) 4 _ f_m_take ["self", "choices"] (spTake (He.ga K "Signs") (He.ga K "BadText") (howL K)) := ok_take (plain_def F_m_take) hSg m_sees oSL b_m_sees m_wrong oWr b_m_wrong m_seen oSn b_m_seen
  have oOne : FnOk P w K mg base (L2.CX P w) 5 _ f_m_one_of ["self", "words"] (spOne (He.ga K "Signs") (He.ga K "BadText")) := ok_one (plain_def F_m_one_of) hSg ⟨_, _, m_take, oTL, b_m_take⟩
  have oIni : FnOk P w K mg base (L2.CX P w) 3 _ f_m___init__ ["self", "text"] (spIni K (He.ga K "Signs") (He.ga K "BadText")) := ok_ini (plain_def F_m___init__) hIn hBt
  have MTS : MtP P w K mg base (He.ga K "Signs") (L2.CX P w) 4 "take" ["self", "choices"] (spTake (He.ga K "Signs") (He.ga K "BadText") howS) := ⟨_, _, m_take, oTS, b_m_take⟩
  have MSS : MtP P w K mg base (He.ga K "Signs") CX0 2 "sees" ["self", "choices"] (spSees (He.ga K "Signs") howS) := ⟨_, _, m_sees, oSS, b_m_sees⟩
  have MWr : MtP P w K mg base (He.ga K "Signs") (L2.CX P w) 3 "wrong" ["self"] (spWrong (He.ga K "Signs") (He.ga K "BadText")) := ⟨_, _, m_wrong, oWr, b_m_wrong⟩
  have oNum := ok_num (plain_def F_read_number) hSg hCon MTS MSS
  have oInt := ok_int (plain_def F_read_integer) hSg MTS MSS MWr oNum g_read_number F_read_number.kp b_read_number
  have oBeh : FnOk P w K mg base CX0 1 _ f_signs_behind ["many", "width"] spBehind := ok_behind (plain_def F_signs_behind)
  have oRow := ok_row (plain_def F_read_row) hSg ⟨_, _, m_one_of, oOne, b_m_one_of⟩ oInt g_read_integer F_read_integer.kp b_read_integer oBeh g_signs_behind F_signs_behind.kp b_signs_behind
  have oPR : FnOk P w K mg base (L2.CX P w) 8 _ f_read_picture ["text"] (spPicR K (He.ga K "BadText")) := ok_picR (plain_def F_read_picture) hSg (He.mkr_ok (c.fact 50 rfl)) gS oIni b_m___init__ ⟨_, _, m_ended, oEn, b_m_ended⟩ oRow g_read_row F_read_row.kp b_read_row
  have oFa := ok_fault (plain_def F_fault_of) hBx oPR F_read_picture.kp b_read_picture
  have oPF : FnOk P w K mg base CX0 10 _ f_picture_fault ["text"] (spPicF K) := ok_picF (plain_def F_picture_fault) oFa g_fault_of F_fault_of.kp b_fault_of g_read_picture
  have kL : Kn P w K mg base CX0 1 "is_list" ["thing"] (spIsL K) := ⟨_, _, ok_isL (plain_def F_is_list) hTS4, g_is_list, F_is_list.kp, b_is_list⟩
  have kI : Kn P w K mg base CX0 1 "is_integer" ["thing"] (spIsI K) := ⟨_, _, ok_isI (plain_def F_is_integer) hTS4, g_is_integer, F_is_integer.kp, b_is_integer⟩
  have kP : Kn P w K mg base CX0 2 "is_picture" ["thing"] (spIsP K) := ⟨_, _, ok_isP (plain_def F_is_picture) hTS4 kL kI, g_is_picture, F_is_picture.kp, b_is_picture⟩
  have kN : Kn P w K mg base (L2.CX P w) 3 "need_picture" ["picture"] (spNeed K (He.ga K "BadPicture")) := ⟨_, _, ok_need (plain_def F_need_picture) xP kP, g_need_picture, F_need_picture.kp, b_need_picture⟩
  have kRT : Kn P w K mg base CX0 1 "row_text" ["row"] (spRowT K) := ⟨_, _, ok_rowT (plain_def F_row_text) hTR4, g_row_text, F_row_text.kp, b_row_text⟩
  have oPT : FnOk P w K mg base (L2.CX P w) 4 _ f_picture_text ["picture"] (spPicT K (He.ga K "BadPicture")) := ok_picT (plain_def F_picture_text) kN kRT
  have kT : KnK P w K mg base (L2.CX P w) 4 "picture_text" "picture" (spPicT K (He.ga K "BadPicture")) := ⟨_, _, oPT, g_picture_text, F_picture_text.kp, b_picture_text, kw_bind (st := top 18) F_picture_text fun _ _ _ _ _ _ _ => rfl⟩
  have kR : KnK P w K mg base (L2.CX P w) 8 "read_picture" "text" (spPicR K (He.ga K "BadText")) := ⟨_, _, oPR, g_read_picture, F_read_picture.kp, b_read_picture, kw_bind (st := top 20) F_read_picture fun _ _ _ _ _ _ _ => rfl⟩
  have kF : KnK P w K mg base CX0 10 "picture_fault" "text" (spPicF K) := ⟨_, _, oPF, g_picture_fault, F_picture_fault.kp, b_picture_fault, kw_bind (st := top 23) F_picture_fault fun _ _ _ _ _ _ _ => rfl⟩
  -- the law's own defs
  have kA : Kn P w K mg base CX0 1 "_law_start" ["_law_script"] (spStart K) := ⟨_, _, ok_start (plain_def F__law_start) hTxtD, g__law_start, F__law_start.kp, b__law_start⟩
  have kD : Kn P w K mg base CX0 1 "_law_draw" ["_law_stream", "_law_many"] spDraw := ⟨_, _, ok_draw (plain_def F__law_draw) hTxtD, g__law_draw, F__law_draw.kp, b__law_draw⟩
  have kPk : Kn P w K mg base CX0 2 "_law_pick" ["_law_stream", "_law_some"] (spPick K) := ⟨_, _, ok_pick (plain_def F__law_pick) hTxtD (plain_def F__law_draw) b__law_draw g__law_draw, g__law_pick, F__law_pick.kp, b__law_pick⟩
  have kAp : Kn P w K mg base CX0 3 "_law_a_picture" ["_law_stream", "_law_rows", "_law_columns", "_law_shades"] spPict := ⟨_, _, ok_pict (plain_def F__law_a_picture) hTI4 kD kPk, g__law_a_picture, F__law_a_picture.kp, b__law_a_picture⟩
  have kDn : Kn P w K mg base CX0 4 "_law_drawn" ["_law_stream", "_law_rows", "_law_columns"] spDrawn := ⟨_, _, ok_drawn (plain_def F__law_drawn) kPk kAp, g__law_drawn, F__law_drawn.kp, b__law_drawn⟩
  have kSm : ∀ n, Kn P w K mg base CX0 n "_law_same" ["_law_found", "_law_due"] (spSameE K n) := fun n => ⟨_, _, ok_sameE (plain_def F__law_same) hTS4 g__law_same b__law_same n, g__law_same, F__law_same.kp, b__law_same⟩
  have kSp : Kn P w K mg base CX0 3 "_law_a_spoiled" ["_law_thing"] (spSpoil K 3) := ⟨_, _, ok_spoil (plain_def F__law_a_spoiled) hTS4 g__law_a_spoiled b__law_a_spoiled 3, g__law_a_spoiled, F__law_a_spoiled.kp, b__law_a_spoiled⟩
  have kLo : Kn P w K mg base CX0 4 "_law_loose" ["_law_stream", "_law_thing"] (spLoose K 3) := ⟨_, _, ok_loose (plain_def F__law_loose) hTS4 hTxtD g__law_loose b__law_loose (plain_def F__law_draw) b__law_draw g__law_draw 3, g__law_loose, F__law_loose.kp, b__law_loose⟩
  have kSe : Kn P w K mg base CX0 1 "_law_a_sees" ["_law_walk", "_law_sign"] spSees4 := ⟨_, _, ok_sees4 (plain_def F__law_a_sees), g__law_a_sees, F__law_a_sees.kp, b__law_a_sees⟩
  have kDu : Kn P w K mg base CX0 1 "_law_a_due" ["_law_walk", "_law_due"] spDue4 := ⟨_, _, ok_due4 (plain_def F__law_a_due), g__law_a_due, F__law_a_due.kp, b__law_a_due⟩
  have kLn : Kn P w K mg base CX0 1 "_law_a_lines" ["_law_text"] spLines := ⟨_, _, ok_lines (plain_def F__law_a_lines), g__law_a_lines, F__law_a_lines.kp, b__law_a_lines⟩
  have kIn : Kn P w K mg base CX0 2 "_law_a_integer" ["_law_walk", "_law_is_signed"] spInt4 := ⟨_, _, ok_int4 (plain_def F__law_a_integer) hTI4 kSe, g__law_a_integer, F__law_a_integer.kp, b__law_a_integer⟩
  have kWr : Kn P w K mg base CX0 3 "_law_wrong" ["_law_text"] spWrong4 := ⟨_, _, ok_wrong4 (plain_def F__law_wrong) hTI4 kLn kIn kSe kDu, g__law_wrong, F__law_wrong.kp, b__law_wrong⟩
  have kBe : Kn P w K mg base CX0 3 "_law_a_bent" ["_law_stream", "_law_text", "_law_signs"] (spBent K) := ⟨_, _, ok_bent (plain_def F__law_a_bent) hTI4 kD kPk, g__law_a_bent, F__law_a_bent.kp, b__law_a_bent⟩
  have t1 : TabB base mg (He.cT K ("_law_strings_right", none)).1 (He.cT K ("_law_strings_right", none)).2 := TB _ (List.mem_map.mpr ⟨_, List.mem_of_getElem? (i := 0) rfl, rfl⟩)
  have u : ∀ p ∈ tbT K, p.1 = (He.cT K ("_law_strings_right", none)).2 → p.2 = ("_law_strings_right" ++ ".<locals>." : Str) ++ "<lambda>" := fun p hp => by
    unfold tbT at hp
    simp only [List.mem_cons, List.not_mem_nil, or_false] at hp
    rcases hp with rfl | rfl
    · exact fun _ => rfl
    · exact fun z => absurd z.symm ap
  have oSt : FnOk P w K mg base CX0 11 _ f__law_strings_right ["_law_stream", "_law_text"] (spStr (tbT K)) := ok_str (code_def (p := ("_law_strings_right", none)) F__law_strings_right) hTSr t1 (List.mem_of_getElem? (i := 0) rfl) u (plain_def F__law_met) g__law_met b__law_met hM kBe kD kWr kR kF (kSm 5)
  refine ⟨?_, hM, f__law_met, plain_def F__law_met, g__law_met, b__law_met⟩
  exact {
    A := kA
    D := kD
    N := kDn
    Y := ⟨_, _, ok_right (plain_def F__law_text_right) hTRx kLo kT kF kR (kSm 5) kSp, g__law_text_right, F__law_text_right.kp, b__law_text_right⟩
    Z := ⟨_, _, oSt, g__law_strings_right, F__law_strings_right.kp, b__law_strings_right⟩
    S := kSm 5
    U := kSm 6
    Sp := kSp
    T := kT
    R := kR
    F := kF
    X := hTLw }
theorem tabs_beg {H : Hp} (e : ∀ p ∈ tfL.map (He.cT K), H p.2 = some (.tbl #[])) : Tabs (tbT K) H := fun p hp => by
  have z : H p.1 = some (.tbl #[]) := by
    unfold tbT at hp
    simp only [List.mem_cons, List.not_mem_nil, or_false] at hp
    rcases hp with rfl | rfl
    · exact e _ (List.mem_map.mpr ⟨_, List.mem_of_getElem? (i := 0) rfl, rfl⟩)
    · exact e _ (List.mem_map.mpr ⟨_, List.mem_of_getElem? (i := 1) rfl, rfl⟩)
  exact ⟨#[], z, trivial, fun p' cv hc => nomatch hc⟩
end
end Mine
open PyProof.Rows PySem PySem.W PySem.Calls
theorem PySem.Challenge.cw_partswithin_k04_whole_picture_texts_holds : PySem.Challenge.rw_partswithin_k04_whole_picture_texts.Holds := by
  w_on; o_law
  refine HandSHeadRun.head_any (r := Mine.Rw) (q := view Mine.Rw.prog [42]) (H := Mine.hkL) (ob := Mine.obL) (M := 8000) (loose := Mine.lsL) (d := HandSHeadRun.topDef Mine.Rw.prog 42) (kwd := []) Mine.obL_eq
    (by kernel_rfl) (fun s => by kernel_rfl) Mine.runL (by kernel_rfl) (by kernel_rfl) (by kernel_rfl) (by rfl) (by first | assumption | decide +kernel) (by decide +kernel) ⟨rfl, rfl, rfl, rfl, rfl, by decide +kernel⟩ ?hw ?hc
  case hw => w_witness2
  case hc =>
    refine Att.attach_callB (l := PySem.Challenge.rw_partswithin_k04_whole_picture_texts) (n := 63) rfl (by kernel_rfl) fun w s0 s1 mg mb fa o pm cd doc a vs ns G Y ho hd hcd hmg hobj hints hlen hbits hg => ?_
    obtain ⟨K, KX, S⟩ := Y
    have c : He.SaysD Mine.faL Mine.fnL K := S.t.d
    have e : (HandSHeadRun.topDef Mine.Rw.prog 42).name = ("law" : PySem.Str) := by kernel_rfl
    rw [e] at hmg
    obtain ⟨fd, F⟩ := c.def_ 30 (d := Mine.dS 42 "law") rfl
    have ef := hmg.symm.trans (He.glo_ok KX G.T.g (c.fact 30 (f := .glo "law") rfl))
    cases ef
    have bd := F.bindsA (ps := ["_law_script"]) fun _ _ _ _ _ _ us hl => match us, hl with
      | [_], _ => rfl
    refine Mine.call_law (cs := Mine.tfL.map (He.cT K)) (x := "_law_script") (sp := Mine.spLaw K (Mine.tbT K)) (fd := fd) (k := 12) KX G.T.g G.T.b G.T.builtins G.T.nolimit hg (fun b hb => ?_) (fun b hb => ?_) (fun p hp => ?_) G.T.bmain hobj hints (Nat.le_trans hlen (by decide)) ⟨rfl, by decide, by decide⟩ (fun base _ _ TB => ?_) (fun s u => bd s [u] rfl) (fun H hH hS => ?_)
    · simp only [List.map_map, List.mem_map] at hb
      obtain ⟨p, hp, rfl⟩ := hb
      exact S.empty p hp
    · simp only [List.map_map, List.mem_map] at hb
      obtain ⟨p, hp, rfl⟩ := hb
      exact S.out p hp
    · obtain ⟨q, hq, rfl⟩ := List.mem_map.mp hp
      exact codeHd_of_K KX (S.hd q hq)
    · obtain ⟨LE, M, fdM, FM, gM, bM⟩ := Mine.lean_of KX G.T.g c S.more TB
      have t2 : LamX.TabB base mg (He.cT K ("law", none)).1 (He.cT K ("law", none)).2 := TB _ (List.mem_map.mpr ⟨_, List.mem_of_getElem? (i := 1) rfl, rfl⟩)
      have ap : (He.cT K ("_law_strings_right", none)).2 ≠ (He.cT K ("law", none)).2 := of_decide_eq_true (He.ba S.more).1
      exact Mine.ok_law (Mine.code_def (st := Mine.sLaw) (p := ("law", none)) F) t2 (List.mem_of_getElem? (i := 1) rfl) (fun p hp => by
        unfold Mine.tbT at hp
        simp only [List.mem_cons, List.not_mem_nil, or_false] at hp
        rcases hp with rfl | rfl
        · exact fun z => absurd z ap
        · exact fun _ => rfl) FM gM bM M LE
    · exact ⟨a, ns, rfl, hS, Mine.tabs_beg hH, fun _ => rfl⟩
