import PyProof.Rows.All
import Wide.All
import OpenK.AllK
import Wide.FinOn
import HandS.ForExc
import HandS.ExcInit
import HandS.FStr
import KE.KExcSuper
import HandS.IsInst
import HandS.ExcField
import KE.KExcIs
import KE.KIsAll
import HandS.TryOnly
import HandS.ForMost
import HandS.More
import HandS.Zip
import HandS.Walk
import KE.GoesMore
import KE.GoesEnum
import HandS.Deep
import HandS.Star
import HandS.TupMul
import HandS.AnyAll
import HandS.EndTab
import HandS.GenList
import HandS.Words
import HandS.Call
import HandS.ExcOwn
import HandS.Text
import HandS.TupAny
import HandS.WideBits
import HandS.DictComp
import HandS.Flow
import HandS.Codes
import PySem.Challenge.RW_quietsmith_k70_next_state_keeps_order
set_option Elab.async false
set_option linter.all false
set_option maxRecDepth 100000
set_option maxHeartbeats 4000000
/-! An own error whose __init__ begins with super().__init__(text): its def, kept as a promise. -/
namespace QX
open PySem PySem.Spec PyProof.Rows L2
/-- the last of a row of names that differ -/
theorem last_of {ps : List Str} {us : List Value} (nd : ps.Nodup) : ∀ {i : Nat} {x : Str} {u : Value}, ps[i]? = some x → us[i]? = some u → ((ps.zip us).reverse).lookup x = some u := by
  induction ps generalizing us with
  | nil =>
    intro i x u h _
    cases i <;> cases h
  | cons p r ih =>
    intro i x u h g
    cases us with
    | nil => cases i <;> cases g
    | cons v t =>
      have n1 : p ∉ r := (List.nodup_cons.mp nd).1
      have n2 := (List.nodup_cons.mp nd).2
      rw [List.zip_cons_cons, List.reverse_cons, List.lookup_append]
      cases i with
      | zero =>
        obtain rfl : p = x := Option.some.inj h
        obtain rfl : v = u := Option.some.inj g
        have e : ((r.zip t).reverse).lookup p = none := by
          rw [List.lookup_eq_none_iff]
          intro q hq
          have h1 : q.1 ∈ r := (List.of_mem_zip (List.mem_reverse.mp hq)).1
          exact bne_iff_ne.mpr fun (z : p = q.1) => n1 (by rw [z]; exact h1)
        rw [e]
        simp [List.lookup]
      | succ i =>
        rw [ih n2 h g]
        rfl
/-- a def of a class's body that closes over __class__ -/
structure FunS (P : Program) (K : PySem.W.Frag) (x qual : Str) (st : Stmt) (D f : Addr) (fd : FuncData) : Prop where
  ex : ∃ (oc : Value) (od : Option Addr) (kV doc pm : Value) (an : Option Addr) (cda cc : Addr) (ct : Value) (osl : Array (Option Value)) (ccl : Value) (cdd : Option Addr) (vs : Array Value) (ccs : Array (Option Value)) (file : Str) (tf : Tok) (cl : Value) (cld : Option Addr) (csl : Array (Option Value)),
    fd = PySem.W.ksFn x qual (defArgs st) (defBody st) (defScope st) .none kV doc pm an (.ref cda) ct cc ∧ K.lookup f = some ⟨oc, od, .func fd, osl⟩ ∧ PySem.W.codeIn K (.ref cda) qual = true ∧
    K.lookup cda = some ⟨ccl, cdd, .fields vs, ccs⟩ ∧ vs[2]? = some (.str file tf) ∧ ((P.main.file : Str) == file) = true ∧ K.lookup cc = some ⟨cl, cld, .cell (some (.ref D)), csl⟩
/-- its scope: the parameters alone, and the two names of super() -/
structure ScS (ps : List Str) (sc : Scope) : Prop where
  kind : sc.kind = .function
  co : sc.isCoroutine = false
  gen : sc.isGenerator = false
  par : ∀ n ∈ ps, sc.names.lookup n = some .local
  nd : ps.Nodup
  cell : ∀ y ∈ sc.names, y.2 ≠ .cell
  free : ∀ y ∈ sc.names, y.2 = .free → y.1 = ("__class__" : Str)
  sup : sc.names.lookup ("super" : Str) = some .globalImplicit
  cls : sc.names.lookup ("__class__" : Str) = some .free
abbrev envS (qual : Str) (sc : Scope) (L f : Addr) (cd : Value) (cc : Addr) : Env := PySem.W.ksEnv qual sc L f cd cc
def cxS (CX : CXT) (P : Program) (w : World) (K : PySem.W.Frag) (mg : Str → Option Value) (base : Heap) (N : List Str) (qual : Str) (sc : Scope) (f : Addr) (cd : Value) (cc : Addr) (A : Around) (outer : List Env) (s : Shared) (H : Hp) (E : XK) : Cx where
  prog := P
  w := w
  K := K
  mg := mg
  base := base
  A := A.deeper (envS qual sc s.heap.objs.size f cd cc)
  N := N
  s_0 := s
  H_0 := H
  env := envS qual sc s.heap.objs.size f cd cc
  outer := outer
  stack := envS qual sc s.heap.objs.size f cd cc :: outer
  ex := []
  calm := true
  fn := fun _ => false
  pn := []
  xe := fun e s' => wpAny (model P w) (A.deeper (envS qual sc s.heap.objs.size f cd cc)) (leaving (envS qual sc s.heap.objs.size f cd cc) e) (fun _ s'' => CX outer H s E e s'') (fun e' s'' => CX outer H s E e' s'') s'
theorem kind_of {ps : List Str} {sc : Scope} (S : ScS ps sc) {y : Str} (h : sc.names.lookup y = some .free) : y = ("__class__" : Str) := S.free (y, .free) (PySem.mem_of_lookup h) rfl
theorem begin_S {CX : CXT} {P : Program} {w : World} {K : PySem.W.Frag} {mg : Str → Option Value} {base : Heap} {ps : List Str} {qual : Str} {sc : Scope} {f cc D : Addr} {cd : Value} {A : Around} {outer : List Env} {s : Shared} {h₀ : Heap} {tk : Nat} {H : Hp} {E : XK} {us : List Value} {vs : List V}
    {cl : Value} {cld : Option Addr} {csl : Array (Option Value)} (S : ScS ps sc) (hd : A.handled = none) (e0 : Env0 P w K mg base A outer s H) (hl : vs.length = ps.length) (r : Vals vs us) (lc : K.lookup cc = some ⟨cl, cld, .cell (some (.ref D)), csl⟩)
    (hns : h₀.Ns s.heap.objs.size (fun x => ((ps.zip us).reverse).lookup x)) (hk : ∀ b o, s.heap.get? b = some o → h₀.get? b = some o) :
    Inv (cxS CX P w K mg base ps qual sc f cd cc A outer s H E) [] (L2.start ps vs) H { s with heap := h₀, toks := tk } := by
  have noA : ∀ b : Addr, b ∉ (cxS CX P w K mg base ps qual sc f cd cc A outer s H E).ex := fun b z => absurd (show b ∈ ([] : List Addr) from z) (by simp)
  have one : ∀ {x : Str} {c : Addr}, (cxS CX P w K mg base ps qual sc f cd cc A outer s H E).env.cells.lookup x = some c → x = ("__class__" : Str) ∧ c = cc := by
    intro x c h
    have h2 : ([(("__class__" : Str), cc)] : List (Str × Addr)).lookup x = some c := h
    by_cases e : x = ("__class__" : Str)
    · subst e
      have h3 : some cc = some c := by simpa [List.lookup] using h2
      exact ⟨rfl, (Option.some.inj h3).symm⟩
    · have e2 : (x == ("__class__" : Str)) = false := by simpa using e
      have h3 : (none : Option Addr) = some c := by simpa [List.lookup, e2] using h2
      cases h3
  have b1 := e0.bs cc _ (e0.mod.kin _ _ lc)
  refine ⟨⟨e0.mod, S.kind, rfl, rfl, Nat.le_refl _, fun x y c h1 h2 => (one h1).1.trans (one h2).1.symm, fun y hy => ?_, (fun y c z _ => nomatch z), fun _ => hd, Around.frames_deeper e0.frames, .inr ⟨rfl, rfl⟩, fun b z => absurd z (noA b), e0.bs, e0.bsz, fun b _ _ => noA b, fun b z => absurd z (noA b), e0.funs, e0.frf⟩,
    rfl, e0.bare, Un.kept hk, ⟨_, hns, fun i y v h1 h2 h3 => ?_⟩, fun y c h => ?_, e0.hok.fresh (Nat.le_refl _), fun y c h => ?_, fun p hp => absurd (show p ∈ ([] : List (Addr × Obj)) from hp) (by simp), e0.hok.kept hk, ?_⟩
  · have hy : sc.names.lookup y = some .cell ∨ sc.names.lookup y = some .free := hy
    rcases hy with hy | hy
    · exact absurd rfl (S.cell _ (PySem.mem_of_lookup hy))
    · rw [kind_of S hy]
      exact ⟨cc, rfl⟩
  · have hi : i < vs.length := by
      have := (List.getElem?_eq_some_iff.mp h1).1
      rw [hl]
      exact this
    have ha : vs[i]? = some v := by
      unfold L2.start at h2
      rw [List.getElem?_append_left (by simpa using hi), List.getElem?_map] at h2
      cases e : vs[i]? with
      | none =>
        rw [e] at h2
        cases h2
      | some a =>
        rw [e] at h2
        cases h2
        rfl
    obtain ⟨u, hu, rv⟩ := r.get ha
    exact ⟨u, rv, .inl ⟨S.par y (List.mem_of_getElem? h1), last_of S.nd h1 hu⟩⟩
  · obtain ⟨_, rfl⟩ := one h
    exact ⟨_, ⟨_, hk _ _ b1.1, rfl⟩⟩
  · obtain ⟨_, rfl⟩ := one h
    exact b1.2
  · unfold L2.start
    show _ = ps.length
    rw [List.length_append, List.length_map, List.length_replicate]
    omega

/-- what super().__init__ wants of the class C of the error, whose __init__ stands in D -/
structure SupC (K : PySem.W.Frag) (C D : Addr) : Prop where
  ox : OexC K C
  dcl : ∃ cd, PySem.W.clsIn K D = some cd
  sub : PySem.W.mroIn K C (.ref D) = some true
  ini : PySem.W.ks_superIn K C D "__init__" = some (some (.builtin "ValueError.__init__"))
  ve : PySem.W.subIn K (.ref C) (.type "ValueError") = some true
  tp : PySem.W.nsIn K cStatics "thirdparty.any" = some none
section
variable {X : Cx} {pins : List (Addr × Obj)} {σ : L2.St} {H : Hp} {s : Shared} {a C D u : Addr} {E : Value → Shared → Prop} {A : Around}
/-- the bound __init__ called: nothing of it is told -/
theorem bound_ok {us : List Value} {Q : Value → Shared → Prop} (T : OexC X.K C) (I : Inv X pins σ H s) (e : H a = some (exo a C none)) (hu : s.heap.get? u = some (PySem.W.kxs_mw "ValueError.__init__" a)) (hl : us.length ≤ sizeLine) (h : ∀ s', Inv X pins σ H s' → Q .none s') :
    wpAny (model X.prog X.w) A (call (.ref u) us) Q E s := by
  obtain ⟨nm, q, N, bs, bm, sn, sub, ab, col, dd, k0, k1, k2, k3, k5, hC, hbm⟩ := T.cls
  obtain ⟨t1, ho⟩ := exo_at I.hok e
  have fin : ∀ h', (∀ b o, b ≠ a → s.heap.get? b = some o → h'.get? b = some o) → (∃ t2 : Addr, h'.get? a = some ({ cls := .ref C, dict := none, data := .fields #[.ref t2, .none, .none, .none, .bool false, .none] } : Obj)) → Q .none { s with heap := h' } := fun h' k hx => by
    obtain ⟨t2, hx⟩ := hx
    have J := I.write (t' := s.toks) (x := a) (e := a) (o := exo a C none) (by rw [e]; exact True.intro) (.inl rfl) k ⟨_, hx⟩ (exo_ok hx)
    have eu : upd H a (exo a C none) = H := by
      funext b
      by_cases hb : b = a
      · rw [hb, upd_same, e]
      · rw [upd_ne hb]
    rw [eu] at J
    exact h _ J
  obtain ⟨hh, g, d, tk, os⟩ := s
  refine wpAny_call (codeAny_of_tree ?_)
  show wpAny _ A.in1 (callAny (.ref u) ⟨us, []⟩) _ _ _
  simp only [callAny]
  refine wpAny_bind (wpAny_load hu ?_)
  dsimp only [PySem.W.kxs_mw]
  refine PySem.W.KFB.if_so (by decide) ?_
  refine wpAny_bind (PySem.W.check_bound_init F.excBase_ValueError.toExcCallFacts (I.kIn _ _ hC) ho rfl ?_)
  refine wpAny_bind (wpAny_pure (wpAny_pure ?_))
  refine ⟨plainId_quiet F.excBase_ValueError.init.plain _, codeAny_builtin F.excBase_ValueError.initEntry ?_⟩
  exact PySem.W.exc_init_tree ho hl fun h' k hx _ => fin h' k ⟨_, hx⟩
end

section
variable {CX : CXT} {P : Program} {w : World} {K : PySem.W.Frag} {mg : Str → Option Value} {base : Heap} {ps : List Str} {qual : Str} {sc : Scope} {f cda cc D C a : Addr} {A : Around} {outer : List Env} {s0 s : Shared} {H0 H : Hp} {E : XK} {σ : L2.St}
  {oc : Value} {od : Option Addr} {osl : Array (Option Value)} {fd : FuncData} {ccl : Value} {cdd : Option Addr} {vs : Array Value} {ccs : Array (Option Value)} {file : Str} {tf : Tok} {cl : Value} {cld : Option Addr} {csl : Array (Option Value)}
theorem sup_first {body : List Stmt} {p0 p1 p2 p3 p4 : Pos} {e : Expr} {es : List Expr} {ta : TA} {ar : Arg} {Qn : Hp → Prop} (S : ScS ps sc) (T : SupC K C D) (I : Inv (cxS CX P w K mg base ps qual sc f (.ref cda) cc A outer s0 H0 E) [] σ H s)
    (lf : K.lookup f = some ⟨oc, od, .func fd, osl⟩) (hp : (fd.params.posonlyargs ++ fd.params.args).head? = some ar) (h0 : ps[0]? = some ar.arg) (ha : σ[0]? = some (some (.ref a))) (hx : H a = some (exo a C none))
    (lcd : K.lookup cda = some ⟨ccl, cdd, .fields vs, ccs⟩) (hvs : vs[2]? = some (.str file tf)) (hfile : ((P.main.file : Str) == file) = true) (lc : K.lookup cc = some ⟨cl, cld, .cell (some (.ref D)), csl⟩)
    (hms : mg "super" = none) (htop : (P.main.scope.names.lookup ("super" : Str)).isSome = false)
    {pl : Sem Bool} (hc : eval (.Call (.Attribute (.Call (.Name "super" p0) [] [] p1) "__init__" p2) (e :: es) [] p3) (envS qual sc s0.heap.objs.size f (.ref cda) cc) = (do
      let ov ← attributeBase (.Call (.Name "super" p0) [] [] p1) "__init__" (envS qual sc s0.heap.objs.size f (.ref cda) cc) (eval (.Call (.Name "super" p0) [] [] p1) (envS qual sc s0.heap.objs.size f (.ref cda) cc))
      standAt p2.atName
      let (g, first) ← holding [ov] (getMethod ov "__init__" pl)
      callWith p3 g first (backTo p3 (starEach (e :: es) (envS qual sc s0.heap.objs.size f (.ref cda) cc))) []))
    (hA : PA (cxS CX P w K mg base ps qual sc f (.ref cda) cc A outer s0 H0 E) (e :: es) ta) (q : ta σ H fun ws H1 => ws.length ≤ 1000 ∧ H1 a = some (exo a C none) ∧ Qn H1)
    (he : starEach (e :: es) (envS qual sc s0.heap.objs.size f (.ref cda) cc) = (false, eval e (envS qual sc s0.heap.objs.size f (.ref cda) cc)) :: starEach es (envS qual sc s0.heap.objs.size f (.ref cda) cc))
    (hpl : (backTo p3 (starEach es (envS qual sc s0.heap.objs.size f (.ref cda) cc))).any (·.1) = false)
    (hsw : swapsWith (.Call (.Attribute (.Call (.Name "super" p0) [] [] p1) "__init__" p2) (e :: es) [] p3) none p4.line (envS qual sc s0.heap.objs.size f (.ref cda) cc) = pure false) :
    _root_.PySem.wpAt (model P w) (A.deeper (envS qual sc s0.heap.objs.size f (.ref cda) cc)) (.func body (envS qual sc s0.heap.objs.size f (.ref cda) cc))
      (exec (.Expr (.Call (.Attribute (.Call (.Name "super" p0) [] [] p1) "__init__" p2) (e :: es) [] p3) p4) (envS qual sc s0.heap.objs.size f (.ref cda) cc))
      (fun fl s' => match fl with
        | .next => ∃ H', Inv (cxS CX P w K mg base ps qual sc f (.ref cda) cc A outer s0 H0 E) [] σ H' s' ∧ Qn H'
        | _ => False) (cxS CX P w K mg base ps qual sc f (.ref cda) cc A outer s0 H0 E).xe s := by
  have hi : interactive (envS qual sc s0.heap.objs.size f (.ref cda) cc) = false := by
    unfold interactive
    show (sc.kind == .module && _) = false
    rw [S.kind]
    rfl
  have hkS : (envS qual sc s0.heap.objs.size f (.ref cda) cc).kindOf "super" = some .globalImplicit := S.sup
  have hkC : (envS qual sc s0.heap.objs.size f (.ref cda) cc).kindOf "__class__" = some .free := S.cls
  obtain ⟨m, hns, hm⟩ := I.loc
  obtain ⟨u0, ru, lk⟩ := hm 0 ar.arg (.ref a) h0 ha (.inl (S.par _ (List.mem_of_getElem? h0)))
  obtain rfl : u0 = Value.ref a := ru
  have ma : m ar.arg = some (.ref a) := by
    rcases lk with ⟨_, h⟩ | ⟨h, _⟩
    · exact h
    · have h2 : sc.names.lookup ar.arg = some .cell ∨ sc.names.lookup ar.arg = some .free := h
      rw [S.par _ (List.mem_of_getElem? h0)] at h2
      rcases h2 with h2 | h2 <;> cases h2
  obtain ⟨cd, hcd⟩ := T.dcl
  obtain ⟨oD, hD1, hD2⟩ : ∃ oD, s.heap.get? D = some oD ∧ oD.data = .cls cd := by
    unfold PySem.W.clsIn at hcd
    split at hcd
    · rename_i c d cd' sl ho
      cases hcd
      exact ⟨_, I.kIn _ _ ho, rfl⟩
    · cases hcd
  obtain ⟨t1, hox⟩ := exo_at I.hok hx
  obtain ⟨mb, b1, b2⟩ := I.mod.blt
  refine PySem.ks_wpAt_Expr_any ?_ hi hsw
  refine PySem.ks_wpAt_MethodCall (pl := pl) ?_ hc
  refine PySem.ks_wpAt_super_base hkS hkC (by decide) rfl (I.kIn _ _ lf) rfl hp rfl (I.kIn _ _ lcd) rfl hvs hfile htop ?_
  refine PySem.W.ks_loadName_global S.kind hkS (Calls.loadGlobal_builtin (I.mod.glob.keeps I.bk) hms (b1.keeps I.bk) ((b2 "super" (by decide)).trans (by decide +kernel)) ⟨rfl, ?_⟩)
  refine wpAny_loadName_free S.kind hkC rfl ⟨_, I.kIn _ _ lc, rfl⟩ ?_
  refine wpAny_loadName_local S.kind (S.par _ (List.mem_of_getElem? h0)) hns ma ?_
  refine PySem.ks_wpAny_isType_cls hD1 hD2 ⟨rfl, ?_⟩
  have nc : ∀ c, ({ cls := .ref C, dict := none, data := .fields #[.ref t1, .none, .none, .none, .bool false, .none] } : Obj).data ≠ .cls c := fun c z => by cases z
  obtain ⟨hh, g, d, tk, os⟩ := s
  refine PySem.ks_wpAny_call_super hD1 hD2 hox rfl nc (PySem.W.looks_mroIn I.kIn T.sub) fun h' hso k => ?_
  have I1 := I.kept (t' := tk) k
  obtain ⟨nm, qn, N, bs, bm, sn, sub, ab, col, dd, k0, k1, k2, k3, k5, hC, hbm⟩ := T.ox.cls
  have hcl : PySem.W.clsIn K C = some { name := nm, bases := bs, mro := .ref C :: bm, ns := N, qualname := qn, hasDict := true, slotNames := sn, subclasses := sub, abstract := ab, collection := col, hasDel := false } := by
    unfold PySem.W.clsIn
    rw [hC] <;> rfl
  have hini := T.ini
  unfold PySem.W.ks_superIn at hini
  rw [hcl] at hini
  have hox1 := k _ _ hox
  have J : PySem.W.InstAt h' a { cls := .ref C, dict := none, data := .fields #[.ref t1, .none, .none, .none, .bool false, .none] } C none := ⟨hox1, rfl, rfl, trivial⟩
  refine PySem.W.kxs_getMethod PySem.W.kxs_ValueError hso (PySem.W.looks_opaque I1.kIn T.tp) (l₀ := .ref C :: bm) (fun A Q E s k q => wpAny_bind ((PySem.W.looks_clsIn I1.kIn hcl) A _ E s k (wpAny_pure q))) rfl I1.kIn hini (J.type.andThen (PySem.W.looks_subIn I1.kIn T.ve)) (PySem.W.ks_ne I1.kIn J hcl) (by decide) ?_
  have kp : ∀ b o, h'.get? b = some o → (h'.push (PySem.W.kxs_mw "ValueError.__init__" a)).get? b = some o := fun b o z => Heap.get?_push_of_some _ z
  have I2 := I1.kept (t' := tk + 1) kp
  have hu : (h'.push (PySem.W.kxs_mw "ValueError.__init__" a)).get? h'.objs.size = some (PySem.W.kxs_mw "ValueError.__init__" a) := Heap.get?_push_at rfl rfl
  have I3 : Inv (cxS CX P w K mg base ps qual sc f (.ref cda) cc A outer s0 H0 E) [(h'.objs.size, PySem.W.kxs_mw "ValueError.__init__" a)] σ H ⟨h'.push (PySem.W.kxs_mw "ValueError.__init__" a), g, d, tk + 1, os⟩ :=
    ⟨I2.ok, I2.os, I2.bare, I2.base, I2.loc, I2.cell, I2.free, I2.freeC, fun p hp => by
      have hp2 : p = (h'.objs.size, PySem.W.kxs_mw "ValueError.__init__" a) := List.mem_singleton.mp hp
      subst hp2
      exact ⟨hu, I1.hok.fresh (Nat.le_refl _), Nat.ne_of_gt I1.lt, I1.nofs (Nat.le_refl _), fun v z => by cases z⟩, I2.hok, I2.len⟩
  have qa : wpAny (model P w) (A.deeper (envS qual sc s0.heap.objs.size f (.ref cda) cc)) (spliced (backTo p3 (starEach (e :: es) (envS qual sc s0.heap.objs.size f (.ref cda) cc)))) (AP (cxS CX P w K mg base ps qual sc f (.ref cda) cc A outer s0 H0 E) [(h'.objs.size, PySem.W.kxs_mw "ValueError.__init__" a)] σ fun ws H1 => ws.length ≤ 1000 ∧ H1 a = some (exo a C none) ∧ Qn H1) (cxS CX P w K mg base ps qual sc f (.ref cda) cc A outer s0 H0 E).xe ⟨h'.push (PySem.W.kxs_mw "ValueError.__init__" a), g, d, tk + 1, os⟩ := hA.run p3 _ _ σ H _ I3 q
  show wpAny _ _ (callWith p3 (.ref h'.objs.size) [] (backTo p3 (starEach (e :: es) (envS qual sc s0.heap.objs.size f (.ref cda) cc))) []) _ _ _
  rw [he] at qa ⊢
  refine PySem.W.kxs_callWith (i := "ValueError.__init__") (x := a) (by show (false || (backTo p3 (starEach es (envS qual sc s0.heap.objs.size f (.ref cda) cc))).any (·.1)) = false; rw [hpl]; rfl) ?_
  refine PySem.Calls.evalArgs_plain (thn qa fun us s1 ⟨ws, H1, J1, r1, hz, e1, q1⟩ => ?_)
  have pu := J1.pin (h'.objs.size, PySem.W.kxs_mw "ValueError.__init__" a) (List.mem_append_right _ (List.mem_singleton.mpr rfl))
  refine ⟨pu.1, ?_⟩
  have J2 : Inv (cxS CX P w K mg base ps qual sc f (.ref cda) cc A outer s0 H0 E) [] σ H1 s1 :=
    ⟨J1.ok, J1.os, J1.bare, J1.base, J1.loc, J1.cell, J1.free, J1.freeC, fun p hp => J1.pin p (List.mem_append_left _ (by rw [List.append_nil] at hp; exact hp)), J1.hok, J1.len⟩
  have hlen : us.length ≤ sizeLine := by
    rw [← Paired.length r1, sizeLine_eq]
    omega
  exact bound_ok (X := cxS CX P w K mg base ps qual sc f (.ref cda) cc A outer s0 H0 E) T.ox J2 e1 pu.1 hlen fun s' J' => ⟨H1, J', q1⟩
end
/-- how its arguments bind -/
theorem FunS.binds {P : Program} {K : PySem.W.Frag} {x qual : Str} {st : Stmt} {D f : Addr} {fd : FuncData} {ps : List Str} (F : FunS P K x qual st D f fd)
    (h : ∀ (kV doc pm : Value) (an : Option Addr) (cda cc : Addr) (ct : Value) (us : List Value), us.length = ps.length → bindArgs (PySem.W.ksFn x qual (defArgs st) (defBody st) (defScope st) .none kV doc pm an (.ref cda) ct cc) ⟨us, []⟩ = pure (ps.zip us)) : Binds K fd ps [] := by
  obtain ⟨oc, od, kV, doc, pm, an, cda, cc, ct, osl, ccl, cdd, vs, ccs, file, tf, cl, cld, csl, rfl, _⟩ := F.ex
  exact .all (h kV doc pm an cda cc ct)
/-- THE RULE: super().__init__(e), then the rest -/
theorem FunS.ok {P : Program} {w : World} {K : PySem.W.Frag} {mg : Str → Option Value} {base : Heap} {x qual : Str} {st : Stmt} {D C f : Addr} {fd : FuncData} {ps : List Str} {k : Nat} {sp : Sp} {ar : Arg} {p0 p1 p2 p3 p4 : Pos} {e : Expr} {es : List Expr} {rest : List Stmt}
    (F : FunS P K x qual st D f fd) (S : ScS ps (defScope st)) (T : SupC K C D) (hms : mg "super" = none) (htop : (P.main.scope.names.lookup ("super" : Str)).isSome = false)
    (hb : defBody st = .Expr (.Call (.Attribute (.Call (.Name "super" p0) [] [] p1) "__init__" p2) (e :: es) [] p3) p4 :: rest)
    (hp : ((defArgs st).posonlyargs ++ (defArgs st).args).head? = some ar) (h0 : ps[0]? = some ar.arg)
    (len : ∀ vs H Q E, sp vs H Q E → vs.length = ps.length) (self : ∀ vs H Q E, sp vs H Q E → ∃ a r, vs = .ref a :: r ∧ H a = some (exo a C none))
    {pl : Env → Sem Bool} (hc : ∀ env : Env, eval (.Call (.Attribute (.Call (.Name "super" p0) [] [] p1) "__init__" p2) (e :: es) [] p3) env = (do
      let ov ← attributeBase (.Call (.Name "super" p0) [] [] p1) "__init__" env (eval (.Call (.Name "super" p0) [] [] p1) env)
      standAt p2.atName
      let (g, first) ← holding [ov] (getMethod ov "__init__" (pl env))
      callWith p3 g first (backTo p3 (starEach (e :: es) env)) []))
    (he : ∀ env : Env, starEach (e :: es) env = (false, eval e env) :: starEach es env) (hpl : ∀ env : Env, (backTo p3 (starEach es env)).any (·.1) = false)
    (hsw : ∀ env : Env, swapsWith (.Call (.Attribute (.Call (.Name "super" p0) [] [] p1) "__init__" p2) (e :: es) [] p3) none p4.line env = pure false)
    (hbody : ∀ (cda cc : Addr) (A : Around) (outer : List Env) (s : Shared) (H : Hp) (a : Addr) (vr : List V) (Q : VK) (E : XK), Room k (A.deeper (envS qual (defScope st) s.heap.objs.size f (.ref cda) cc)) → sp (.ref a :: vr) H Q E →
      ∃ ta t, PA (cxS CX0 P w K mg base ps qual (defScope st) f (.ref cda) cc A outer s H E) (e :: es) ta ∧ PSs (cxS CX0 P w K mg base ps qual (defScope st) f (.ref cda) cc A outer s H E) rest t ∧
        ta (L2.start ps (.ref a :: vr)) H fun ws H1 => ws.length ≤ 1000 ∧ H1 a = some (exo a C none) ∧ t { nx := fun _ H' => Q .non H', rt := Q } (L2.start ps (.ref a :: vr)) H1) :
    FnOk P w K mg base CX0 (k + 1) f fd ps sp := by
  obtain ⟨oc, od, kV, doc, pm, an, cda, cc, ct, osl, ccl, cdd, cvs, ccs, file, tf, cl, cld, csl, rfl, lk, hcd, lcd, hvs, hfile, lc⟩ := F.ex
  refine ⟨len, fun A outer s H args us vs Q E hr e0 hbind r hsp => ?_⟩
  have hl := len _ _ _ _ hsp
  have KX : K.In s.heap := e0.mod.kin.keeps fun b o z => (e0.bs b o z).1
  have lim : s.heap.NoLimit := e0.mod.nolimit.keeps fun b o z => (e0.bs b o z).1
  obtain ⟨a, vr, rfl, hx⟩ := self _ _ _ _ hsp
  obtain ⟨ta, t, hA, hS, hq⟩ := hbody cda cc A outer s H a vr Q E (hr.deeper _) hsp
  refine PySem.ks_codeAny_call_defAt (fd := PySem.W.ksFn x qual (defArgs st) (defBody st) (defScope st) .none kV doc pm an (.ref cda) ct cc) (body := defBody st) (binds := ps.zip us) hr.depth (KX _ _ lk) rfl lim (PySem.W.codeRec_of KX hcd) rfl hbind S.cell
    (fun y hy => S.par _ (List.of_mem_zip hy).1) (fun h₀ hns hk => ?_) S.co S.gen S.kind
  have I := begin_S (CX := CX0) (A := A) (outer := outer) (E := E) (f := f) (cd := .ref cda) (tk := s.toks + (ps.zip us).length) (qual := qual) S hr.hd e0 hl r lc hns hk
  have s0 : (L2.start ps (V.ref a :: vr))[0]? = some (some (.ref a)) := rfl
  have first := sup_first (body := defBody st) S T I lk hp h0 s0 hx lcd hvs hfile lc hms htop (hc _) hA hq (he _) (hpl _) (hsw _)
  have eb : execs (defBody st) (envS qual (defScope st) s.heap.objs.size f (.ref cda) cc) = execs (.Expr (.Call (.Attribute (.Call (.Name "super" p0) [] [] p1) "__init__" p2) (e :: es) [] p3) p4 :: rest) (envS qual (defScope st) s.heap.objs.size f (.ref cda) cc) := by rw [hb]
  show _root_.PySem.wpAt _ _ _ (execs (defBody st) (envS qual (defScope st) s.heap.objs.size f (.ref cda) cc)) _ _ _
  rw [eb]
  refine PySem.ks_wpAt_execs_cons (PySem.ks_wpAt_mono first (fun fl s' h => ?_) fun _ _ h => h)
  cases fl with
  | next =>
    obtain ⟨H', J, q'⟩ := h
    refine PySem.wpAt_of_wpAny (wpAny_mono (hS.run [] s' _ H' _ J q') (fun fl2 s2 hs => ?_) fun _ _ h => h)
    have fin : ∀ {σ' : L2.St} {H2 : Hp} {v : V} {u : Value}, Inv (cxS CX0 P w K mg base ps qual (defScope st) f (.ref cda) cc A outer s H E) [] σ' H2 s2 → RelV v u → Q v H2 → CE outer P w H s Q u s2 :=
      fun {σ' H2 v u} J rv q => ⟨v, H2, J.os, J.bare, J.base, J.hok, rv, q⟩
    cases fl2 with
    | ret u =>
      obtain ⟨v, σ', H2, J2, rv, q2⟩ := hs
      exact fin J2 rv q2
    | next =>
      obtain ⟨σ', H2, J2, q2⟩ := hs
      exact fin (v := V.non) (u := Value.none) J2 rfl q2
    | brk =>
      obtain ⟨_, _, _, q2⟩ := hs
      exact q2.elim
    | cont =>
      obtain ⟨_, _, _, q2⟩ := hs
      exact q2.elim
  | ret u => exact h.elim
  | brk => exact h.elim
  | cont => exact h.elim
end QX

set_option Elab.async false
set_option linter.all false
set_option maxRecDepth 100000
set_option maxHeartbeats 4000000
namespace QX
open PySem PySem.Spec PyProof.Rows L2
/-! ### such an error as a value: made, asked for its class, read -/
section
variable {X : Cx} {pins : List (Addr × Obj)} {σ : L2.St} {H : Hp} {s : Shared} {a C D u : Addr} {Q : VK}
/-- an error that is held -/
def Held (H : Hp) (a C : Addr) : Prop := H a = some (exo a C none) ∨ ∃ dx fs, H a = some (exo a C (some dx)) ∧ H dx = some (exd dx fs)
theorem held_at (I : Inv X pins σ H s) (h : Held H a C) : ∃ ox od, PySem.W.InstAt s.heap a ox C od := by
  rcases h with h | ⟨dx, fs, h, hd⟩
  · obtain ⟨t1, e⟩ := exo_at I.hok h
    exact ⟨_, none, e, rfl, rfl, trivial⟩
  · obtain ⟨t1, e⟩ := exo_at I.hok h
    obtain ⟨mA, hns, _⟩ := exd_at I.hok hd
    obtain ⟨od, es, ep, ho, _⟩ := hns
    exact ⟨_, some od, e, rfl, rfl, ho⟩
theorem run_exo {CX : CXT} {fI : Addr} {k : Nat} {fd : FuncData} {ps : List Str} {sp : Sp} {vs : List V} {us : List Value} (T : OexC X.K C) (iC : PySem.W.findIn X.K (.ref C) "__init__" = some (some (.ref fI))) (tI : PySem.W.typeIn X.K (.ref fI) = some (.type "function"))
    (F1 : FnOk X.prog X.w X.K X.mg X.base CX k fI fd ps sp) (hr : Room (k + 1) X.A) (hb : Binds X.K fd ps []) (hx : Passes CX X (fun _ _ _ => False)) (I1 : Inv X pins σ H s) (r1 : Vals vs us) (hz : vs.length ≤ 1000)
    (q1 : ∀ a, H a = none → sp (.ref a :: vs) (upd H a (exo a C none)) (fun v H2 => v = .non ∧ Q (.ref a) H2) fun _ _ _ => False) :
    wpAny (model X.prog X.w) X.A (call (.ref C) us) (fun u s' => ∃ v H', Inv X pins σ H' s' ∧ RelV v u ∧ Q v H') X.xe s := by
  obtain ⟨nm, q, N, bs, bm, sn, sub, ab, col, dd, k0, k1, k2, k3, k5, hC, hbm⟩ := T.cls
  obtain ⟨hp, g, dr, tk, os⟩ := s
  have hn : H (hp.objs.size + 1) = none := I1.hok.fresh (Nat.le_succ _)
  have hq := q1 (hp.objs.size + 1) hn
  have kk : ∀ b o, hp.get? b = some o → ((hp.push (PySem.W.kdv_tup us)).push (PySem.HandSPX.excO C hp.objs.size)).get? b = some o := fun b o e => Heap.get?_push_of_some _ (Heap.get?_push_of_some _ e)
  have hget : ((hp.push (PySem.W.kdv_tup us)).push (PySem.HandSPX.excO C hp.objs.size)).get? (hp.objs.size + 1) = some (PySem.HandSPX.excO C hp.objs.size) := by heap_get
  have I2 : Inv X pins σ (upd H (hp.objs.size + 1) (exo (hp.objs.size + 1) C none)) ⟨(hp.push (PySem.W.kdv_tup us)).push (PySem.HandSPX.excO C hp.objs.size), g, dr, tk, os⟩ :=
    I1.laid (t' := tk) kk (Nat.le_succ _) (exo_ok hget)
  have r2 : Vals (V.ref (hp.objs.size + 1) :: vs) (Value.ref (hp.objs.size + 1) :: us) := .cons rfl r1
  have hl : (Value.ref (hp.objs.size + 1) :: us ++ []).length = ps.length := by
    have e := r2.length
    rw [F1.len _ _ _ _ hq] at e
    rw [List.append_nil]
    exact e.symm
  have hus : us.length ≤ sizeLine := by
    rw [← Paired.length r1, sizeLine_eq]
    omega
  have hbb := hb _ (Value.ref (hp.objs.size + 1) :: us) I2.kIn hl
  rw [List.append_nil] at hbb
  refine wpAny_call (PySem.HandSPX.call_own F.excBase_ValueError (fun Y => PySem.HandSPX.refsVE_contains Y bm hbm) (I1.kIn _ _ hC) (PySem.W.looks_findIn I1.kIn iC) (fun self => PySem.W.bind_fn I1.kIn self tI) hus
    (codeAny_mono (F1.run _ X.stack _ _ ⟨Value.ref (hp.objs.size + 1) :: us, []⟩ _ _ _ (fun _ _ _ => False) (hr.make C us []) (I2.env0.make C us []) hbb r2 hq) fun r s' hq' => ?_))
  cases r with
  | error er => exact hx pins σ _ _ er s' I2 hq'
  | ok fl =>
    cases fl with
    | ret u =>
      obtain ⟨v, H2, os2, bare2, un2, hok2, rv, ev, q2⟩ := hq'
      subst ev
      exact ⟨rv, .ref (hp.objs.size + 1), H2, I2.call' (ch := []) os2 un2 hok2 bare2 (fun b z => absurd z (by simp)), rfl, q2⟩
    | next => exact False.elim hq'
    | brk => exact False.elim hq'
    | cont => exact False.elim hq'
end
/-- C(e, ..) as a value -/
def tMkV (C : Addr) (sp : Sp) (ta : TA) : TE := fun σ H Q => ta σ H fun vs H1 => vs.length ≤ 1000 ∧ ∀ a, H1 a = none → sp (.ref a :: vs) (upd H1 a (exo a C none)) (fun v H2 => v = .non ∧ Q (.ref a) H2) fun _ _ _ => False
section
variable {X : Cx} {CX : CXT} {x : Str} {C fI : Addr} {k : Nat} {fd : FuncData} {ps : List Str} {sp : Sp} {e : Expr} {es : List Expr} {ta : TA} {p pos : Pos}
theorem pe_exo (T : OexC X.K C) (iC : PySem.W.findIn X.K (.ref C) "__init__" = some (some (.ref fI))) (tI : PySem.W.typeIn X.K (.ref fI) = some (.type "function"))
    (F1 : FnOk X.prog X.w X.K X.mg X.base CX k fI fd ps sp) (hr : Room (k + 1) X.A) (hb : Binds X.K fd ps []) (hx : Passes CX X (fun _ _ _ => False)) (hg : Gl X x) (hm : X.mg x = some (.ref C)) (ha : PA X (e :: es) ta)
    (hdb : (x == ("__debug__" : Str)) = false := by decide) (he : starEach (e :: es) X.env = (false, eval e X.env) :: starEach es X.env := by rfl) (hpl : (backTo pos (starEach es X.env)).any (·.1) = false := by rfl) :
    PE X (.Call (.Name x p) (e :: es) [] pos) (tMkV C sp ta) := by
  refine ⟨fun pins s σ H Q I h => ?_⟩
  refine wpAny_Call_Name_kw (ld_glob I hg hm ?_ hdb)
  refine PySem.W.callWith_K (h₀ := X.base) I.ok.mod.kin T.kC (thn (ha.run pos pins s σ H _ I h) fun us s1 ⟨vs, H1, I1, r1, hz, q1⟩ => ⟨I1.kIn, ?_⟩) he hpl
  exact run_exo T iC tI F1 hr hb hx I1 r1 hz q1
theorem pe_exo0 (T : OexC X.K C) (iC : PySem.W.findIn X.K (.ref C) "__init__" = some (some (.ref fI))) (tI : PySem.W.typeIn X.K (.ref fI) = some (.type "function"))
    (F1 : FnOk X.prog X.w X.K X.mg X.base CX k fI fd ps sp) (hr : Room (k + 1) X.A) (hb : Binds X.K fd ps []) (hx : Passes CX X (fun _ _ _ => False)) (hg : Gl X x) (hm : X.mg x = some (.ref C))
    (hdb : (x == ("__debug__" : Str)) = false := by decide) : PE X (.Call (.Name x p) [] [] pos) (tMkV C sp tNil) := by
  refine ⟨fun pins s σ H Q I h => ?_⟩
  refine wpAny_Call_Name_kw (ld_glob I hg hm ?_ hdb)
  obtain ⟨hz, q1⟩ := h
  exact PySem.W.callWith_K0 I.kIn T.kC (run_exo T iC tI F1 hr hb hx I .nil hz q1)
/-- what isinstance asks of the class -/
structure IsC (K : PySem.W.Frag) (C : Addr) : Prop where
  cl : (PySem.W.clsIn K C).isSome = true
  ga : PySem.W.findIn K (.ref C) "__getattribute__" = some (some (.builtin "BaseException.__getattribute__"))
  gg : PySem.W.findIn K (.ref C) "__getattr__" = some none
  sb : PySem.W.subIn K (.ref C) (.type "BaseException") = some true
  ca : PySem.W.findIn K (.ref C) "__class__" = some (some (.builtin "object.__class__"))
  cn : PySem.W.specialIn K (.builtin "object.__class__") "__get__" = some (some (.builtin "getset_descriptor.__get__"))
  ct : PySem.W.takesIn K (.builtin "object.__class__") = some true
  mo : PySem.W.mroIn K C (.type "object") = some true
  hd : PySem.W.hasDictIn K C = true
def rIsX (K : PySem.W.Frag) : List V → Hp → VK → Prop := fun xs H Q => ∃ (a C : Addr) (c : V) (t : Value) (b : Bool), xs = [.ref a, c] ∧ Held H a C ∧ IsC K C ∧ ClsV c t ∧ PySem.W.kitOne K (.ref C) t = some b ∧ Q (.bl b) H
theorem call_isX : CallR X (.builtin "isinstance") (rIsX X.K) := by
  intro pins s σ H xs us Q I r h
  obtain ⟨a, C, c, t, b, rfl, hh, T, hc, e, q⟩ := h
  cases r with
  | cons rx rr =>
    cases rr with
    | cons rt rr =>
      cases rr
      cases rx
      have ec := hc.eq rt
      subst ec
      obtain ⟨ox, od, J⟩ := held_at I hh
      exact PySem.W.kia_one (PySem.W.kitx_exc T.cl T.ga T.gg T.sb T.ca T.cn T.ct T.mo) I.kIn J e (fun z => nomatch z) fun tk => ⟨.bl b, H, I.kept (t' := tk) fun _ _ z => z, rfl, q⟩
/-- e.f of such an error -/
def tFx (K : PySem.W.Frag) (f : Str) (te : TE) : TE := fun σ H Q => te σ H fun x H1 => ∃ (a C dx : Addr) (fs : List (Str × V)) (v : V), x = .ref a ∧ IsC K C ∧ PySem.W.findIn K (.ref C) f = some none ∧ H1 a = some (exo a C (some dx)) ∧ H1 dx = some (exd dx fs) ∧ fs.lookup f = some v ∧ Q v H1
theorem pe_fx {o : Expr} {te : TE} {f : Str} (he : PE X o te) (hb : attributeBase o f X.env (eval o X.env) = eval o X.env := by rfl) : PE X (.Attribute o f pos) (tFx X.K f te) := by
  refine ⟨fun pins s σ H Q I h => ?_⟩
  refine attr_of hb (thn (he.run pins s σ H _ I h) fun u s1 hh => ?_)
  obtain ⟨y, H1, I1, ry, a, C, dx, fs, v, ey, T, hno, ha, hd, hl, q⟩ := hh
  subst ey
  obtain rfl : u = Value.ref a := ry
  obtain ⟨t1, ho⟩ := exo_at I1.hok ha
  obtain ⟨mA, hns, rel⟩ := exd_at I1.hok hd
  obtain ⟨od, hod, hlk⟩ := lookIn_ns hns
  obtain ⟨u, hu, ru⟩ := RelO.some_of (v := v) (o := mA f) (by rw [← hl]; exact rel f)
  have J : PySem.W.InstAt s1.heap a _ C (some od) := ⟨ho, rfl, rfl, hod⟩
  exact HandSPX.exc_get I1.kIn J T.ga T.gg T.sb (PySem.W.findObj_own T.hd hno rfl (by rw [hlk, hu])) (handed_of ru) ⟨v, H1, I1.tok _, ru, q⟩
end
/-- an error class of the text, as the top has made it -/
structure Err (P : Program) (K : PySem.W.Frag) (mg : Str → Option Value) (x qual : Str) (st : Stmt) (ps attrs : List Str) where
  C : Addr
  f : Addr
  fd : FuncData
  F : FunS P K "__init__" qual st C f fd
  b : Binds K fd ps []
  S : SupC K C C
  T : IsC K C
  g : mg x = some (.ref C)
  ini : PySem.W.findIn K (.ref C) "__init__" = some (some (.ref f))
  tI : PySem.W.typeIn K (.ref f) = some (.type "function")
  no : ∀ y ∈ attrs, PySem.W.findIn K (.ref C) y = some none
/-- what may be written into its text -/
def Say : V → Prop
  | .str y => y.length ≤ 1000
  | .int i => 0 ≤ i ∧ i < 10 ^ 10
  | _ => False
def spI0 (C : Addr) : Sp := fun vs H Q _ => ∃ a, vs = [.ref a] ∧ H a = some (exo a C none) ∧ Q .non H
def spI1 (C : Addr) (n : Str) : Sp := fun vs H Q _ => ∃ a v, vs = [.ref a, v] ∧ H a = some (exo a C none) ∧ Say v ∧
  ∀ dx H', H dx = none → (∀ b o, b ≠ a → H b = some o → H' b = some o) → H' a = some (exo a C (some dx)) → H' dx = some (exd dx [(n, v)]) → Q .non H'
def spI2 (C : Addr) (n m : Str) : Sp := fun vs H Q _ => ∃ a v u, vs = [.ref a, v, u] ∧ H a = some (exo a C none) ∧ Say v ∧ Say u ∧
  ∀ dx H', H dx = none → (∀ b o, b ≠ a → H b = some o → H' b = some o) → H' a = some (exo a C (some dx)) → H' dx = some (exd dx [(m, u), (n, v)]) → Q .non H'
theorem fin1 {H : Hp} {a dx C : Addr} {fs : List (Str × V)} (nd : H dx = none) (ne : dx ≠ a) {R : Hp → Prop}
    (q : ∀ H', H dx = none → (∀ b o, b ≠ a → H b = some o → H' b = some o) → H' a = some (exo a C (some dx)) → H' dx = some (exd dx fs) → R H') : R (upd (upd H dx (exd dx fs)) a (exo a C (some dx))) :=
  q _ nd (fun b o nb e => by rw [upd_ne nb, upd_ne (ne_of_none e nd)]; exact e) upd_same (by rw [upd_ne ne, upd_same])
theorem fin2 {H : Hp} {a dx C : Addr} {fs gs : List (Str × V)} (nd : H dx = none) (ne : dx ≠ a) {R : Hp → Prop}
    (q : ∀ H', H dx = none → (∀ b o, b ≠ a → H b = some o → H' b = some o) → H' a = some (exo a C (some dx)) → H' dx = some (exd dx gs) → R H') : R (upd (upd (upd H dx (exd dx fs)) a (exo a C (some dx))) dx (exd dx gs)) :=
  q _ nd (fun b o nb e => by rw [upd_ne (ne_of_none e nd), upd_ne nb, upd_ne (ne_of_none e nd)]; exact e) (by rw [upd_ne ne.symm, upd_same]) upd_same
theorem digits {i : Int} (h0 : 0 ≤ i) (h : i < 10 ^ 10) : (PySem.Str.ofString (toString i)).length ≤ 10 := toString_length_le h0 (by decide) h
theorem log_of {i : Int} (h0 : 0 ≤ i) (h : i < 10 ^ 10) : i.natAbs.log2 < 1920 := by
  have h1 : i.natAbs < 2 ^ 40 := by omega
  have := PySem.Flt.log2_lt_of (by decide : 0 < 40) h1
  omega
theorem app_len (x y : Str) : (x ++ y).length = x.length + y.length := by
  show (x.cps ++ y.cps).size = x.cps.size + y.cps.size
  exact Array.size_append
theorem Say.two {v : V} (h : Say v) : (∃ y : Str, v = .str y ∧ y.length ≤ 1000) ∨ ∃ i : Int, v = .int i ∧ i.natAbs.log2 < 1920 ∧ (toString i : Str).length ≤ 10 := by
  cases v with
  | str y => exact .inl ⟨y, rfl, h⟩
  | int i =>
    obtain ⟨h0, h1⟩ : 0 ≤ i ∧ i < 10 ^ 10 := h
    exact .inr ⟨i, rfl, log_of h0 h1, digits h0 h1⟩
  | non => exact h.elim
  | bl _ => exact h.elim
  | byt _ => exact h.elim
  | flt _ => exact h.elim
  | ref _ => exact h.elim
  | ty _ => exact h.elim
theorem big {n : Nat} (h : n ≤ 5000) : n ≤ sizeLine := Nat.le_trans h (by decide)
theorem len_app {x y : Str} {a b : Nat} (hx : x.length ≤ a) (hy : y.length ≤ b) : (x ++ y).length ≤ a + b := by
  rw [app_len]
  omega
/-- what is asked of an error's class, as one test -/
def errB (K : PySem.W.Frag) (C f : Addr) (attrs : List Str) : Bool :=
  decide (PySem.W.findIn K (.ref C) "__setattr__" = some (some (.builtin "object.__setattr__"))) && (decide (PySem.W.subIn K (.ref C) (.type "BaseException") = some true) &&
  (decide (PySem.W.typeIn K (.ref C) = some (.type "type")) && (PySem.W.keepIn K (.ref C) && ((PySem.W.clsIn K C).isSome && (decide (PySem.W.mroIn K C (.ref C) = some true) &&
  (decide (PySem.W.ks_superIn K C C "__init__" = some (some (.builtin "ValueError.__init__"))) && (decide (PySem.W.subIn K (.ref C) (.type "ValueError") = some true) && (decide (PySem.W.nsIn K cStatics "thirdparty.any" = some none) &&
  (decide (PySem.W.findIn K (.ref C) "__getattribute__" = some (some (.builtin "BaseException.__getattribute__"))) && (decide (PySem.W.findIn K (.ref C) "__getattr__" = some none) &&
  (decide (PySem.W.findIn K (.ref C) "__class__" = some (some (.builtin "object.__class__"))) && (decide (PySem.W.specialIn K (.builtin "object.__class__") "__get__" = some (some (.builtin "getset_descriptor.__get__"))) &&
  (decide (PySem.W.takesIn K (.builtin "object.__class__") = some true) && (decide (PySem.W.mroIn K C (.type "object") = some true) && (PySem.W.hasDictIn K C &&
  (decide (PySem.W.typeIn K (.ref f) = some (.type "function")) && attrs.all fun y => decide (PySem.W.findIn K (.ref C) y = some none)))))))))))))))))
theorem err_of {P : Program} {K : PySem.W.Frag} {mg : Str → Option Value} {x qual : Str} {st : Stmt} {ps attrs : List Str} {C f : Addr} {fd : FuncData} (F : FunS P K "__init__" qual st C f fd) (b : Binds K fd ps []) (g : mg x = some (.ref C))
    (cls : ∃ nm q N bs bm sn sub ab col dd k0 k1 k2 k3 k5, K.lookup C = some (excClassObj nm q C N bs bm true sn sub ab col dd k0 k1 k2 k3 k5 "ValueError.__new__") ∧ PySem.HandSPX.refsVE bm = true)
    (ini : PySem.W.findIn K (.ref C) "__init__" = some (some (.ref f))) (h : errB K C f attrs = true) : Nonempty { E : Err P K mg x qual st ps attrs // E.C = C } := by
  unfold errB at h
  simp only [Bool.and_eq_true, decide_eq_true_eq, List.all_eq_true] at h
  obtain ⟨h1, h2, h3, h4, h5, h6, h7, h8, h9, h10, h11, h12, h13, h14, h15, h16, h17, h18⟩ := h
  exact ⟨⟨⟨C, f, fd, F, b, ⟨⟨cls, h1, h2, h3, h4⟩, Option.isSome_iff_exists.mp h5, h6, h7, h8, h9⟩, ⟨h5, h10, h11, h2, h12, h13, h14, h15, h16⟩, g, ini, h17, h18⟩, rfl⟩⟩
/-- isinstance between errors of the text: each is of its own class alone, of the class q and a ValueError -/
def isB (K : PySem.W.Frag) (q : Addr) (cs : List Addr) : Bool := (List.range cs.length).all fun i => decide (PySem.W.kitOne K (.ref (cs.getD i 0)) (.type "ValueError") = some true) && (decide (PySem.W.kitOne K (.ref (cs.getD i 0)) (.ref q) = some true) &&
  (List.range cs.length).all fun j => decide (PySem.W.kitOne K (.ref (cs.getD i 0)) (.ref (cs.getD j 0)) = some (decide (i = j))))
theorem isB_of {K : PySem.W.Frag} {q : Addr} {cs : List Addr} (h : isB K q cs = true) {i : Nat} (hi : i < cs.length) : PySem.W.kitOne K (.ref (cs.getD i 0)) (.type "ValueError") = some true ∧ PySem.W.kitOne K (.ref (cs.getD i 0)) (.ref q) = some true ∧
    ∀ j, j < cs.length → PySem.W.kitOne K (.ref (cs.getD i 0)) (.ref (cs.getD j 0)) = some (decide (i = j)) := by
  unfold isB at h
  rw [List.all_eq_true] at h
  have h1 := h i (List.mem_range.mpr hi)
  simp only [Bool.and_eq_true, decide_eq_true_eq, List.all_eq_true] at h1
  exact ⟨h1.1, h1.2.1, fun j hj => h1.2.2 j (List.mem_range.mpr hj)⟩
end QX

set_option Elab.async false
set_option linter.all false
set_option maxRecDepth 100000
set_option maxHeartbeats 4000000
/-! An own error raised, caught, and its field read in the suite. -/
namespace QX
open PySem PySem.Spec PyProof.Rows L2
theorem Err.xf {P : Program} {K : PySem.W.Frag} {mg : Str → Option Value} {x qual : Str} {st : Stmt} {ps attrs : List Str} (R : Err P K mg x qual st ps attrs) : XfC K R.C := ⟨R.T.ga, R.T.gg, R.T.sb, R.T.hd⟩
/-- a callee that may raise, where it is shown that it doesn't -/
theorem passF {X : Cx} : Passes (L2.CX X.prog X.w) X (fun _ _ _ => False) := fun _ _ _ _ _ _ _ c => by
  obtain ⟨_, _, _, _, _, _, _, _, _, _, _, _, z⟩ := c
  exact z.elim
/-- a callee that may raise, in a def that lets it out -/
theorem passE {X : Cx} {E : XK} {E₁ : Value → Shared → Prop} (hs : X.stack = X.env :: X.outer := by rfl) (hf : X.env.frame = some X.env.locals := by rfl) (hex : X.ex = [] := by rfl)
    (hx : X.xe = (fun e s' => wpAny (model X.prog X.w) X.A (leaving X.env e) (fun _ s'' => CX X.prog X.w X.outer X.H_0 X.s_0 E e s'') E₁ s') := by rfl) : Passes (L2.CX X.prog X.w) X E :=
  passes_call (takes_of hs hf hex hx) fun _ _ _ _ h => h
/-- what raise X(v) asks, v its one part -/
theorem mkO1_of {C : Addr} {n : Str} {v : V} {H1 : Hp} {Q : XK} (sv : Say v) (q : ∀ d G, H1 d = none → (∀ b o, H1 b = some o → G b = some o) → G d = some (.xd [(n, v)]) → Q (.ref C) (some d) G) :
    ([v] : List V).length ≤ 1000 ∧ ∀ a, H1 a = none → spI1 C n (.ref a :: ([v] ++ [])) (upd H1 a (exo a C none)) (fun x H2 => x = .non ∧ ∃ (d : Addr) (fs : List (Str × V)), H2 a = some (exo a C (some d)) ∧ H2 d = some (exd d fs) ∧ H1 d = none ∧ Q (.ref C) (some d) (upd (del H2 a) d (.xd fs))) fun _ _ _ => False := by
  refine ⟨by show 1 ≤ 1000; decide, fun a na => ⟨a, v, rfl, upd_same, sv, fun dx H' nd kp ha hd => ⟨rfl, dx, _, ha, hd, ?_, ?_⟩⟩⟩
  · by_cases e : dx = a
    · rw [e, upd_same] at nd
      cases nd
    · rwa [upd_ne e] at nd
  · have n1 : H1 dx = none := by
      by_cases e : dx = a
      · rw [e, upd_same] at nd
        cases nd
      · rwa [upd_ne e] at nd
    refine q dx _ n1 (fun b o hb => ?_) upd_same
    rw [upd_ne (ne_of_none hb n1), del_ne (ne_of_none hb na)]
    exact kp b o (ne_of_none hb na) (by rw [upd_ne (ne_of_none hb na)]; exact hb)
/-- what raise X(v, u) asks -/
theorem mkO2_of {C : Addr} {n m : Str} {v u : V} {H1 : Hp} {Q : XK} (sv : Say v) (su : Say u) (q : ∀ d G, H1 d = none → (∀ b o, H1 b = some o → G b = some o) → G d = some (.xd [(m, u), (n, v)]) → Q (.ref C) (some d) G) :
    ([v, u] : List V).length ≤ 1000 ∧ ∀ a, H1 a = none → spI2 C n m (.ref a :: ([v, u] ++ [])) (upd H1 a (exo a C none)) (fun x H2 => x = .non ∧ ∃ (d : Addr) (fs : List (Str × V)), H2 a = some (exo a C (some d)) ∧ H2 d = some (exd d fs) ∧ H1 d = none ∧ Q (.ref C) (some d) (upd (del H2 a) d (.xd fs))) fun _ _ _ => False := by
  refine ⟨by show 2 ≤ 1000; decide, fun a na => ⟨a, v, u, rfl, upd_same, sv, su, fun dx H' nd kp ha hd => ⟨rfl, dx, _, ha, hd, ?_, ?_⟩⟩⟩
  · by_cases e : dx = a
    · rw [e, upd_same] at nd
      cases nd
    · rwa [upd_ne e] at nd
  · have n1 : H1 dx = none := by
      by_cases e : dx = a
      · rw [e, upd_same] at nd
        cases nd
      · rwa [upd_ne e] at nd
    refine q dx _ n1 (fun b o hb => ?_) upd_same
    rw [upd_ne (ne_of_none hb n1), del_ne (ne_of_none hb na)]
    exact kp b o (ne_of_none hb na) (by rw [upd_ne (ne_of_none hb na)]; exact hb)
end QX

set_option Elab.async false
set_option linter.all false
set_option maxRecDepth 100000
/-! isinstance(e, C) in the suite of an except, e the error that was caught, with its dict -/
namespace QX
open PySem PySem.Spec PyProof.Rows L2
/-- a: the caught error, cls: its class, d: its dict -/
def rIsCaught (K : PySem.W.Frag) (a : Addr) (cls : Value) (d : Option Addr) : List V → Hp → VK → Prop := fun xs H Q => ∃ (C dd : Addr) (fs : List (Str × V)) (c : V) (t : Value) (b : Bool),
  xs = [.ref a, c] ∧ cls = .ref C ∧ d = some dd ∧ H dd = some (.xd fs) ∧ IsC K C ∧ ClsV c t ∧ PySem.W.kitOne K (.ref C) t = some b ∧ Q (.bl b) H
theorem call_isCaught {X : Cx} {a : Addr} {oe : Obj} {cls : Value} {d : Option Addr} {pn : List (Addr × Obj)} (hz : Zc cls d oe) (hf : ∃ vs, oe.data = .fields vs) : CallR (X.suite a ((a, oe) :: pn)) (.builtin "isinstance") (rIsCaught X.K a cls d) := by
  intro pins s σ H xs us Q I r h
  obtain ⟨C, dd, fs, c, t, b, rfl, rfl, rfl, ea, T, hc, e, q⟩ := h
  match us, r with
  | [_, _], .cons rx (.cons rt .nil) =>
    cases rx
    obtain rfl := hc.eq rt
    obtain ⟨ha, _⟩ := I.pin (a, oe) (List.mem_append_left _ (List.mem_cons.mpr (.inl rfl)))
    obtain ⟨vs, hd⟩ := hf
    obtain ⟨mA, hns, _⟩ : ObjOk X.prog X.w H s.heap dd (.xd fs) := I.hok dd _ ea
    obtain ⟨od, ho, _⟩ := lookIn_ns hns
    have J : PySem.W.InstAt s.heap a oe C (some od) := ⟨ha, hz.1, (by unfold PySem.W.notCls; rw [hd] <;> rfl), (by rw [hz.2]; exact ho)⟩
    exact PySem.W.kia_one (PySem.W.kitx_exc T.cl T.ga T.gg T.sb T.ca T.cn T.ct T.mo) I.kIn J e (fun z => nomatch z) fun tk => ⟨.bl b, H, I.kept (t' := tk) (fun _ _ z => z), rfl, q⟩
end QX

set_option Elab.async false
set_option linter.all false
set_option maxRecDepth 100000
/-! a dict of the module's top with text keys: d.get(k, x), d[k], k in d -/
namespace KDx
open PySem PySem.Spec PyProof.Rows L2
section
variable {X : Cx} {o e f : Expr} {apos cpos : Pos} {td ty tx : TE}
def tKGet2 (K : PySem.W.Frag) (w : World) (td ty tx : TE) : TE := fun σ H Q => td σ H fun x H1 => ∃ d es n, x = .ref d ∧ KDict K w d es n ∧ ty σ H1 fun y H2 => tx σ H2 fun z H3 => ∃ (q : Str) (r : Option Value), y = .str q ∧ PySem.W.nsIn K d q = some r ∧
  (r = none → Q z H3) ∧ (∀ u, r = some u → ∃ v, RelV v u ∧ Q v H3)
theorem pe_kget2 (ho : PE X o td) (he : PE X e ty) (hf : PE X f tx) (m : M2 X o "get" apos e f cpos := by exact ⟨rfl, rfl, rfl, rfl⟩) : PE X (.Call (.Attribute o "get" apos) [e, f] [] cpos) (tKGet2 X.K X.w td ty tx) := by
  refine ⟨fun pins s σ H Q I h => ?_⟩
  refine wpAny_Call_method m.base m.few m.line PySem.F.plainAttrs_dict PySem.F.slot_dict_get PySem.F.type_dict_get (thn (ho.run pins s σ H _ I h) fun u s1 ⟨x, H1, I1, rx, d, es, n, ex, D, q1⟩ => ?_)
  subst ex
  obtain rfl : u = Value.ref d := rx
  have hm1 := PySem.W.mapOf_K (prog := X.prog) (w := X.w) I1.kIn D.at_ D.lit
  refine ⟨hm1.typeIs, fun b e => by cases e; exact ⟨_, I1.kIn _ _ D.at_, rfl⟩, ?_⟩
  rw [m.trees]
  refine Calls.callWith_builtin rfl (Calls.evalArgs_plain (Calls.spliced_cons (thn (he.run pins s1 σ H1 _ I1 q1) fun iv s2 ⟨y, H2, I2, ry, q2⟩ =>
    Calls.spliced_cons (thn (hf.run pins s2 σ H2 _ I2 q2) fun fv s3 ⟨z, H3, I3, rz, q, r, ey, er, qn, qs⟩ => Calls.spliced_nil ?_))))
  subst ey
  obtain ⟨t, rfl⟩ := ry
  have hm := PySem.W.mapOf_K (prog := X.prog) (w := X.w) I3.kIn D.at_ D.lit
  refine call_meetsIn PySem.F.slot_dict_get hm.typeIs PySem.F.entry_dict_get (PySem.F.args_dict_get_3 _ _ _) (meets_dict_get_default (strKind X.prog X.w) d (strKind_is X.prog X.w q t) D.low fv) ⟨_, hm, ?_⟩
  rw [PySem.W.find_K D.at_ er]
  cases r with
  | none => exact ⟨z, H3, I3.tok _, rz, qn rfl⟩
  | some u =>
    obtain ⟨v, rv, qv⟩ := qs u rfl
    exact ⟨v, H3, I3.tok _, rv, qv⟩
end
/-- what d.get(x, dflt) gives for each x of the list -/
def getB (K : PySem.W.Frag) (a : Addr) (dflt : Int) (l : List (Str × Int)) : Bool := l.all fun q => match PySem.W.nsIn K a q.1 with
  | some none => q.2 == dflt
  | some (some (.int i _)) => i == q.2
  | _ => false
theorem getB_ok {K : PySem.W.Frag} {a : Addr} {dflt : Int} {l : List (Str × Int)} (h : getB K a dflt l = true) {x : Str} {v : Int} (hx : (x, v) ∈ l) : ∃ r, PySem.W.nsIn K a x = some r ∧ (r = none → v = dflt) ∧ (∀ u, r = some u → RelV (.int v) u) := by
  have q := List.all_eq_true.mp h _ hx
  dsimp only at q
  split at q
  · rename_i e
    exact ⟨none, e, fun _ => by simpa using q, fun u z => by cases z⟩
  · rename_i i t e
    refine ⟨_, e, fun z => (by cases z), fun u z => ?_⟩
    cases z
    have : i = v := by simpa using q
    subst this
    exact ⟨t, rfl⟩
  · cases q
/-- the values of a dict of texts -/
def strB (K : PySem.W.Frag) (a : Addr) (l : List (Str × Str)) : Bool := l.all fun q => match PySem.W.nsIn K a q.1 with
  | some (some (.str z _)) => decide (z = q.2)
  | _ => false
theorem strB_ok {K : PySem.W.Frag} {a : Addr} {l : List (Str × Str)} (h : strB K a l = true) {x z : Str} (hx : (x, z) ∈ l) : ∃ u, PySem.W.nsIn K a x = some (some u) ∧ RelV (.str z) u := by
  have q := List.all_eq_true.mp h _ hx
  dsimp only at q
  split at q
  · rename_i y t e
    have : y = z := by simpa using q
    subst this
    exact ⟨_, e, t, rfl⟩
  · cases q
/-- a tuple of texts of the module's top -/
def strOf : Value → Option Str
  | .str z _ => some z
  | _ => none
def tupB (K : PySem.W.Frag) (a : Addr) (l : List Str) : Bool := match K.lookup a with
  | some ⟨.type "tuple", _, .seq its _, _⟩ => decide (its.toList.map strOf = l.map some)
  | _ => false
theorem vals_strs : ∀ {us : List Value} {l : List Str}, us.map strOf = l.map some → Vals (l.map V.str) us
  | [], [], _ => .nil
  | [], _ :: _, h => by cases h
  | _ :: _, [], h => by cases h
  | u :: us, z :: l, h => by
    have h1 : strOf u :: us.map strOf = some z :: l.map some := h
    injection h1 with h2 h3
    refine .cons ?_ (vals_strs h3)
    cases u <;> simp only [strOf] at h2 <;> cases h2
    exact ⟨_, rfl⟩
theorem tupB_ok {K : PySem.W.Frag} {H : Hp} {a : Addr} {l : List Str} (h : tupB K a l = true) (hl : l.length ≤ 1000) : SqT K H a (l.map V.str) := by
  unfold tupB at h
  split at h
  · rename_i dd its n sl hk
    have e := of_decide_eq_true h
    have e2 := congrArg List.length e
    rw [List.length_map, List.length_map] at e2
    refine .inr ⟨_, its, n, hk, rfl, rfl, ?_, vals_strs e⟩
    have : its.size = its.toList.length := by simp
    rw [this, e2, sizeLine_eq]
    omega
  · cases h
def cycles25 : List (Str × Int) := [("set", 1), ("move", 1), ("add", 1), ("addc", 1), ("sub", 1), ("subc", 1), ("and", 1), ("or", 1), ("xor", 1), ("less", 1), ("down", 1), ("up", 1), ("carry", 1), ("clear", 1), ("load", 1), ("store", 1), ("below", 1), ("halt", 1),
  ("downby", 2), ("jump", 2), ("call", 2), ("ret", 2), ("div", 2), ("mul", 4), ("high", 4)]
end KDx

set_option Elab.async false
set_option linter.all false
set_option maxRecDepth 100000
/-! the texts of instructions' forms -/
namespace KDx
open PySem PySem.Spec PyProof.Rows L2
/-- none of these is a key -/
def noneB (K : PySem.W.Frag) (a : Addr) (l : List Str) : Bool := l.all fun x => match PySem.W.nsIn K a x with
  | some none => true
  | _ => false
theorem noneB_ok {K : PySem.W.Frag} {a : Addr} {l : List Str} (h : noneB K a l = true) {x : Str} (hx : x ∈ l) : PySem.W.nsIn K a x = some none := by
  have q := List.all_eq_true.mp h x hx
  split at q
  · assumption
  · cases q
def rrr12 : List Str := ["add", "addc", "sub", "subc", "mul", "high", "div", "and", "or", "xor", "less", "downby"]
def forms25 : List (Str × Str) := ([("set", "rn"), ("move", "rr")] : List (Str × Str)) ++ rrr12.map (fun x => (x, ("rrr" : Str))) ++ ([("down", "rrk"), ("up", "rrk"), ("carry", "r"), ("clear", ""), ("load", "rrd"), ("store", "rrd"), ("jump", "p"), ("below", "rnp"), ("call", "p"), ("ret", ""), ("halt", "")] : List (Str × Str))
def tops5 : List (Str × Int) := [("r", 15), ("n", 65535), ("k", 15), ("d", 4095), ("p", 19999)]
def odd8 : List Str := ["", "0", "SET", "set ", "sets", "region", "carr", "below1"]
end KDx

set_option Elab.async false
set_option linter.all false
set_option maxRecDepth 100000
set_option maxHeartbeats 400000
/-! zip(a, b), where each of a and b is a text, a tuple or a list. -/
namespace ZG
open PySem PySem.Spec PyProof.Rows L2

/-- what a zip goes over -/
inductive Src where
  | txt (x : Str) | tup (a : Addr) | lst (a : Addr)
def Src.v : Src → V
  | .txt x => .str x | .tup a => .ref a | .lst a => .ref a
/-- it stands, with these items -/
def Src.has (K : PySem.W.Frag) (H : Hp) : Src → List V → Prop
  | .txt x, ys => ys = x.cps.toList.map fun c => .str ⟨#[c]⟩
  | .tup a, ys => SqT K H a ys
  | .lst a, ys => SqL K H a ys
def Src.cells : Src → List Addr
  | .txt _ => [] | .tup a => [a] | .lst a => [a]
def Src.itAt : Src → Addr → Nat → Heap → Prop
  | .txt x, it, i, h => ∃ t, h.IsStrIter it (strIterType x) x t i
  | .tup a, it, i, h => h.IsTupleIter it a i
  | .lst a, it, i, h => h.IsListIter it a i
theorem Src.itAt_obj {S : Src} {it : Addr} {i : Nat} {h : Heap} (st : S.itAt it i h) : ∃ o, h.get? it = some o ∧ ∀ v, o.data ≠ .cell v := by
  cases S with
  | txt x => obtain ⟨t, o, ho, _, hd⟩ := st; exact ⟨o, ho, fun v q => by rw [hd] at q; cases q⟩
  | tup a => obtain ⟨o, ho, _, hd⟩ := st; exact ⟨o, ho, fun v q => by rw [hd] at q; cases q⟩
  | lst a => obtain ⟨o, ho, _, hd⟩ := st; exact ⟨o, ho, fun v q => by rw [hd] at q; cases q⟩
theorem Src.itAt_keep {S : Src} {it : Addr} {i : Nat} {h h' : Heap} (st : S.itAt it i h) (k : ∀ o, h.get? it = some o → h'.get? it = some o) : S.itAt it i h' := by
  cases S with
  | txt x => obtain ⟨t, o, ho, r⟩ := st; exact ⟨t, o, k o ho, r⟩
  | tup a => obtain ⟨o, ho, r⟩ := st; exact ⟨o, k o ho, r⟩
  | lst a => obtain ⟨o, ho, r⟩ := st; exact ⟨o, k o ho, r⟩
theorem Src.inj {X : Cx} {pins : List (Addr × Obj)} {σ : L2.St} {H : Hp} {s : Shared} (I : Inv X pins σ H s) {S : Src} {xs ys : List V} (h1 : S.has X.K H xs) (h2 : S.has X.K H ys) : xs = ys := by
  cases S with
  | txt x => exact h1.trans h2.symm
  | tup a => exact I.tuple_inj h1 h2
  | lst a => exact I.list_inj h1 h2

theorem Src.draws {X : Cx} {pins : List (Addr × Obj)} {σ : L2.St} {H : Hp} {s : Shared} (I : Inv X pins σ H s) (hh : X.A.in1.handled = none) {S : Src} {it : Addr} {i : Nat} {xs : List V} (hs : S.has X.K H xs) (st : S.itAt it i s.heap) (hne : ∀ c ∈ S.cells, c ≠ it) :
    ∃ (P : Nat → Value → Prop) (St : Nat → Heap → Prop), Draws X.prog X.w X.A.in1 it (it :: S.cells) xs.length P St ∧ St i s.heap ∧ (∀ j v, P j v → ∃ x, xs[j]? = some x ∧ RelV x v) ∧ ∀ j h, St j h → S.itAt it j h := by
  cases S with
  | txt x =>
    obtain ⟨t, st⟩ := st
    have hs : xs = x.cps.toList.map fun c => V.str ⟨#[c]⟩ := hs
    have hl : xs.length = x.cps.size := by rw [hs]; simp
    rw [hl]
    refine ⟨_, _, Draws.text hh it x t, st, fun j v hv => ?_, fun j h q => ⟨t, q⟩⟩
    obtain ⟨c, u, hc, rfl⟩ := hv
    refine ⟨.str ⟨#[c]⟩, ?_, u, rfl⟩
    rw [hs, List.getElem?_map, Array.getElem?_toList, hc]; rfl
  | tup a =>
    obtain ⟨its, rv, p, _⟩ := I.tuple (show SqT X.K H a xs from hs)
    have hl : xs.length = its.toArray.size := by rw [rv.length]; simp
    rw [hl]
    refine ⟨_, _, Draws.tuple hh it a (hne a (List.mem_cons_self ..)) its.toArray, ⟨st, p⟩, fun j v hv => ?_, fun j h q => q.1⟩
    have hv : its[j]? = some v := by simpa using hv
    have hj : j < xs.length := by
      rw [rv.length]
      rcases Nat.lt_or_ge j its.length with z | z
      · exact z
      · rw [List.getElem?_eq_none z] at hv; cases hv
    obtain ⟨u, hu, ru⟩ := rv.get (List.getElem?_eq_getElem hj)
    rw [hv] at hu
    cases hu
    exact ⟨_, List.getElem?_eq_getElem hj, ru⟩
  | lst a =>
    obtain ⟨its, rv, p, _⟩ := I.list (show SqL X.K H a xs from hs)
    have hl : xs.length = its.toArray.size := by rw [rv.length]; simp
    rw [hl]
    refine ⟨_, _, Draws.list hh it a (hne a (List.mem_cons_self ..)) its.toArray, ⟨st, p.isList⟩, fun j v hv => ?_, fun j h q => q.1⟩
    have hv : its[j]? = some v := by simpa using hv
    have hj : j < xs.length := by
      rw [rv.length]
      rcases Nat.lt_or_ge j its.length with z | z
      · exact z
      · rw [List.getElem?_eq_none z] at hv; cases hv
    obtain ⟨u, hu, ru⟩ := rv.get (List.getElem?_eq_getElem hj)
    rw [hv] at hu
    cases hu
    exact ⟨_, List.getElem?_eq_getElem hj, ru⟩

/-- both as they stand at each turn; the items in a new pair -/
def ItG (K : PySem.W.Frag) (S1 S2 : Src) : It where
  go i H := ∃ xs ys, S1.has K H xs ∧ S2.has K H ys ∧ i < xs.length ∧ i < ys.length
  yld i H v H' := ∃ T x y, v = .ref T ∧ H T = none ∧ H' = upd H T (.tup [x, y]) ∧ (∀ xs, S1.has K H xs → xs[i]? = some x) ∧ ∀ ys, S2.has K H ys → ys[i]? = some y
  stop i H := ∃ xs ys, S1.has K H xs ∧ S2.has K H ys ∧ i = min xs.length ys.length
structure Apart (z TI TO i1 i2 : Addr) (S1 S2 : Src) : Prop where
  sep : ZipSep2 z TI TO i1 i2 (i1 :: S1.cells) (i2 :: S2.cells)
  n1 : ∀ c ∈ S1.cells, c ≠ i1
  n2 : ∀ c ∈ S2.cells, c ≠ i2

theorem turnG {P : Program} {w : World} {K : PySem.W.Frag} {elts : List Expr} {kk : Nat} {tpos : Pos} {S1 S2 : Src} {z TI TO i1 i2 : Addr} (D : Apart z TI TO i1 i2 S1 S2) :
    Turn P w K (.Tuple elts kk tpos) (ItG K S1 S2) [z, TI, TO, i1, i2] z (fun i h => (IsZip h z TI TO .none ∧ IsTupOf2 h TI (.ref i1) (.ref i2) ∧ ∃ x y, IsTupOf2 h TO x y) ∧ S1.itAt i1 i h ∧ S2.itAt i2 i h) where
  mem := by simp
  obj := by
    rintro i h ⟨⟨hz, hI, x, y, hO⟩, h1, h2⟩ c hc
    simp only [List.mem_cons, List.not_mem_nil, or_false] at hc
    rcases hc with rfl | rfl | rfl | rfl | rfl
    · exact ⟨_, hz, nofun⟩
    · exact ⟨_, hI, nofun⟩
    · exact ⟨_, hO, nofun⟩
    · exact Src.itAt_obj h1
    · exact Src.itAt_obj h2
  keep := by
    rintro i h h' ⟨⟨hz, hI, x, y, hO⟩, h1, h2⟩ k
    exact ⟨⟨k z (by simp) _ hz, k TI (by simp) _ hI, x, y, k TO (by simp) _ hO⟩, Src.itAt_keep h1 (k i1 (by simp)), Src.itAt_keep h2 (k i2 (by simp))⟩
  item := by
    intro X hP hw hK hc i pins s σ H E I hf ⟨⟨hz, hI, x0, y0, hO⟩, h1, h2⟩ ⟨xs, ys, q1, q2, l1, l2⟩
    subst hP hw hK
    have hh : X.A.in1.handled = none := I.ok.hd hc
    obtain ⟨P1, St1, D1, st1, e1, k1⟩ := Src.draws I hh q1 h1 D.n1
    obtain ⟨P2, St2, D2, st2, e2, k2⟩ := Src.draws I hh q2 h2 D.n2
    have lz : z < s.heap.objs.size := Heap.lt_size hz
    refine wpAny_pyNext_zipD2_item D.sep D1 D2 hz hI hO st1 st2 l1 l2 fun u1 u2 h' tk p1 p2 z' o' n1 n2 hT hsz hk => ?_
    obtain ⟨x, hx, rx⟩ := e1 i u1 p1
    obtain ⟨y, hy, ry⟩ := e2 i u2 p2
    refine ⟨_, rfl, wpAny_letOwnedTupleGo_zip (s := { s with heap := h', toks := tk }) z' fun h'' z'' sb => ?_⟩
    have hT2 := (sb.2 _ (Nat.ne_of_gt lz)).trans hT
    have new : ObjOk X.prog X.w (upd H s.heap.objs.size (.tup [x, y])) h'' s.heap.objs.size (.tup [x, y]) :=
      ⟨by show 2 ≤ sizeLine; decide, [u1, u2], .cons rx (.cons ry .nil), _, hT2, rfl, _, rfl⟩
    have all : ∀ c o, c ∉ [z, TI, TO, i1, i2] → s.heap.get? c = some o → h''.get? c = some o := fun c o hb q => by
      simp only [List.mem_cons, List.not_mem_nil, or_false, not_or] at hb
      exact (sb.2 c hb.1).trans (hk c o hb.1 hb.2.2.1 hb.2.2.2.1 hb.2.2.2.2 q)
    have I1 : Inv X pins σ (upd H s.heap.objs.size (.tup [x, y])) { s with heap := h'', toks := tk } := I.turnedNew all hf (Nat.le_refl _) new
    have lt : ∀ {c o}, s.heap.get? c = some o → c < s.heap.objs.size := fun e => Heap.lt_size e
    obtain ⟨oa, ha, _⟩ := Src.itAt_obj h1
    obtain ⟨ob, hb, _⟩ := Src.itAt_obj h2
    refine ⟨.ref s.heap.objs.size, _, I1, rfl, ⟨_, x, y, rfl, I.hok.fresh (Nat.le_refl _), rfl, fun l hl => by rw [Src.inj I hl q1]; exact hx, fun l hl => by rw [Src.inj I hl q2]; exact hy⟩, ⟨⟨z'', ?_, u1, u2, ?_⟩, ?_, ?_⟩, fun c hcm => ?_⟩
    · exact (sb.2 _ D.sep.TIz).trans (hk _ _ D.sep.TIz D.sep.TITO D.sep.TIi1 D.sep.TIi2 hI)
    · exact (sb.2 _ D.sep.TOz).trans o'
    · exact Src.itAt_keep (k1 _ _ n1) fun o e => (sb.2 _ (Ne.symm D.sep.zi1)).trans e
    · exact Src.itAt_keep (k2 _ _ n2) fun o e => (sb.2 _ (Ne.symm D.sep.zi2)).trans e
    · have hlt : c < s.heap.objs.size := by
        simp only [List.mem_cons, List.not_mem_nil, or_false] at hcm
        rcases hcm with rfl | rfl | rfl | rfl | rfl
        · exact lz
        · exact lt hI
        · exact lt hO
        · exact lt ha
        · exact lt hb
      rw [upd_ne (Nat.ne_of_lt hlt)]
      exact (hf c hcm).1
  done := by
    intro X hP hw hK hc i pins s σ H E I hf ⟨⟨hz, hI, x0, y0, hO⟩, h1, h2⟩ ⟨xs, ys, q1, q2, hend⟩
    subst hP hw hK
    have hh : X.A.in1.handled = none := I.ok.hd hc
    obtain ⟨P1, St1, D1, st1, e1, k1⟩ := Src.draws I hh q1 h1 D.n1
    obtain ⟨P2, St2, D2, st2, e2, k2⟩ := Src.draws I hh q2 h2 D.n2
    refine wpAny_pyNext_zipD2_end D.sep D1 D2 hz hI hO st1 st2 (by omega) (by omega) (by omega) fun h' tk hk => ⟨rfl, I.turnedL (ch := [z, TI, TO, i1, i2]) (fun c o hb q => ?_) hf⟩
    simp only [List.mem_cons, List.not_mem_nil, or_false, not_or] at hb
    exact hk c o hb.1 hb.2.2.1 hb.2.2.2.1 hb.2.2.2.2 q
  self := fun A i s Q E st h => wpAny_pyIter_zip st.1.1 h

/-- the object of its iterator, at the start -/
def Src.o1 (S : Src) (u : Value) : Obj :=
  match S with
  | .txt x => { cls := .type (strIterType x), data := .fields #[u, .int 0 0] }
  | .tup _ => { cls := .type "tuple_iterator", data := .fields #[u, .int 0 0] }
  | .lst _ => { cls := .type "list_iterator", data := .fields #[u, .int 0 0] }
theorem Src.begins {X : Cx} {pins : List (Addr × Obj)} {σ : L2.St} {H : Hp} {s : Shared} (I : Inv X pins σ H s) {S : Src} {xs : List V} (hs : S.has X.K H xs) {u : Value} (hu : RelV S.v u) :
    ∃ G : Heap → Prop, Begins u (S.o1 u) G ∧ G s.heap ∧ (∀ h it, h.get? it = some (S.o1 u) → S.itAt it 0 h) ∧ ∀ c ∈ S.cells, c < s.heap.objs.size := by
  cases S with
  | txt x =>
    obtain ⟨t, rfl⟩ := hu
    exact ⟨_, begins_text x t, trivial, fun h it e => ⟨t, _, e, rfl, rfl⟩, nofun⟩
  | tup a =>
    cases hu
    obtain ⟨its, rv, p, _⟩ := I.tuple (show SqT X.K H a xs from hs)
    obtain ⟨o, ho, _⟩ := id p
    exact ⟨_, begins_tuple a its.toArray, p, fun h it e => ⟨_, e, rfl, rfl⟩, fun c hc => by rw [List.mem_singleton.mp hc]; exact Heap.lt_size ho⟩
  | lst a =>
    cases hu
    obtain ⟨its, rv, p, _⟩ := I.list (show SqL X.K H a xs from hs)
    exact ⟨_, begins_list a its.toArray, p.isList, fun h it e => ⟨_, e, rfl, rfl⟩, fun c hc => by rw [List.mem_singleton.mp hc]; exact p.lt⟩

def iZipG (K : PySem.W.Frag) (ta : TA) : TI := fun σ H R => ta σ H fun vs H1 => ∃ S1 S2 xs ys, vs = [Src.v S1, Src.v S2] ∧ S1.has K H1 xs ∧ S2.has K H1 ys ∧ R (ItG K S1 S2) H1
theorem pi_zipG {X : Cx} {e e2 : Expr} {ta : TA} {p pos tpos : Pos} {elts : List Expr} {kk : Nat} (hg : Gl X "zip") (hm : X.mg "zip" = none) (ha : PA X [e, e2] ta)
    (hs : starEach [e, e2] X.env = (false, eval e X.env) :: starEach [e2] X.env := by rfl) (hpl : (backTo pos (starEach [e2] X.env)).any (·.1) = false := by rfl) :
    PI X (.Tuple elts kk tpos) (.Call (.Name "zip" p) [e, e2] [] pos) (iZipG X.K ta) := by
  refine ⟨fun pins s σ H R I h => Call_ (ld_blt I hg hm PyProof.Rows.boot_zip (PyProof.Rows.callWith_type1 (thn (ha.run pos pins s σ H _ I h) fun us s1 ⟨vs, H1, I1, r1, q1⟩ => ?_) hs hpl))⟩
  obtain ⟨S1, S2, xs, ys, rfl, g1, g2, q⟩ := q1
  cases r1 with
  | cons r rr =>
    cases rr with
    | cons r' rr =>
      cases rr
      obtain ⟨G1, B1, b1, f1, c1⟩ := Src.begins I1 g1 r
      obtain ⟨G2, B2, b2, f2, c2⟩ := Src.begins I1 g2 r'
      refine zip_begins2 B1 B2 b1 b2 ?_
      intro h' hz hI hO o1 o2 hsz hk
      refine wpAny_pyIter_zip hz ?_
      have I2 : Inv X pins σ H1 { s1 with heap := h' } := I1.kept (t' := s1.toks) hk
      have D : Apart (s1.heap.objs.size + 4) (s1.heap.objs.size + 2) (s1.heap.objs.size + 3) s1.heap.objs.size (s1.heap.objs.size + 1) S1 S2 := ⟨zip_sep2 c1 c2, fun c hc => Nat.ne_of_lt (c1 c hc), fun c hc => Nat.ne_of_lt (Nat.lt_succ_of_lt (c2 c hc))⟩
      refine ⟨s1.heap.objs.size + 4, [s1.heap.objs.size + 4, s1.heap.objs.size + 2, s1.heap.objs.size + 3, s1.heap.objs.size, s1.heap.objs.size + 1], _, _, H1, rfl, I2, turnG D, ⟨⟨hz, hI, _, _, hO⟩, f1 _ _ o1, f2 _ _ o2⟩, fun c hc => ?_, q⟩
      have hle : s1.heap.objs.size ≤ c := by
        simp only [List.mem_cons, List.not_mem_nil, or_false] at hc
        rcases hc with rfl | rfl | rfl | rfl | rfl
        · exact Nat.le_add_right _ _
        · exact Nat.le_add_right _ _
        · exact Nat.le_add_right _ _
        · exact Nat.le_refl _
        · exact Nat.le_add_right _ _
      exact I1.fpOk hle (I1.hok.fresh hle)

theorem walkG {K : PySem.W.Frag} {S1 S2 : Src} {xs ys : List V} {n : Nat} (hn : n = min xs.length ys.length) : Walk (ItG K S1 S2) n (fun H => S1.has K H xs ∧ S2.has K H ys) (YPair (fun i => xs[i]?) (fun i => ys[i]?)) := by
  refine ⟨fun i _ hi q => ⟨xs, ys, q.1, q.2, by omega, by omega⟩, fun _ q => ⟨xs, ys, q.1, q.2, hn⟩, fun i H v H' _ q y => ?_⟩
  obtain ⟨T, x, w, e1, e2, e3, e4, e5⟩ := y
  exact ⟨T, x, w, e1, e2, e3, e4 xs q.1, e5 ys q.2⟩
end ZG

set_option Elab.async false
set_option linter.all false
set_option maxRecDepth 100000
/-! x in t, x not in t, for a tuple t of data and data x -/
namespace IT
open PySem PySem.Spec PyProof.Rows L2
/-- both read as data -/
def Both (K : PySem.W.Frag) (H : Hp) (x y : V) (d : PyData) (ds : List PyData) : Prop := (Dp K H x d ∧ SeqAt.shaped d = true) ∧ Dp K H y (.tuple ds) ∧ SeqAt.shaped (.tuple ds) = true
def rInT (K : PySem.W.Frag) (neg : Bool) : R2 := fun x y H Q => ∃ d ds, Both K H x y d ds ∧ Q (.bl (neg.xor (ds.any fun z => PyData.eqv z d))) H
theorem op_inT {X : Cx} (room : X.A.units + 65 < cLine) : OpR X (compareOp .In) (rInT X.K false) := by
  rintro pins s σ H x y v u Q I rx ry ⟨d, ds, ⟨⟨h1, k1⟩, h2, k2⟩, q⟩
  obtain ⟨_, r1⟩ := Dp.reads I d x v h1 rx
  obtain ⟨_, r2⟩ := Dp.reads I (.tuple ds) y u h2 ry
  refine SeqAt.in_tuple_reads r2 r1 (by have := SeqAt.canLay_of_shaped k2; unfold PyData.canLay0 at this; exact this) (SeqAt.canLay_of_shaped k1) (room_in_shaped k1 room) ⟨.bl _, H, I, rfl, ?_⟩
  rw [Bool.false_xor] at q
  exact q
theorem op_notInT {X : Cx} (room : X.A.units + 65 < cLine) : OpR X (compareOp .NotIn) (rInT X.K true) := by
  rintro pins s σ H x y v u Q I rx ry ⟨d, ds, ⟨⟨h1, k1⟩, h2, k2⟩, q⟩
  obtain ⟨_, r1⟩ := Dp.reads I d x v h1 rx
  obtain ⟨_, r2⟩ := Dp.reads I (.tuple ds) y u h2 ry
  refine SeqAt.notIn_tuple_reads r2 r1 (by have := SeqAt.canLay_of_shaped k2; unfold PyData.canLay0 at this; exact this) (SeqAt.canLay_of_shaped k1) (room_in_shaped k1 room) ⟨.bl _, H, I, rfl, ?_⟩
  rw [Bool.true_xor] at q
  exact q
end IT
namespace IT
open PySem L2
theorem hu65 {A : Around} {k : Nat} (r : Room k A) : A.units + 65 < cLine := by
  have := r.un
  omega
end IT

set_option Elab.async false
set_option linter.all false
set_option maxRecDepth 100000
set_option maxHeartbeats 4000000
/-! tuple * int for every int from 0 on: once is the tuple itself, never is an empty one -/
namespace TR
open PySem PySem.Spec PyProof.Rows L2
theorem tuple_mul1 (l : Addr) (items : Array Value) (n : Nat) (dd : Option Addr) (sl : Array (Option Value)) (u : Tok) :
    Meets (Builtin.«tuple.__mul__» ⟨[.ref l, .int 1 u], []⟩) (fun _ R s => s.heap.get? l = some { cls := .type "tuple", dict := dd, data := .seq items n, slots := sl } ∧ R (.ok (.ret (Value.ref l))) s) :=
  .of_wp fun prog w A R s h => by
    obtain ⟨hp, g, d, tk, os⟩ := s
    obtain ⟨hl, h⟩ := h
    have f1 := AutoSeq1.idx_int
    have c1 : (items.isEmpty || (1 : Int) == 1) = true := by simp
    wp_walk using wpAny_loadPart' hl
    repeat (first
      | (refine wpAny_ite_true (decide_eq_true (by rw [c1])) ?_; wp_walk using wpAny_loadPart' hl)
      | (refine wpAny_ite_false (decide_eq_false (by decide)) ?_; wp_walk using wpAny_loadPart' hl))
    exact ⟨_, rfl, h⟩
theorem tuple_mul0 (l : Addr) (items : Array Value) (n : Nat) (dd : Option Addr) (sl : Array (Option Value)) (u : Tok) (hi : items.isEmpty = false) :
    Meets (Builtin.«tuple.__mul__» ⟨[.ref l, .int 0 u], []⟩) (fun _ R s => s.heap.get? l = some { cls := .type "tuple", dict := dd, data := .seq items n, slots := sl } ∧
      R (.ok (.ret (Value.ref s.heap.objs.size))) { s with heap := s.heap.push { cls := Value.type "tuple", data := Data.seq #[] }, toks := s.toks }) :=
  .of_wp fun prog w A R s h => by
    obtain ⟨hp, g, d, tk, os⟩ := s
    obtain ⟨hl, h⟩ := h
    have f1 := AutoSeq1.idx_int
    have c1 : (items.isEmpty || (0 : Int) == 1) = false := by rw [hi]; rfl
    have c2 : (decide ((0 : Int) ≤ 0) || items.isEmpty) = true := by simp
    wp_walk using wpAny_loadPart' hl
    exact ⟨_, rfl, h⟩
def rRepA (K : PySem.W.Frag) : R2 := fun x y H Q => ∃ l k xs, x = .ref l ∧ y = .int k ∧ SqT K H l xs ∧ xs ≠ [] ∧ 0 ≤ k ∧ k ≤ 1000 ∧ xs.length ≤ 1000 ∧
  (k = 1 → Q (.ref l) H) ∧ (k ≠ 1 → ∀ p, H p = none → Q (.ref p) (upd H p (.tup (List.replicate k.toNat xs).flatten)))
section
variable {X : Cx}
theorem op_repA : OpR X (binaryOp .Mult) (rRepA X.K) := by
  intro pins s σ H x y v u Q I rx ry h
  obtain ⟨l, k, xs, rfl, rfl, hT, hne, h1, h2, hz, q1, q2⟩ := h
  by_cases hk2 : 2 ≤ k
  · exact op_repT pins s σ H _ _ v u Q I rx ry ⟨l, k, xs, rfl, rfl, hT, hne, hk2, h2, hz, q2 (by omega)⟩
  cases rx
  obtain ⟨t, rfl⟩ := ry
  obtain ⟨its, r, ⟨⟨cls, dd, data, sl⟩, ho, hc, n, hd⟩, hs⟩ := I.tuple hT
  simp only at hc hd
  subst hc hd
  have hle : its.length = xs.length := r.length.symm
  have hi : its.toArray.isEmpty = false := by
    cases its with
    | nil => exact absurd (List.eq_nil_of_length_eq_zero hle.symm) hne
    | cons a b => rfl
  have hk : k = 0 ∨ k = 1 := by omega
  rcases hk with rfl | rfl
  · refine wpAny_binaryOp_repeat_ref (T := "tuple") (U := "int") (by decide) ⟨_, ho, rfl⟩ (fun s' => typeIs_int s' 0 t) noFill_tuple_mul F.fills_int_mul F.slot_int_rmul repeat_tuple F.slot_int_index.lookup
      (call_meets F.slot_int_rmul (typeIs_int s 0 t) F.entry_int_rmul (F.args_int_rmul_2 _ _) (int_rmul_tuple 0 t l its.toArray n dd sl)
        ⟨ho, rfl, ⟨_, ho, rfl⟩, call_meets F.slot_tuple_mul ⟨_, ho, rfl⟩ F.entry_tuple_mul (F.args_tuple_mul_2 _ _) (tuple_mul0 l its.toArray n dd sl t hi) ⟨ho, ?_⟩⟩)
    refine ⟨.ref s.heap.objs.size, _, I.laid (t' := s.toks) (o := .tup []) (fun b ob q => Heap.get?_push_of_some _ q) (Nat.le_refl _) ?_, rfl, q2 (by decide) _ (I.hok.fresh (Nat.le_refl _))⟩
    exact ⟨Nat.zero_le _, [], .nil, IsTup.new _ _⟩
  · refine wpAny_binaryOp_repeat_ref (T := "tuple") (U := "int") (by decide) ⟨_, ho, rfl⟩ (fun s' => typeIs_int s' 1 t) noFill_tuple_mul F.fills_int_mul F.slot_int_rmul repeat_tuple F.slot_int_index.lookup
      (call_meets F.slot_int_rmul (typeIs_int s 1 t) F.entry_int_rmul (F.args_int_rmul_2 _ _) (int_rmul_tuple 1 t l its.toArray n dd sl)
        ⟨ho, rfl, ⟨_, ho, rfl⟩, call_meets F.slot_tuple_mul ⟨_, ho, rfl⟩ F.entry_tuple_mul (F.args_tuple_mul_2 _ _) (tuple_mul1 l its.toArray n dd sl t) ⟨ho, ?_⟩⟩)
    exact ⟨.ref l, H, I, rfl, q1 rfl⟩
end
end TR

set_option Elab.async false
set_option linter.all false
set_option maxRecDepth 100000
/-! heaps that a law's own text works on: what it holds, as a list of addresses and objects; the two first helpers' promises -/
namespace Lw
open PySem PySem.Spec PyProof.Rows L2
theorem same_upd {H : Hp} {p : Addr} {o : HO} (h : H p = none) : Same H (upd H p o) := fun b x e => by
  rw [upd_ne (ne_of_none e h)]
  exact e
/-- what stood stands, but for the object at p -/
def Keep (H H' : Hp) (p : Addr) : Prop := ∀ b o, b ≠ p → H b = some o → H' b = some o
theorem Keep.trans {H H1 H2 : Hp} {p : Addr} (a : Keep H H1 p) (b : Keep H1 H2 p) : Keep H H2 p := fun c o n e => b c o n (a c o n e)
theorem keep_upd (H : Hp) (p : Addr) (o : HO) : Keep H (upd H p o) p := fun b u n e => by
  rw [upd_ne n]
  exact e
theorem Same.keep {H H' : Hp} {p : Addr} (s : Same H H') : Keep H H' p := fun b o _ e => s b o e
theorem Keep.new {H H1 H2 : Hp} {p : Addr} (n : H p = none) (s : Same H H1) (k : Keep H1 H2 p) : Same H H2 := fun b o e => k b o (ne_of_none e n) (s b o e)
theorem Keep.free {H H' : Hp} {p r : Addr} {o : HO} (k : Keep H H' p) (hp : H' p = some o) (hr : H' r = none) : H r = none := by
  cases e : H r with
  | none => rfl
  | some u =>
    have n : r ≠ p := fun z => by
      rw [z, hp] at hr
      cases hr
    rw [k r u n e] at hr
    cases hr
theorem at_int {ns : List Int} {i : Int} (h0 : 0 ≤ i) (h1 : i < ns.length) : ∃ z, atI (ns.map V.int) i = some (.int z) := by
  obtain ⟨j, rfl⟩ := Int.eq_ofNat_of_zero_le h0
  have hj : j < ns.length := by omega
  refine ⟨ns[j], atI_nat ?_⟩
  rw [List.getElem?_map, List.getElem?_eq_getElem hj]
  rfl
def spSource (K : PySem.W.Frag) : Sp := fun vs H Q _ => ∃ (a : Addr) (ns : List Int) (k : Int), vs = [.ref a, .int k] ∧ SqL K H a (ns.map V.int) ∧ ns.length ≤ 63 ∧ 0 ≤ k ∧
  ∀ (p : Addr) (x y : Int), H p = none → 0 ≤ x → Q (.ref p) (upd H p (.lst [.int x, .int y]))
def spDraw : Sp := fun vs H Q _ => ∃ (p : Addr) (x y m : Int), vs = [.ref p, .int m] ∧ H p = some (.lst [.int x, .int y]) ∧ 0 ≤ x ∧ 0 < m ∧ m ≤ 100000 ∧
  ∀ (v x' y' : Int), 0 ≤ v → v < m → 0 ≤ x' → Q (.int v) (upd H p (.lst [.int x', .int y']))
/-- since H0: what stood stands; L: what is new and known, each place once -/
structure Objs (H0 H : Hp) (L : List (Addr × HO)) : Prop where
  same : Same H0 H
  at_ : ∀ q ∈ L, H q.1 = some q.2
  nd : (L.map (·.1)).Nodup
  new : ∀ q ∈ L, H0 q.1 = none
section
variable {H0 H H' : Hp} {L : List (Addr × HO)} {a : Addr} {o o' : HO} {i : Nat}
theorem Objs.nil (H : Hp) : Objs H H [] := ⟨Same.refl H, fun _ h => absurd h (by simp), List.nodup_nil, fun _ h => absurd h (by simp)⟩
theorem Objs.get (h : Objs H0 H L) (i : Nat) (hi : L[i]? = some (a, o)) : H a = some o := h.at_ _ (List.mem_of_getElem? hi)
theorem Objs.mono (h : Objs H0 H L) (s : Same H H') : Objs H0 H' L := ⟨h.same.trans s, fun q hq => s _ _ (h.at_ q hq), h.nd, h.new⟩
theorem Objs.fresh (h : Objs H0 H L) (n : H a = none) : a ∉ L.map (·.1) ∧ H0 a = none :=
  ⟨fun z => (by
    obtain ⟨q, hq, e⟩ := List.mem_map.mp z
    have := h.at_ q hq
    rw [e, n] at this
    cases this), h.same.free n⟩
theorem Objs.push (h : Objs H0 H L) (n : H a = none) (s : Same H H') (e : H' a = some o) : Objs H0 H' ((a, o) :: L) := by
  obtain ⟨h1, h2⟩ := h.fresh n
  refine ⟨h.same.trans s, fun q hq => ?_, ?_, fun q hq => ?_⟩
  · rcases List.mem_cons.mp hq with z | z
    · rw [z]; exact e
    · exact s _ _ (h.at_ q z)
  · rw [List.map_cons, List.nodup_cons]
    exact ⟨h1, h.nd⟩
  · rcases List.mem_cons.mp hq with z | z
    · rw [z]; exact h2
    · exact h.new q z
theorem Objs.add (h : Objs H0 H L) (n : H a = none) : Objs H0 (upd H a o) ((a, o) :: L) := h.push n (same_upd n) upd_same
theorem Objs.skip (h : Objs H0 H L) (n : H a = none) : Objs H0 (upd H a o) L := h.mono (same_upd n)
theorem Objs.set (h : Objs H0 H L) (i : Nat) (hi : L[i]? = some (a, o)) (k : Keep H H' a) (e : H' a = some o') : Objs H0 H' (L.set i (a, o')) := by
  have hm : (a, o) ∈ L := List.mem_of_getElem? hi
  obtain ⟨hlt, hie⟩ := List.getElem?_eq_some_iff.mp hi
  have hmap : (L.set i (a, o')).map (·.1) = L.map (·.1) := by
    rw [List.map_set]
    apply List.ext_getElem?
    intro j
    by_cases hj : i = j
    · subst hj
      rw [List.getElem?_set_self (by simpa using hlt), List.getElem?_map, hi]
      rfl
    · rw [List.getElem?_set_ne hj]
  have h0 := h.new _ hm
  refine ⟨Keep.new h0 h.same k, fun q hq => ?_, by rw [hmap]; exact h.nd, fun q hq => ?_⟩
  · obtain ⟨j, hj⟩ := List.getElem?_of_mem hq
    by_cases hij : i = j
    · subst hij
      rw [List.getElem?_set_self hlt] at hj
      cases hj
      exact e
    · rw [List.getElem?_set_ne hij] at hj
      have hq2 := List.mem_of_getElem? hj
      refine k _ _ (fun z => ?_) (h.at_ q hq2)
      have e1 : (L.map (·.1))[i]? = some a := by rw [List.getElem?_map, hi]; rfl
      have e2 : (L.map (·.1))[j]? = some a := by rw [List.getElem?_map, hj, ← z]; rfl
      obtain ⟨g1, f1⟩ := List.getElem?_eq_some_iff.mp e1
      obtain ⟨g2, f2⟩ := List.getElem?_eq_some_iff.mp e2
      exact hij ((List.getElem_inj h.nd).mp (f1.trans f2.symm))
  · obtain ⟨j, hj⟩ := List.getElem?_of_mem hq
    by_cases hij : i = j
    · subst hij
      rw [List.getElem?_set_self hlt] at hj
      cases hj
      exact h0
    · rw [List.getElem?_set_ne hij] at hj
      exact h.new q (List.mem_of_getElem? hj)
theorem Objs.put (h : Objs H0 H L) (i : Nat) (hi : L[i]? = some (a, o)) : Objs H0 (upd H a o') (L.set i (a, o')) := h.set i hi (keep_upd H a o') upd_same
/-- one more, that was new at some time since -/
theorem Objs.join {b : Addr} {u : HO} (h : Objs H0 H' L) (n : b ∉ L.map (·.1)) (n0 : H0 b = none) (e : H' b = some u) : Objs H0 H' ((b, u) :: L) := by
  refine ⟨h.same, fun q hq => ?_, ?_, fun q hq => ?_⟩
  · rcases List.mem_cons.mp hq with z | z
    · rw [z]; exact e
    · exact h.at_ q z
  · rw [List.map_cons, List.nodup_cons]
    exact ⟨n, h.nd⟩
  · rcases List.mem_cons.mp hq with z | z
    · rw [z]; exact n0
    · exact h.new q z
theorem Objs.sub {L' : List (Addr × HO)} (h : Objs H0 H L) (s : List.Sublist L' L) : Objs H0 H L' :=
  ⟨h.same, fun q hq => h.at_ q (s.subset hq), h.nd.sublist (s.map _), fun q hq => h.new q (s.subset hq)⟩
theorem Objs.ne (h : Objs H0 H L) {b : Addr} {u : HO} (i j : Nat) (hi : L[i]? = some (a, o)) (hj : L[j]? = some (b, u)) (hij : i ≠ j) : a ≠ b := fun z => by
  have e1 : (L.map (·.1))[i]? = some a := by rw [List.getElem?_map, hi]; rfl
  have e2 : (L.map (·.1))[j]? = some a := by rw [List.getElem?_map, hj, z]; rfl
  obtain ⟨g1, f1⟩ := List.getElem?_eq_some_iff.mp e1
  obtain ⟨g2, f2⟩ := List.getElem?_eq_some_iff.mp e2
  exact hij ((List.getElem_inj h.nd).mp (f1.trans f2.symm))
end
theorem ixN_of {n : Nat} {i : Int} (h0 : 0 ≤ i) (h1 : i < n) : ixN n i = some i.toNat := by
  unfold ixN
  rw [if_pos h0, if_pos h1]
theorem get_at {ns : List Int} {i : Nat} (h : i < ns.length) : atI (ns.map V.int) (0 + (i : Int)) = some (.int ns[i]) := by
  rw [Int.zero_add]
  refine atI_nat ?_
  rw [List.getElem?_map, List.getElem?_eq_getElem h]
  rfl
theorem at_back {ns : List Int} {i : Nat} (h : i < ns.length) : atI (ns.map V.int) ((ns.length : Int) - 1 - (0 + (i : Int))) = some (.int (ns[ns.length - 1 - i]'(by omega))) := by
  rw [show (ns.length : Int) - 1 - (0 + (i : Int)) = ((ns.length - 1 - i : Nat) : Int) by omega]
  refine atI_nat ?_
  rw [List.getElem?_map, List.getElem?_eq_getElem (by omega)]
  rfl
theorem ne_of_none' {H : Hp} {a b : Addr} {o : HO} (h : H a = some o) (h' : H b = none) : b ≠ a := (ne_of_none h h').symm
end Lw

set_option Elab.async false
set_option linter.all false
set_option maxRecDepth 100000
set_option maxHeartbeats 2000000
/-! all(e for target in walked), any(..): the element may call own defs; by the frame of the generator as a context of its own. -/
namespace GA
open PySem PySem.Spec PyProof.Rows L2 GenW GxR

/-- the frame of a generator expression that was made at s -/
abbrev gen (X : Cx) (A : Around) (s : Shared) (H : Hp) (cenv : Env) (fp : List Addr) (pn : List (Addr × Obj)) : Cx :=
  { X with A := A, s_0 := s, H_0 := H, env := cenv, outer := X.stack, stack := cenv :: X.stack, ex := fp, fn := fun _ => false, pn := pn, xe := fun _ _ => False }
/-- its environment -/
abbrev genv (X : Cx) (scope : Scope) (C : Addr) (code : Value) : Env := genEnv scope (cloFrom X.env.cells scope.names []) C code builtinsNs X.env
structure GenOk (N : List Str) (sc scope : Scope) (own : List (Str × Nat)) : Prop where
  blk : BlkOk N sc scope own
  co : scope.isCoroutine = false
  cell : ∀ y ∈ scope.names, y.2 ≠ .cell
  dot : scope.names.lookup (".0" : Str) = some NameKind.local
theorem genOk_by {N : List Str} {sc scope : Scope} {own : List (Str × Nat)} (h : (scope.kind = .function ∧ (∀ y ∈ scope.names, scope.names.lookup y.1 = some y.2) ∧ (∀ p ∈ own, N[p.2]? = some p.1) ∧
    (∀ y ∈ scope.names, y.2 = .free → sc.names.lookup y.1 = some .cell ∨ sc.names.lookup y.1 = some .free) ∧ (∀ y ∈ scope.names, y.2 = .local ∨ y.2 = .cell → y.1 ∈ own.map (·.1) ∨ y.1 ∉ N)) ∧
    scope.isCoroutine = false ∧ (∀ y ∈ scope.names, y.2 ≠ .cell) ∧ scope.names.lookup (".0" : Str) = some NameKind.local) : GenOk N sc scope own :=
  ⟨⟨h.1.1, h.1.2.1, h.1.2.2.1, h.1.2.2.2.1, h.1.2.2.2.2⟩, h.2.1, h.2.2.1, h.2.2.2⟩

section
variable {X : Cx} {pins : List (Addr × Obj)} {σ : L2.St} {H : Hp} {s : Shared}
theorem gen_start {A : Around} {scope : Scope} {own : List (Str × Nat)} {fp : List Addr} {a : Addr} {code : Value} {go : Obj} {m0 : Str → Option Value} {s5 : Shared} (I : Inv X pins σ H s) (ok : GenOk X.N X.env.scope scope own) (hN : X.N.Nodup)
    (hA : A.frames = some X.stack) (hh : A.handled = none) (hfp : ∀ b ∈ fp, FpOk X pins H b ∧ b < s.heap.objs.size) (kp : ∀ b o, s.heap.get? b = some o → s5.heap.get? b = some o) (hns : s5.heap.Ns s.heap.objs.size m0) (hos : s5.os = s.os) (hb5 : AllBare s5.gens)
    (ha : s.heap.objs.size < a) (hgo : s5.heap.get? a = some go) (hgd : ∀ v, go.data ≠ .cell v) :
    Inv (gen X (A.deeper (genv X scope s.heap.objs.size code)) s H (genv X scope s.heap.objs.size code) fp [(a, go)]) [] (wipe σ (own.map (·.2))) H s5 := by
  have hfree : ∀ y ∈ scope.names, y.2 = .free → ∃ c, X.env.cells.lookup y.1 = some c := fun y hy e => by
    rcases ok.blk.free y hy e with k | k
    · exact I.ok.has _ (.inl k)
    · exact I.ok.has _ (.inr k)
  have cm : ∀ {y c}, (y, c) ∈ cloFrom X.env.cells scope.names [] → X.env.cells.lookup y = some c ∧ c < s.heap.objs.size ∧ (y, NameKind.free) ∈ scope.names := fun {y c} hm => by
    rcases cloFrom_mem hm with hm | ⟨h1, rfl⟩
    · cases hm
    · obtain ⟨c, hc⟩ := hfree _ h1 rfl
      rw [hc]
      obtain ⟨w, z⟩ := I.cell _ _ hc
      exact ⟨rfl, z.lt, h1⟩
  have cm2 : ∀ {y c}, (cloFrom X.env.cells scope.names []).lookup y = some c → X.env.cells.lookup y = some c ∧ c < s.heap.objs.size ∧ (y, NameKind.free) ∈ scope.names := fun {y c} e => cm (PySem.mem_of_lookup e)
  have look : ∀ {y}, scope.names.lookup y = some .free → ∃ c, (cloFrom X.env.cells scope.names []).lookup y = some c := fun {y} hl =>
    mem_lookup (cloFrom_has (cells := X.env.cells) (acc := []) (PySem.mem_of_lookup hl))
  refine ⟨⟨I.ok.mod, ok.blk.kind, I.ok.glob, rfl, Nat.le_refl _, fun y z c e1 e2 => I.ok.inj y z c (cm2 e1).1 (cm2 e2).1, fun y hy => ?_, fun y c z e => ?_, fun _ => hh, Around.frames_deeper hA, .inr ⟨rfl, rfl⟩, fun b hb => ⟨?_, fun y c e z => ?_⟩, I.bs, Nat.le_trans I.ok.bsz I.sz, fun b o e hb => ?_, fun b hb z => ?_, I.stack, I.stkFree⟩,
    hos, hb5, Un.kept kp, ⟨m0, hns, fun i y av e1 e2 e3 => ?_⟩, fun y c e => ?_, I.hok.fresh (Nat.le_refl _), fun y c e => ?_, fun p hp => ?_, I.hok.kept kp, by rw [wipe_length]; exact I.len⟩
  · have hy : scope.names.lookup y = some .cell ∨ scope.names.lookup y = some .free := hy
    rcases hy with hy | hy
    · exact absurd rfl (ok.cell _ (PySem.mem_of_lookup hy))
    · exact look hy
  · cases z
  · exact Nat.ne_of_lt (hfp b hb).2
  · exact (hfp b hb).1.2.2.2.2.1 y c (cm2 e).1 z
  · rcases (hfp b hb).1.2.2.2.1 with z | z
    · exact I.ok.noex b o e z
    · exact absurd (Nat.lt_of_lt_of_le (Heap.lt_size e) (Nat.le_trans I.ok.bsz z)) (Nat.lt_irrefl _)
  · rcases List.mem_cons.mp (I.stkSub b z) with z | z
    · exact (hfp b hb).1.2.1 z
    · exact (hfp b hb).1.2.2.1 z
  · obtain ⟨e2, hne⟩ := wipe_some e2
    have hfr : scope.names.lookup y = some .free := by
      have no : ∀ k, scope.names.lookup y = some k → ¬ (k = .local ∨ k = .cell) := fun k e hh => by
        rcases ok.blk.own _ (PySem.mem_of_lookup e) hh with e' | e'
        · obtain ⟨p, hp, hpy⟩ := List.mem_map.mp e'
          have e3 := ok.blk.ix p hp
          have : p.1 = y := hpy
          rw [this] at e3
          exact hne (List.mem_map.mpr ⟨p, hp, nodup_ix hN e3 e1⟩)
        · exact e' (List.mem_of_getElem? e1)
      have e3 : Vis scope y := e3
      rcases e3 with e3 | e3 | e3
      · exact absurd (.inl rfl) (no _ e3)
      · exact absurd (.inr rfl) (no _ e3)
      · exact e3
    obtain ⟨m, hn, hl⟩ := I.loc
    have hvis : Vis X.env.scope y := (ok.blk.free _ (PySem.mem_of_lookup hfr) rfl).elim (fun k => .inr (.inl k)) (fun k => .inr (.inr k))
    obtain ⟨w, r, q⟩ := hl i y av e1 e2 hvis
    obtain ⟨c, hc⟩ := look hfr
    refine ⟨w, r, .inr ⟨.inr hfr, c, hc, ?_⟩⟩
    rcases q with ⟨k, _⟩ | ⟨_, c', e', z⟩
    · have k : X.env.scope.names.lookup y = some .local := k
      rcases ok.blk.free _ (PySem.mem_of_lookup hfr) rfl with k' | k' <;> rw [show X.env.scope.names.lookup y = _ from k'] at k <;> cases k
    · rw [(cm2 hc).1] at e'
      cases e'
      obtain ⟨o, ho, hd⟩ := z
      exact ⟨o, kp _ _ ho, hd⟩
  · obtain ⟨v, o, ho, hd⟩ := I.cell y c (cm2 e).1
    exact ⟨v, o, kp _ _ ho, hd⟩
  · exact I.freeC y c (cm2 e).1
  · have e : p = (a, go) := by simpa using hp
    subst e
    refine ⟨hgo, I.hok.fresh (Nat.le_of_lt ha), Nat.ne_of_gt ha, fun z => ?_, hgd⟩
    have z : a ∈ frs X.stack := z
    rcases List.mem_cons.mp (I.stkSub a z) with e | e
    · exact absurd (Nat.lt_trans I.lt ha) (by rw [e]; exact Nat.lt_irrefl _)
    · exact I.nofs (Nat.le_of_lt ha) e

/-- the generator expression's code object: made, or found in the def's table; the table may have grown -/
theorem gcode {A : Around} {E : Value → Shared → Prop} {c P : Addr} {gpos : Pos} {qn : Str} {scope : Scope} {Q : Value → Shared → Prop} (TB : LamX.TabB X.base X.mg c P) (hcode : X.env.code = .ref c) (I : Inv X pins σ H s) (ht : TabG H P)
    (hQ : ∀ code s' H', Tabbed P H H' → Inv X pins σ H' s' → s.heap.objs.size ≤ s'.heap.objs.size → (∀ b o, b ≠ P → s.heap.get? b = some o → s'.heap.get? b = some o) → Q code s') :
    wpAny (model X.prog X.w) A (genexprCode X.env gpos qn scope) Q E s := by
  obtain ⟨ps, hP, ht⟩ := ht
  have hPs : s.heap.get? P = some { cls := .none, data := .fields ps } := I.hok P _ hP
  have cd : PySem.W.CodeHd s.heap c P := TB.code.keeps fun b u e => I.bk b u e
  cases hf : codeAmong gpos ps.toList with
  | none =>
    refine wpAny_genexprCodeX hcode (cd.code hPs ht) (cd.tab hPs) hf fun c' h' tk hx hge hlt hco' _ htab' _ => ?_
    obtain ⟨o1, vs, f1, tf, fl, tg, inF, tx, tt, op, _, _, _, _, _, _, _, _, _, htr, _⟩ := hco'
    have J := inv_tab (h' := h') (g' := s.gens) (d' := s.drawn) (t' := tk) I hP (fun b o hb e => hx b o hb e) htab'.2 I.bare
    exact hQ _ _ _ ⟨⟨_, upd_same, htr⟩, fun b hb => upd_ne hb⟩ J (Nat.le_trans hge (Nat.le_of_lt hlt)) fun b o hb e => hx b o hb e
  | some cv =>
    refine wpAny_genexprCode_hit hcode (cd.code hPs ht) hf ?_
    exact hQ cv s H ⟨⟨ps, hP, ht⟩, fun _ _ => rfl⟩ I (Nat.le_refl _) fun _ _ _ e => e
theorem gblt {A : Around} {E : Value → Shared → Prop} {c P : Addr} {Q : Addr → Shared → Prop} (TB : LamX.TabB X.base X.mg c P) (I : Inv X pins σ H s) (h : Q builtinsNs s) : wpAny (model X.prog X.w) A (builtinsFor X.env.globals X.env.builtins) Q E s := by
  obtain ⟨bm, ob, e1, e2, e3, e4, e5, e6, e7, e8⟩ := TB.bm
  exact wpAny_builtinsFor (m := X.mg) (by rw [I.ok.glob]; exact I.mod.glob.keeps I.bk) e1 e2 (I.bk _ _ e5) e6 e7 e8 h

/-! ### the generator's run -/
structure Wk (s s' : Shared) : Prop where
  os : s'.os = s.os
  bare : AllBare s'.gens
  keep : ∀ b o, s.heap.get? b = some o → s'.heap.get? b = some o
def YB (Y0 : Bool → Shared → Prop) : Protocol := fun _ _ v s kap => ∃ b, v = .bool b ∧ Y0 b s ∧ (b = true → ∀ s', Wk s s' → kap (.send .none) s')
def RB (F : Shared → Prop) : GenEnd := fun _ _ r s => ((r = .ok (.ret .none) ∨ r = .ok .next) ∧ F s) ∨ ∃ e, r = .error e ∧ False
theorem over_gloop {A : Around} {e : Expr} {gs : List Comprehension} {sc : Scope} {pos : Pos} {it : Value} {cenv : Env} : A.over (.compLoop (.GeneratorExp e gs sc pos) 0 it .none cenv) [] = A.deeper cenv := by
  first
    | rfl
    | (obtain ⟨hd, d, fr, gs, u⟩ := A; simp [Around.over, Around.deeper, marksOver, frameCount, unitsOf, envsOf, guardsOf, pushEnvs, pushGuards, Code.envs, Code.env?, Code.isFrame, Code.guards, Code.isGuard, Code.weight, Code.frames, Code.isCreation, Code.isCaller, Code.cUnits])
theorem over_gstart {A : Around} {e : Expr} {gs : List Comprehension} {sc : Scope} {pos : Pos} {it : Value} {cenv : Env} : A.over (.compStart (.GeneratorExp e gs sc pos) 0 it .none cenv) [] = A.deeper cenv := by
  first
    | rfl
    | (obtain ⟨hd, d, fr, gs, u⟩ := A; simp [Around.over, Around.deeper, marksOver, frameCount, unitsOf, envsOf, guardsOf, pushEnvs, pushGuards, Code.envs, Code.env?, Code.isFrame, Code.guards, Code.isGuard, Code.weight, Code.frames, Code.isCreation, Code.isCaller, Code.cUnits])
end
section
variable {Z : Cx} {tg iter elt : Expr} {scope : Scope} {gpos : Pos} {A : Around} {it : Addr} {fp : List Addr} {tn : Nat → Heap → Prop} {J : It} {g : TG} {te : TE} {W : Nat → Nat → Hp → Prop} {QT QF : Hp → Prop} {σ0 : L2.St} {vs : List Nat}
theorem seg_gloop (hA : A.deeper Z.env = Z.A) (hc : Z.calm = true) (hxe : ∀ e s, ¬ Z.xe e s) (hco : Z.env.scope.isCoroutine = false) (T : Turn Z.prog Z.w Z.K tg J fp it tn) (pg : PG Z tg g) (pe : PE Z elt te)
    (hσ : ∀ σ2 : L2.St, wipe σ2 vs = σ0 → ∀ (i : Nat) v, σ0[i]? = some (some v) → σ2[i]? = some (some v)) (hl : ∀ σ2 : L2.St, wipe σ2 vs = σ0 → σ0.length = σ2.length)
    (stat : ∀ {σ' : L2.St} {H' : Hp} {s' : Shared}, Inv Z [] σ' H' s' → (∀ b ∈ fp, H' b = none) → ∀ b ∈ fp, FpOk Z [] H' b)
    (turn : ∀ i m H, W i m H → (J.stop i H ∧ QT H) ∨ (J.go i H ∧ ∃ Nx : Hp → Prop, (∀ H', Nx H' → ∃ m', m' < m ∧ W (i + 1) m' H') ∧ ∀ x H', J.yld i H x H' → g x σ0 H' fun σ2 H2 => wipe σ2 vs = σ0 ∧
      te σ2 H2 fun y H4 => ∃ b, y = .bl b ∧ (if b = true then Nx H4 else QF H4))) :
    ∀ (m n i : Nat) (s₀ s : Shared) (H : Hp), m < n → Inv Z [] σ0 H s → tn i s.heap → (∀ b ∈ fp, H b = none) → W i m H →
      Seg (model Z.prog Z.w) A (RB fun s => ∃ H', Inv Z [] σ0 H' s ∧ QT H') (YB fun b s => ∃ H', Inv Z [] σ0 H' s ∧ (b = false → QF H')) n s₀
        (.compLoop (.GeneratorExp elt [⟨tg, iter, [], 0⟩] scope gpos) 0 (.ref it) .none Z.env)
        ((model Z.prog Z.w).den (.compLoop (.GeneratorExp elt [⟨tg, iter, [], 0⟩] scope gpos) 0 (.ref it) .none Z.env)) [] s := by
  intro m
  induction m using Nat.strongRecOn with
  | ind m ih =>
    intro n i s₀ s H hmn I st nfp w
    have ov : A.over (.compLoop (.GeneratorExp elt [⟨tg, iter, [], 0⟩] scope gpos) 0 (.ref it) .none Z.env) [] = Z.A := over_gloop.trans hA
    obtain ⟨n, rfl⟩ : ∃ k, n = k + 1 := ⟨n - 1, by omega⟩
    show Seg _ A _ _ _ s₀ _ ((compTurn (.GeneratorExp elt [⟨tg, iter, [], 0⟩] scope gpos) 0 (.ref it) .none Z.env).onRaise (leaving Z.env)) [] s
    rw [compTurn_gen, Sem.onRaise_eq_wrap]
    refine seg_bind_wrap (wpAny_standAt ?_)
    refine seg_bind_wrap ?_
    rw [ov]
    rcases turn i m H w with ⟨stop, q⟩ | ⟨go, Nx, hNx, step⟩
    · refine thnF (T.done Z rfl rfl rfl hc i [] s σ0 H (fun _ _ => False) I (stat I nfp) st stop) fun r s1 ⟨hr, I1⟩ => ?_
      subst hr
      exact seg_end (.ok .next) (.inl ⟨.inr rfl, H, I1, q⟩)
    · refine thnF (T.item Z rfl rfl rfl hc i [] s σ0 H (fun _ _ => False) I (stat I nfp) st go) fun r s1 ⟨u, hr, h1⟩ => ?_
      subst hr
      refine seg_bind_wrap ?_
      rw [ov]
      refine thnF h1 fun _ s2 ⟨x, H2, I2, r2, y2, st2, n2⟩ => ?_
      have I2' := I2.pinned (stat I2 n2) (T.obj _ _ st2)
      refine seg_bind_wrap ?_
      rw [ov]
      refine wpAny_mono (pg.run _ s2 _ H2 x u _ I2' r2 (step x H2 y2)) (fun _ s3 ⟨σ3, H3, I3, hw3, q3⟩ => ?_) fun e s' z => (hxe e s' z).elim
      refine seg_bind_wrap (wpAny_tests_nil ?_)
      simp only [if_true]
      have hy : ∀ v, yieldOut Z.env v = yieldValue v := fun v => by simp only [yieldOut, hco, Bool.false_eq_true, if_false]
      simp only [hy]
      rw [Sem.bind_eq_wrap', Sem.bind_eq_wrap', Sem.wrap_wrap, Sem.wrap_wrap]
      refine seg_wrap ?_
      rw [ov]
      refine wpAny_mono (pe.run _ s3 σ3 H3 _ I3 q3) (fun z s4 ⟨yv, H4, I4, r4, b, eb, q4⟩ => ?_) fun e s' z => (hxe e s' z).elim
      subst eb
      obtain rfl : z = Value.bool b := r4
      have pin' : ∀ b ∈ fp, ∀ o, s2.heap.get? b = some o → s4.heap.get? b = some o ∧ H4 b = none := fun b hb o e =>
        let z := I4.pin (b, o) (List.mem_append_right _ (List.mem_append_right _ (mem_pinsAt hb e)))
        ⟨z.1, z.2.1⟩
      have I5 : Inv Z [] σ0 H4 s4 := (I4.unpinned (pins := [])).weak (hl σ3 hw3) (hσ σ3 hw3)
      refine seg_at (seg_yield rfl rfl rfl ⟨b, rfl, ⟨H4, I5, fun hb => by subst hb; simpa using q4⟩, fun hb s' wk => ?_⟩)
      subst hb
      obtain ⟨m', hm, w'⟩ := hNx H4 (by simpa using q4)
      have I6 : Inv Z [] σ0 H4 s' := I5.call' (ch := []) wk.os (Un.kept wk.keep) (I5.hok.kept wk.keep) wk.bare fun b hb => absurd hb (by simp)
      refine seg_again rfl (ih m' hm n (i + 1) s' s' H4 (by omega) I6 (T.keep _ _ _ st2 fun b hb o e => wk.keep b o (pin' b hb o e).1) (fun b hb => ?_) w')
      obtain ⟨o, e, _⟩ := T.obj _ _ st2 b hb
      exact (pin' b hb o e).2

theorem seg_gstart (hA : A.deeper Z.env = Z.A) (hc : Z.calm = true) (hxe : ∀ e s, ¬ Z.xe e s) (hco : Z.env.scope.isCoroutine = false) (T : Turn Z.prog Z.w Z.K tg J fp it tn) (pg : PG Z tg g) (pe : PE Z elt te)
    (hσ : ∀ σ2 : L2.St, wipe σ2 vs = σ0 → ∀ (i : Nat) v, σ0[i]? = some (some v) → σ2[i]? = some (some v)) (hl : ∀ σ2 : L2.St, wipe σ2 vs = σ0 → σ0.length = σ2.length)
    (stat : ∀ {σ' : L2.St} {H' : Hp} {s' : Shared}, Inv Z [] σ' H' s' → (∀ b ∈ fp, H' b = none) → ∀ b ∈ fp, FpOk Z [] H' b)
    (turn : ∀ i m H, W i m H → (J.stop i H ∧ QT H) ∨ (J.go i H ∧ ∃ Nx : Hp → Prop, (∀ H', Nx H' → ∃ m', m' < m ∧ W (i + 1) m' H') ∧ ∀ x H', J.yld i H x H' → g x σ0 H' fun σ2 H2 => wipe σ2 vs = σ0 ∧
      te σ2 H2 fun y H4 => ∃ b, y = .bl b ∧ (if b = true then Nx H4 else QF H4))) (m n : Nat) (s₀ s : Shared) (H : Hp) (hmn : m < n) (I : Inv Z [] σ0 H s) (st : tn 0 s.heap) (nfp : ∀ b ∈ fp, H b = none) (w : W 0 m H) :
      Seg (model Z.prog Z.w) A (RB fun s => ∃ H', Inv Z [] σ0 H' s ∧ QT H') (YB fun b s => ∃ H', Inv Z [] σ0 H' s ∧ (b = false → QF H')) n s₀
        (.compStart (.GeneratorExp elt [⟨tg, iter, [], 0⟩] scope gpos) 0 (.ref it) .none Z.env)
        ((model Z.prog Z.w).den (.compStart (.GeneratorExp elt [⟨tg, iter, [], 0⟩] scope gpos) 0 (.ref it) .none Z.env)) [] s := by
  have loop := seg_gloop (iter := iter) (scope := scope) (gpos := gpos) hA hc hxe hco T pg pe hσ hl stat turn m n 0 s₀ s H hmn I st nfp w
  show Seg _ A _ _ _ s₀ _ ((compStart (.GeneratorExp elt [⟨tg, iter, [], 0⟩] scope gpos) 0 (.ref it) .none Z.env).onRaise (leaving Z.env)) [] s
  unfold compStart
  rw [Sem.onRaise_eq_wrap]
  show Seg _ A _ _ _ s₀ _ ((ask >>= _).wrap _ _ _ _) [] s
  refine seg_bind_wrap (wpAny_askSetting ?_)
  split
  · exact seg_again rfl loop
  · first
      | exact seg_bind_wrap (wpAny_rule (seg_bind_wrap (wpAny_standAt (seg_bind_wrap (T.self _ 0 s _ _ st (seg_again rfl loop))))))
      | (refine seg_bind_wrap (wpAny_rule ?_); show Seg _ A _ _ _ s₀ _ ((standAt iter.pos >>= _).wrap _ _ _ _) [] s; exact seg_bind_wrap (wpAny_standAt (seg_bind_wrap (T.self _ 0 s _ _ st (seg_again rfl loop)))))
/-- only the table of generators, the tokens and what was drawn are others; the heap has grown -/
theorem inv_wk {H : Hp} {s s' : Shared} (I : Inv Z [] σ0 H s) (wk : Wk s s') : Inv Z [] σ0 H s' :=
  I.call' (ch := []) wk.os (Un.kept wk.keep) (I.hok.kept wk.keep) wk.bare fun b hb => absurd hb (by simp)
/-! ### who asks: all, any -/
theorem all_loop {A : Around} {a : Addr} {gi : Nat} (hh : A.handled = none) (hd : A.depth < recursionLimit) (hgen : ∀ {H : Hp} {s : Shared}, Inv Z [] σ0 H s → s.heap.IsGen a gi) :
    ∀ (n : Nat) (s : Shared) (gs : GenState) (H : Hp), Inv Z [] σ0 H s → s.gens[gi]? = some gs →
      gs.Goes (model Z.prog Z.w) A.in1.in1 (RB fun s => ∃ H', Inv Z [] σ0 H' s ∧ QT H') (YB fun b s => ∃ H', Inv Z [] σ0 H' s ∧ (b = false → QF H')) n (.send .none) (s.setGen gi .running) →
      codeAny (model Z.prog Z.w) A (.builtin "all.loop" ⟨[.ref a], []⟩) (fun r s' => ∃ b H', r = .ok (.ret (.bool b)) ∧ Inv Z [] σ0 H' s' ∧ (if b = true then QT H' else QF H')) s := by
  intro n
  induction n with
  | zero =>
    intro s gs H I hgs hgo
    refine codeAny_builtin F.entry_all_loop ?_
    rw [Around.under_plainId F.plain_all_loop _]
    show wpAny _ A.in1 (pyNext (.ref a) >>= _) _ _ s
    refine wpAny_bind (next_genG (F := fun _ _ s => ∃ H', Inv Z [] σ0 H' s ∧ QT H') (Er := fun _ _ => False) hh I.nolimit hd (hgen I) hgs hgo (fun v s₁ gs' hb hv => ?_) (fun s₁ hp h' hk => ?_) fun _ _ z => z.elim)
    · obtain ⟨b, rfl, ⟨H1, I1, q1⟩, nx⟩ := hv
      refine wpAny_bind (wpAny_holding (wpAny_truthy_bool ?_))
      refine wpAny_bind (wpAny_letGo ?_)
      cases b with
      | true => exact (nx rfl s₁ ⟨rfl, I1.bare, fun _ _ e => e⟩).elim
      | false =>
        first
          | exact wpAny_pure ⟨false, H1, rfl, inv_wk I1 ⟨rfl, allBare_setGen I1.bare hb, fun _ _ e => e⟩, by simpa using q1 rfl⟩
          | (simp only [Bool.false_eq_true, if_false]; exact wpAny_pure ⟨false, H1, rfl, inv_wk I1 ⟨rfl, allBare_setGen I1.bare hb, fun _ _ e => e⟩, by simpa using q1 rfl⟩)
          | (simp only [Bool.false_eq_true, if_false]; exact wpAny_bind (wpAny_rule (wpAny_pure ⟨false, H1, rfl, inv_wk I1 ⟨rfl, allBare_setGen I1.bare hb, fun _ _ e => e⟩, by simpa using q1 rfl⟩)))
    · obtain ⟨H1, I1, q1⟩ := hp
      refine wpAny_bind (wpAny_rule (wpAny_pure ⟨true, H1, rfl, inv_wk I1 ⟨rfl, allBare_setGen I1.bare rfl, hk⟩, by simpa using q1⟩))
  | succ n ih =>
    intro s gs H I hgs hgo
    refine codeAny_builtin F.entry_all_loop ?_
    rw [Around.under_plainId F.plain_all_loop _]
    show wpAny _ A.in1 (pyNext (.ref a) >>= _) _ _ s
    have hsz : gi + 1 ≤ s.gens.size := by
      rcases Nat.lt_or_ge gi s.gens.size with h | h
      · exact h
      · rw [Array.getElem?_eq_none h] at hgs; cases hgs
    refine wpAny_bind (wpAny_gsz hsz (next_genG (F := fun _ _ s => ∃ H', Inv Z [] σ0 H' s ∧ QT H') (Er := fun _ _ => False) hh I.nolimit hd (hgen I) hgs hgo (fun v s₁ gs' hb hv => fun hs1 => ?_) (fun s₁ hp h' hk => fun _ => ?_) fun _ _ z => z.elim))
    · obtain ⟨b, rfl, ⟨H1, I1, q1⟩, nx⟩ := hv
      refine wpAny_bind (wpAny_holding (wpAny_truthy_bool ?_))
      refine wpAny_bind (wpAny_letGo ?_)
      have hs1' : gi < s₁.gens.size := by
        rw [setGen_size] at hs1
        exact hs1
      cases b with
      | true =>
        simp only [if_true]
        refine wpAny_pure ⟨plainId_quiet F.plain_all_loop _, ih _ gs' H1 (inv_wk I1 ⟨rfl, allBare_setGen I1.bare hb, fun _ _ e => e⟩) (setGen_at hs1') ?_⟩
        exact nx rfl _ ⟨rfl, allBare_setGen (allBare_setGen I1.bare hb) rfl, fun _ _ e => e⟩
      | false =>
        first
          | exact wpAny_pure ⟨false, H1, rfl, inv_wk I1 ⟨rfl, allBare_setGen I1.bare hb, fun _ _ e => e⟩, by simpa using q1 rfl⟩
          | (simp only [Bool.false_eq_true, if_false]; exact wpAny_pure ⟨false, H1, rfl, inv_wk I1 ⟨rfl, allBare_setGen I1.bare hb, fun _ _ e => e⟩, by simpa using q1 rfl⟩)
          | (simp only [Bool.false_eq_true, if_false]; exact wpAny_bind (wpAny_rule (wpAny_pure ⟨false, H1, rfl, inv_wk I1 ⟨rfl, allBare_setGen I1.bare hb, fun _ _ e => e⟩, by simpa using q1 rfl⟩)))
    · obtain ⟨H1, I1, q1⟩ := hp
      refine wpAny_bind (wpAny_rule (wpAny_pure ⟨true, H1, rfl, inv_wk I1 ⟨rfl, allBare_setGen I1.bare rfl, hk⟩, by simpa using q1⟩))
end

section
variable {X : Cx} {tg iter elt : Expr} {scope : Scope} {gpos p pos : Pos} {wi : TI} {g : TG} {te : TE} {own : List (Str × Nat)} {c P : Addr} {k : Nat}
/-- all(elt for target in iter): W by the turn and a measure, Nx what a turn is to reach -/
def tAll (P : Addr) (wi : TI) (g : TG) (te : TE) (vs : List Nat) : TE := fun σ H Q => wi σ H fun J H1 => TabG H1 P ∧ ∀ H2, Tabbed P H1 H2 → ∃ W : Nat → Nat → Hp → Prop, (∃ m, W 0 m H2) ∧ ∀ i m H, W i m H →
  (J.stop i H ∧ Q (.bl true) H) ∨ (J.go i H ∧ ∃ Nx : Hp → Prop, (∀ H', Nx H' → ∃ m', m' < m ∧ W (i + 1) m' H') ∧ ∀ x H', J.yld i H x H' → g x (wipe σ vs) H' fun σ2 H2 => wipe σ2 vs = wipe σ vs ∧
    te σ2 H2 fun y H4 => ∃ b, y = .bl b ∧ (if b = true then Nx H4 else Q (.bl false) H4))
theorem wipe_wipe {σ σ2 : L2.St} {vs : List Nat} (h : wipe σ2 vs = wipe σ vs) : (∀ (i : Nat) v, (wipe σ vs)[i]? = some (some v) → σ2[i]? = some (some v)) ∧ (wipe σ vs).length = σ2.length := by
  refine ⟨fun i v e => ?_, ?_⟩
  · rw [← h] at e
    exact (wipe_some e).1
  · rw [← h, wipe_length]
theorem pe_all (hr : Room (k + 1) X.A) (hc : X.calm = true) (hN : X.N.Nodup) (hg : Gl X "all") (hm : X.mg "all" = none) (hb : bootBuiltins "all" = some (.builtin "all")) (TB : LamX.TabB X.base X.mg c P) (hcode : X.env.code = .ref c) (hi : PI X tg iter wi) (ok : GenOk X.N X.env.scope scope own)
    (hpg : ∀ (s : Shared) (H : Hp) (C : Addr) (code : Value) (fp : List Addr) (pn : List (Addr × Obj)), PG (gen X (X.A.in1.in1.deeper (genv X scope C code)) s H (genv X scope C code) fp pn) tg g)
    (hpe : ∀ (s : Shared) (H : Hp) (C : Addr) (code : Value) (fp : List Addr) (pn : List (Addr × Obj)), Room k (X.A.in1.in1.deeper (genv X scope C code)) → PE (gen X (X.A.in1.in1.deeper (genv X scope C code)) s H (genv X scope C code) fp pn) elt te)
    (hs : ∀ v, genFold iter X.env v = pure v := by intro _; rfl)
    (he : starEach [.GeneratorExp elt [⟨tg, iter, [], 0⟩] scope gpos] X.env = (false, eval (.GeneratorExp elt [⟨tg, iter, [], 0⟩] scope gpos) X.env) :: starEach [] X.env := by rfl) :
    PE X (.Call (.Name "all" p) [.GeneratorExp elt [⟨tg, iter, [], 0⟩] scope gpos] [] pos) (tAll P wi g te (own.map (·.2))) := by
  refine ⟨fun pins s σ H Q I h => ?_⟩
  refine wpAny_Call_Name_kw (ld_blt I hg hm hb ?_)
  refine PyProof.Rows.callWith_builtin1 ?_ he (by rfl)
  rw [he]
  show wpAny _ _ (spliced ((false, eval (.GeneratorExp elt [⟨tg, iter, [], 0⟩] scope gpos) X.env) :: backTo pos (starEach [] X.env))) _ _ s
  refine Calls.spliced_cons ?_
  have hfree : ∀ y ∈ scope.names, y.2 = .free → ∃ c, X.env.cells.lookup y.1 = some c := fun y hy e => by
    rcases ok.blk.free y hy e with k | k
    · exact I.ok.has _ (.inl k)
    · exact I.ok.has _ (.inr k)
  refine wpAny_GeneratorExp_make ok.co (closure_ok hfree) ok.cell ok.dot ok.blk.kind hr.depth ?_ hs
  refine thn (hi.run pins s σ H _ I h) fun xv s1 h1 => thn h1 fun itv s2 h2 => ?_
  obtain ⟨it, fp, tn, J, H2, rfl, I2, T, st2, f2, tab2, q2⟩ := h2
  refine ⟨I2.nolimit, ?_⟩
  refine gcode TB hcode I2 tab2 fun code s3 H3 tb3 I3 sz3 kp3 => ?_
  refine gblt TB I3 ?_
  intro h' hn' hs'
  have nP : ∀ b, H2 b = none → b ≠ P := fun b e z => by
    obtain ⟨ps, e2, _⟩ := tab2
    rw [z, e2] at e
    cases e
  have f3 : ∀ b ∈ fp, FpOk X pins H3 b ∧ b < s3.heap.objs.size := fun b hb => by
    obtain ⟨o, e, _⟩ := T.obj _ _ st2 b hb
    have hP := nP b (f2 b hb).1
    refine ⟨⟨by rw [tb3.2 b hP]; exact (f2 b hb).1, (f2 b hb).2⟩, Heap.lt_size (kp3 b o hP e)⟩
  have st3 : tn 0 s3.heap := T.keep _ _ _ st2 fun b hb o e => kp3 b o (nP b (f2 b hb).1) e
  have hsz : h'.objs.size = s3.heap.objs.size + 1 := by rw [hs'.1, Heap.size_push]
  have keep' : ∀ b o, s3.heap.get? b = some o → h'.get? b = some o := fun b o e => hs'.extBut b o (Nat.ne_of_lt (Heap.lt_size e)) (Heap.get?_push_of_some _ e)
  generalize hgo : ({ cls := .type "generator", data := .fields #[.int s3.gens.size 0, .str "<genexpr>" (s3.toks + 1), .str (X.env.qual ++ "<genexpr>") (s3.toks + 1 + 1)] } : Obj) = go
  have hgoc : go.cls = .type "generator" ∧ go.data = .fields #[.int s3.gens.size 0, .str "<genexpr>" (s3.toks + 1), .str (X.env.qual ++ "<genexpr>") (s3.toks + 1 + 1)] ∧ go.slots = #[] := by rw [← hgo]; exact ⟨rfl, rfl, rfl⟩
  have hpush : (h'.push go).get? h'.objs.size = some go := by rw [← hgo]; exact Heap.get?_push_size _ rfl
  generalize hgi : s3.gens.size = gi at hgoc
  obtain ⟨W, ⟨m0, w0⟩, turn⟩ := q2 H3 tb3
  generalize hs5 : ({ s3 with gens := s3.gens.push (.fresh (.compStart (.GeneratorExp elt [⟨tg, iter, [], 0⟩] scope gpos) 0 (.ref it) .none (genEnv scope (cloFrom X.env.cells scope.names []) s3.heap.objs.size code builtinsNs X.env))), toks := s3.toks + 1 + 1 + 1, heap := h'.push go } : Shared) = s5
  have e5h : s5.heap = h'.push go := by rw [← hs5]
  have kp5 : ∀ b o, s3.heap.get? b = some o → s5.heap.get? b = some o := fun b o e => by rw [e5h]; exact Heap.get?_push_of_some _ (keep' b o e)
  have hns5 := hn'.push go
  rw [← e5h] at hns5
  have b5 : AllBare s5.gens := by rw [← hs5]; exact I3.bare.push rfl
  have os5 : s5.os = s3.os := by rw [← hs5]
  have g5 : s5.gens[gi]? = some (.fresh (.compStart (.GeneratorExp elt [⟨tg, iter, [], 0⟩] scope gpos) 0 (.ref it) .none (genv X scope s3.heap.objs.size code))) := by
    rw [← hs5, ← hgi]
    exact Array.getElem?_push_size ..
  have ha : s3.heap.objs.size < h'.objs.size := by rw [hsz]; exact Nat.lt_succ_self _
  have I5 := gen_start (code := code) (s5 := s5) I3 ok hN (show X.A.in1.in1.frames = some X.stack from I.ok.frames) (show X.A.in1.in1.handled = none from I.ok.hd hc) f3 kp5 hns5 os5 b5 ha (by rw [e5h]; exact hpush) (fun v q => by rw [hgoc.2.1] at q; cases q)
  have st5 : tn 0 s5.heap := T.keep _ _ _ st3 fun b _ o e => kp5 b o e
  have pg := hpg s3 H3 s3.heap.objs.size code fp [(h'.objs.size, go)]
  have pe := hpe s3 H3 s3.heap.objs.size code fp [(h'.objs.size, go)] ⟨hr.hd, by have := hr.dp; show X.A.depth + 1 + 3 * k + 5 < _; omega, by have := hr.un; show X.A.units + 1 + 1 + 3 + 16 * k + 200 < _; omega⟩
  generalize hZ : gen X (X.A.in1.in1.deeper (genv X scope s3.heap.objs.size code)) s3 H3 (genv X scope s3.heap.objs.size code) fp [(h'.objs.size, go)] = Z at I5 pg pe
  have zp : Z.prog = X.prog := by rw [← hZ]
  have zw : Z.w = X.w := by rw [← hZ]
  have zK : Z.K = X.K := by rw [← hZ]
  have ze : Z.env = genv X scope s3.heap.objs.size code := by rw [← hZ]
  have stat : ∀ {σ' : L2.St} {H' : Hp} {s' : Shared}, Inv Z [] σ' H' s' → (∀ b ∈ fp, H' b = none) → ∀ b ∈ fp, FpOk Z [] H' b := fun {σ' H' s'} I' hn b hb => by
    have hx : Z.ex = fp := by rw [← hZ]
    have hb' : b ∈ Z.ex := by rw [hx]; exact hb
    refine ⟨hn b hb, (I'.ok.exf b hb').1, I'.ok.exfs b hb', .inl hb', fun x c e => (I'.ok.exf b hb').2 x c e, fun p hp => ?_⟩
    have hpn : Z.pn = [(h'.objs.size, go)] := by rw [← hZ]
    rw [hpn] at hp
    have e : p = (h'.objs.size, go) := by simpa using hp
    rw [e]
    exact Nat.ne_of_gt (Nat.lt_trans (f3 b hb).2 ha)
  have hσ : ∀ σ2 : L2.St, wipe σ2 (own.map (·.2)) = wipe σ (own.map (·.2)) → ∀ (i : Nat) v, (wipe σ (own.map (·.2)))[i]? = some (some v) → σ2[i]? = some (some v) := fun σ2 e => (wipe_wipe e).1
  have hl : ∀ σ2 : L2.St, wipe σ2 (own.map (·.2)) = wipe σ (own.map (·.2)) → (wipe σ (own.map (·.2))).length = σ2.length := fun σ2 e => (wipe_wipe e).2
  have T' : Turn Z.prog Z.w Z.K tg J fp it tn := by rw [zp, zw, zK]; exact T
  have hgen : ∀ {H : Hp} {s : Shared}, Inv Z [] (wipe σ (own.map (·.2))) H s → s.heap.IsGen h'.objs.size gi := fun {H s} J => by
    have hpn : Z.pn = [(h'.objs.size, go)] := by rw [← hZ]
    have q := (J.pin (h'.objs.size, go) (by rw [hpn]; simp)).1
    exact ⟨go, _, _, q, hgoc.1, hgoc.2.1, hgoc.2.2⟩
  refine Calls.spliced_nil ?_
  refine call_function_tree F.kind_all F.plain_all F.entry_all (F.args_all1 _) ?_
  unfold Builtin.«all»
  refine wpAny_bind (m := oneArg "all" _) (wpAny_pure ?_)
  refine wpAny_bind (wpAny_pyIter_gen (s := s5) (hgen I5) ?_)
  refine wpAny_pure ⟨plainId_quiet F.plain_all_loop _, ?_⟩
  have seg := seg_gstart (A := X.A.in1.in1) (Z := Z) (iter := iter) (scope := scope) (gpos := gpos) (QT := Q (.bl true)) (QF := Q (.bl false)) (by rw [ze, ← hZ]) (by rw [← hZ]; exact hc) (fun e s z => by rw [← hZ] at z; exact z) (by rw [ze]; exact ok.co) T' pg pe hσ hl stat turn m0 (m0 + 1) (s5.setGen gi .running) (s5.setGen gi .running) H3
    (Nat.lt_succ_self _) (inv_wk I5 ⟨rfl, allBare_setGen b5 rfl, fun _ _ e => e⟩) st5 (fun b hb => (f3 b hb).1.1) w0
  have loop := all_loop (A := X.A) (Z := Z) (QT := Q (.bl true)) (QF := Q (.bl false)) (a := h'.objs.size) (gi := gi) hr.hd hr.depth hgen (m0 + 1) s5 _ H3 I5 g5 ⟨rfl, by rw [ze] at seg; exact seg⟩
  rw [zp, zw] at loop
  refine codeAny_mono loop fun r s' hq => ?_
  obtain ⟨b, H', rfl, I6, q6⟩ := hq
  have u6 : Un (frs X.stack) fp H3 H' s3.heap s'.heap := by
    have := I6.base
    rw [← hZ] at this
    exact this
  have o6 : s'.os = s3.os := by
    have := I6.os
    rw [← hZ] at this
    exact this
  have k6 : HOk X.prog X.w H' s'.heap := by
    have := I6.hok
    rw [zp, zw] at this
    exact this
  refine ⟨.bl b, H', I3.call' (ch := fp) o6 u6 k6 I6.bare fun b hb => ⟨(f3 b hb).1.2.2.2.1, (f3 b hb).1.2.1, (f3 b hb).1.2.2.2.2.1, (f3 b hb).1.2.2.2.2.2⟩, rfl, ?_⟩
  cases b with
  | true => simpa using q6
  | false => simpa using q6
end

/-- a reading of all(..) over what a Walk walks: Pv by the turn and the heap -/
theorem all_it {J : It} {n : Nat} {G : Hp → Prop} {Y : Nat → Hp → V → Hp → Prop} (w : Walk J n G Y) {g : TG} {te : TE} {vs : List Nat} {σ : L2.St} {H2 : Hp} {QT QF : Hp → Prop} (Pv : Nat → Hp → Prop) (h0 : Pv 0 H2) (hG : ∀ i H, i ≤ n → Pv i H → G H)
    (hs : ∀ i x H H', i < n → Pv i H → Y i H x H' → g x (wipe σ vs) H' fun σ2 H2 => wipe σ2 vs = wipe σ vs ∧ te σ2 H2 fun y H4 => ∃ b, y = .bl b ∧ (if b = true then Pv (i + 1) H4 else QF H4)) (hd : ∀ H, Pv n H → QT H) :
    ∃ W : Nat → Nat → Hp → Prop, (∃ m, W 0 m H2) ∧ ∀ i m H, W i m H →
      (J.stop i H ∧ QT H) ∨ (J.go i H ∧ ∃ Nx : Hp → Prop, (∀ H', Nx H' → ∃ m', m' < m ∧ W (i + 1) m' H') ∧ ∀ x H', J.yld i H x H' → g x (wipe σ vs) H' fun σ2 H2 => wipe σ2 vs = wipe σ vs ∧
        te σ2 H2 fun y H4 => ∃ b, y = .bl b ∧ (if b = true then Nx H4 else QF H4)) := by
  refine ⟨fun i m H => m = n - i ∧ i ≤ n ∧ Pv i H, ⟨n, rfl, Nat.zero_le _, h0⟩, ?_⟩
  rintro i m H ⟨rfl, hi, p⟩
  have q := hG i H hi p
  by_cases hlt : i < n
  · refine .inr ⟨w.goes i H hlt q, Pv (i + 1), fun H' p' => ⟨n - (i + 1), by omega, rfl, hlt, p'⟩, fun x H' y => hs i x H H' hlt p (w.yields i H x H' hlt q y)⟩
  · have e : i = n := by omega
    subst e
    exact .inl ⟨w.stops H q, hd H p⟩
/-- a def of the text whose code object stands at c -/
structure FunC (K : PySem.W.Frag) (x qual : Str) (st : Stmt) (f : Addr) (fd : FuncData) (c : Addr) : Prop where
  ex : ∃ (oc : Value) (od : Option Addr) (kV doc pm : Value) (an : Option Addr) (ct : Value) (osl : Array (Option Value)),
    fd = PySem.W.fnOf x qual (defArgs st) (defBody st) (defScope st) .none kV doc pm an (.ref c) ct ∧ K.lookup f = some ⟨oc, od, .func fd, osl⟩ ∧ PySem.W.codeIn K (.ref c) qual = true
  kp : PySem.W.keepIn K (.ref f) = true
section
variable {P : Program} {w : World} {K : PySem.W.Frag} {mg : Str → Option Value} {base : Heap}
theorem FunC.ok {x qual : Str} {st : Stmt} {f c : Addr} {fd : FuncData} {N ps : List Str} {k : Nat} {sp : Sp} (F : FunC K x qual st f fd c) (S : FnScope N ps (defScope st)) (len : ∀ vs H Q E, sp vs H Q E → vs.length = ps.length)
    (hbody : ∀ (A : Around) (outer : List Env) (s : Shared) (H : Hp) (vs : List V) (Q : VK) (E : XK), Room k (A.deeper (envOfC qual (defScope st) s.heap.objs.size f (.ref c))) → sp vs H Q E →
      ∃ t, PSs (cxOf CX0 P w K mg base N qual (defScope st) f (.ref c) A outer s H E).nox (defBody st) t ∧ t { nx := fun _ H' => Q .non H', rt := Q } (start N vs) H) : FnOk P w K mg base CX0 (k + 1) f fd ps sp := by
  obtain ⟨oc, od, kV, doc, pm, an, ct, osl, rfl, lk, hcd⟩ := F.ex
  refine fn_of lk hcd S len fun A outer s H vs Q E hr hsp => ?_
  obtain ⟨t, h, q⟩ := hbody A outer s H vs Q E hr hsp
  exact ⟨t, h.nox, q⟩
theorem FunC.binds {x qual : Str} {st : Stmt} {f c : Addr} {fd : FuncData} {ps : List Str} (F : FunC K x qual st f fd c)
    (h : ∀ (kV doc pm : Value) (an : Option Addr) (cdv ct : Value) (us : List Value), us.length = ps.length → bindArgs (PySem.W.fnOf x qual (defArgs st) (defBody st) (defScope st) .none kV doc pm an cdv ct) ⟨us, []⟩ = pure (ps.zip us)) : Binds K fd ps [] := by
  obtain ⟨oc, od, kV, doc, pm, an, ct, osl, rfl, lk, hcd⟩ := F.ex
  exact .all (h kV doc pm an (.ref c) ct)
theorem func_mk {x qual : Str} {st : Stmt} {f c : Addr} {oc : Value} {od an : Option Addr} {osl : Array (Option Value)} {kV doc pm ct : Value} (l : K.lookup f = some ⟨oc, od, .func (PySem.W.fnOf x qual (defArgs st) (defBody st) (defScope st) .none kV doc pm an (.ref c) ct), osl⟩)
    (k1 : PySem.W.codeIn K (.ref c) qual = true) (k : PySem.W.keepIn K (.ref f) = true) : FunC K x qual st f (PySem.W.fnOf x qual (defArgs st) (defBody st) (defScope st) .none kV doc pm an (.ref c) ct) c := ⟨⟨oc, od, kV, doc, pm, an, ct, osl, rfl, l, k1⟩, k⟩
end
/-! ### the end of a law whose defs hold generator expressions -/
def GTab (q : Program) (K : PySem.W.Frag) (h : Heap) : Prop := ∀ (x : Str) (c P : Addr), ((recsOf q).find? fun e => e.name == x).isSome = true → PySem.W.tabIn K x = some (c, P) → PySem.W.CodeHd h c P ∧ h.get? P = some { cls := .none, data := .fields #[] }
theorem tab_by {K : PySem.W.Frag} {x : Str} {f c P : Addr} {oc oq : Value} {od dq : Option Addr} {fd : FuncData} {sl sq : Array (Option Value)} {vq : Array Value} (a : PySem.W.nsIn K mainGlobals x = some (some (.ref f))) (l : K.lookup f = some ⟨oc, od, .func fd, sl⟩) (e : fd.code = .ref c) (q : K.lookup c = some ⟨oq, dq, .fields vq, sq⟩) (v : vq[11]? = some (.ref P)) : PySem.W.tabIn K x = some (c, P) := by
  unfold PySem.W.tabIn
  rw [a]
  simp only [l, e, q, v]
theorem walk_ofG {l : PySem.W.OpenLaw} {n k : Nat} {q : Program} {loose : List Str} {XP : (Str → Option Value) → Heap → Prop} {YP : World → Heap → Prop} {d : DefRec} {K : Params → PySem.W.Frag} {CX : World → CXT} {x : Str}
    (hn : l.most = some n) (hn2 : n ≤ sizeLine) (hdf : d.params.defaults = []) (hr : Room k callerA) (hY : ∀ (w : World) (h : Heap), YP w h → (K w.params).In h)
    (F : ∀ (w : World) (mg : Str → Option Value) (fa : Addr) (h : Heap), YP w h → (K w.params).In h → h.Ns mainGlobals mg → mg d.name = some (.ref fa) → GTab q (K w.params) h → LamX.LawAtS l w (K w.params) (CX w) k n x mg fa h)
    (hCX : ∀ (w : World) (H : Hp) (s : Shared) (e : Value) (s' : Shared), CX w [] H s (fun _ _ _ => False) e s' → False) :
    PySem.W.WalkO q loose XP YP l.row.toRowW d [] (fun f vs => PySem.call f vs) := by
  refine Att.attach_callB hn hdf fun w s₀ s₁ mg mb fa o pm cd doc a vs ns G Y ho hd hcd hmg hobj hints hlen hbits hg => ?_
  have KX := hY w _ Y
  have gt : GTab q (K w.params) s₁.heap := fun x c P hr ht => by
    obtain ⟨d2, hd2⟩ := Option.isSome_iff_exists.mp hr
    exact PySem.W.tab_of (mb := mb) G.T KX hd2 ht
  obtain ⟨fd, cs, sp, hT, nT, C, hb, hsp, hF⟩ := F w mg fa _ Y KX G.T.g hmg gt
  exact LamX.law_callTs KX G.T.g G.T.b G.T.builtins G.T.nolimit hg hT nT C G.T.bmain hobj hints (Nat.le_trans hlen hn2) hr hF hb (fun H hH hS => hsp H a ns hlen hbits hH hS) fun H e s' => hCX w H s₁ e s'
end GA

set_option Elab.async false
set_option linter.all false
set_option maxRecDepth 100000
set_option maxHeartbeats 2000000
/-! the heap of a law's text with one source and two tables of code objects; values that read as data -/
namespace WD
open PySem PySem.Spec PyProof.Rows L2 Lw GxR
theorem iteF' {b : Bool} {A B : Prop} (e : b = false) (h : B) : if b = true then A else B := by
  rw [e]
  exact h
theorem at0 (x : V) (xs : List V) : atI (x :: xs) 0 = some x := atI_nat (j := 0) rfl
theorem at_map {α : Type} (f : α → V) {l : List α} {i : Int} (h0 : 0 ≤ i) (h1 : i < l.length) : ∃ x ∈ l, atI (l.map f) i = some (f x) := by
  obtain ⟨j, rfl⟩ := Int.eq_ofNat_of_zero_le h0
  have hj : j < l.length := by omega
  refine ⟨l[j], List.getElem_mem _, atI_nat ?_⟩
  rw [List.getElem?_map, List.getElem?_eq_getElem hj]
  rfl
/-! ### pairs -/
section
variable {α β : Type} {R S : α → β → Prop}
theorem paired_imp (f : ∀ a b, R a b → S a b) : ∀ {xs : List α} {ys : List β}, Paired R xs ys → Paired S xs ys
  | _, _, .nil => .nil
  | _, _, .cons r t => .cons (f _ _ r) (paired_imp f t)
theorem pr_get : ∀ {xs : List α} {ys : List β} {i : Nat} {x : α}, Paired R xs ys → xs[i]? = some x → ∃ y, ys[i]? = some y ∧ R x y
  | _, _, _, _, .nil, e => by simp at e
  | _, _, 0, _, .cons r _, e => by simp at e; subst e; exact ⟨_, rfl, r⟩
  | _, _, i + 1, x, .cons _ t, e => by
    obtain ⟨y, h1, h2⟩ := pr_get (i := i) (x := x) t (by simpa using e)
    exact ⟨y, by simpa using h1, h2⟩
theorem paired_at : ∀ {xs : List α} {ys : List β} {i : Nat} {y : β}, Paired R xs ys → ys[i]? = some y → ∃ x, xs[i]? = some x ∧ R x y
  | _, _, _, _, .nil, e => by simp at e
  | _, _, 0, _, .cons r _, e => by simp at e; subst e; exact ⟨_, rfl, r⟩
  | _, _, i + 1, y, .cons _ t, e => by
    obtain ⟨x, h1, h2⟩ := paired_at (i := i) (y := y) t (by simpa using e)
    exact ⟨x, by simpa using h1, h2⟩
theorem paired_take : ∀ (n : Nat) {xs : List α} {ys : List β}, Paired R xs ys → Paired R (xs.take n) (ys.take n)
  | 0, _, _, _ => .nil
  | _ + 1, _, _, .nil => .nil
  | n + 1, _, _, .cons r t => .cons r (paired_take n t)
theorem paired_drop : ∀ (n : Nat) {xs : List α} {ys : List β}, Paired R xs ys → Paired R (xs.drop n) (ys.drop n)
  | 0, _, _, h => h
  | _ + 1, _, _, .nil => .nil
  | n + 1, _, _, .cons _ t => paired_drop n t
theorem paired_app : ∀ {xs : List α} {ys : List β} {xs' : List α} {ys' : List β}, Paired R xs ys → Paired R xs' ys' → Paired R (xs ++ xs') (ys ++ ys')
  | _, _, _, _, .nil, h => h
  | _, _, _, _, .cons r t, h => .cons r (paired_app t h)
theorem paired_set {x : α} {y : β} (r : R x y) : ∀ (n : Nat) {xs : List α} {ys : List β}, Paired R xs ys → Paired R (xs.set n x) (ys.set n y)
  | _, _, _, .nil => .nil
  | 0, _, _, .cons _ t => .cons r t
  | n + 1, _, _, .cons q t => .cons q (paired_set r n t)
theorem paired_rep {x : α} {y : β} (r : R x y) : ∀ n : Nat, Paired R (List.replicate n x) (List.replicate n y)
  | 0 => .nil
  | n + 1 => .cons r (paired_rep r n)
end
/-! ### the heap -/
theorem Objs.perm' {H0 H : Hp} {L L' : List (Addr × HO)} (h : Objs H0 H L) (p : List.Perm L L') : Objs H0 H L' :=
  ⟨h.same, fun q hq => h.at_ q (p.mem_iff.mpr hq), (p.map _).nodup_iff.mp h.nd, fun q hq => h.new q (p.mem_iff.mpr hq)⟩
theorem suf (M L : List (Addr × HO)) : L <:+ M ++ L := ⟨M, rfl⟩
/-- a source at p, the tables of two code objects, and what is new and known since H0 -/
def Wd (P1 P2 : Addr) (H0 H : Hp) (p : Addr) (L : List (Addr × HO)) : Prop := ∃ x y, ∃ t1 t2 : Array Value, (0 : Int) ≤ x ∧ TriplesOk t1.toList ∧ TriplesOk t2.toList ∧ Objs H0 H ((p, .lst [.int x, .int y]) :: L)
/-- the same, without a source -/
def Wt (P1 P2 : Addr) (H0 H : Hp) (L : List (Addr × HO)) : Prop := ∃ t1 t2 : Array Value, TriplesOk t1.toList ∧ TriplesOk t2.toList ∧ Objs H0 H (L)
section
variable {P1 P2 : Addr} {H0 H H' : Hp} {p a : Addr} {L L' M : List (Addr × HO)} {u u' : HO} {Q : VK} {E : XK} {m x y : Int}
theorem Wd.draw (h : Wd P1 P2 H0 H p L) (m0 : 0 < m) (m1 : m ≤ 100000) (q : ∀ v H', 0 ≤ v → v < m → Wd P1 P2 H0 H' p L → Q (.int v) H') : spDraw [.ref p, .int m] H Q E := by
  obtain ⟨x, y, t1, t2, hx, h1, h2, o⟩ := h
  exact ⟨p, x, y, m, rfl, o.get 0 rfl, hx, m0, m1, fun v x' y' v0 v1 x0 => q v _ v0 v1 ⟨x', y', t1, t2, x0, h1, h2, o.put 0 rfl⟩⟩
theorem Wd.push (h : Wd P1 P2 H0 H p L) (n : H a = none) (s : Same H H') (e : H' a = some u) : Wd P1 P2 H0 H' p ((a, u) :: L) := by
  obtain ⟨x, y, t1, t2, hx, h1, h2, o⟩ := h
  exact ⟨x, y, t1, t2, hx, h1, h2, Objs.perm' (o.push n s e) (.swap _ _ _)⟩
theorem Wd.add (h : Wd P1 P2 H0 H p L) (n : H a = none) : Wd P1 P2 H0 (upd H a u) p ((a, u) :: L) := h.push n (same_upd n) upd_same
theorem Wd.mem (h : Wd P1 P2 H0 H p L) {q : Addr × HO} (hm : q ∈ L) : H q.1 = some q.2 := by
  obtain ⟨x, y, t1, t2, hx, h1, h2, o⟩ := h
  exact o.at_ q (List.mem_cons_of_mem _ hm)
theorem Wd.skip (h : Wd P1 P2 H0 H p L) (n : H a = none) : Wd P1 P2 H0 (upd H a u) p L := by
  obtain ⟨x, y, t1, t2, hx, h1, h2, o⟩ := h
  exact ⟨x, y, t1, t2, hx, h1, h2, o.skip n⟩
theorem Wd.sub (h : Wd P1 P2 H0 H p L) (s : List.Sublist L' L) : Wd P1 P2 H0 H p L' := by
  obtain ⟨x, y, t1, t2, hx, h1, h2, o⟩ := h
  exact ⟨x, y, t1, t2, hx, h1, h2, o.sub (s.cons_cons _)⟩
theorem Wd.mono (h : Wd P1 P2 H0 H p L) (s : Same H H') : Wd P1 P2 H0 H' p L := by
  obtain ⟨x, y, t1, t2, hx, h1, h2, o⟩ := h
  exact ⟨x, y, t1, t2, hx, h1, h2, o.mono s⟩
theorem Wd.perm (h : Wd P1 P2 H0 H p L) (q : List.Perm L L') : Wd P1 P2 H0 H p L' := by
  obtain ⟨x, y, t1, t2, hx, h1, h2, o⟩ := h
  exact ⟨x, y, t1, t2, hx, h1, h2, Objs.perm' o (.cons _ q)⟩
theorem Wd.put (h : Wd P1 P2 H0 H p L) (i : Nat) (hi : L[i]? = some (a, u)) : Wd P1 P2 H0 (upd H a u') p (L.set i (a, u')) := by
  obtain ⟨x, y, t1, t2, hx, h1, h2, o⟩ := h
  exact ⟨x, y, t1, t2, hx, h1, h2, o.put (i + 1) hi⟩
theorem Wd.drop (h : Wd P1 P2 H0 H p L) : Wt P1 P2 H0 H L := by
  obtain ⟨x, y, t1, t2, hx, h1, h2, o⟩ := h
  exact ⟨t1, t2, h1, h2, o.sub (List.sublist_cons_self _ _)⟩
theorem Wd.lay (h : Wd P1 P2 H0 H p L) : ∃ x y : Int, 0 ≤ x ∧ Wt P1 P2 H0 H ((p, .lst [.int x, .int y]) :: L) := by
  obtain ⟨x, y, t1, t2, hx, h1, h2, o⟩ := h
  exact ⟨x, y, hx, t1, t2, h1, h2, o⟩
theorem Wt.take (h : Wt P1 P2 H0 H (M ++ (p, .lst [.int x, .int y]) :: L)) (hx : 0 ≤ x) : Wd P1 P2 H0 H p (M ++ L) := by
  obtain ⟨t1, t2, h1, h2, o⟩ := h
  refine ⟨x, y, t1, t2, hx, h1, h2, Objs.perm' o ?_⟩
  exact List.perm_middle (l₁ := M) (a := (p, HO.lst [.int x, .int y])) (l₂ := L)
theorem Wt.src (h : Wt P1 P2 H0 H L) (n : H a = none) (hx : 0 ≤ x) : Wd P1 P2 H0 (upd H a (.lst [.int x, .int y])) a L := by
  obtain ⟨t1, t2, h1, h2, o⟩ := h
  exact ⟨x, y, t1, t2, hx, h1, h2, o.add n⟩
theorem Wt.add (h : Wt P1 P2 H0 H L) (n : H a = none) : Wt P1 P2 H0 (upd H a u) ((a, u) :: L) := by
  obtain ⟨t1, t2, h1, h2, o⟩ := h
  exact ⟨t1, t2, h1, h2, o.add n⟩
theorem Wt.push (h : Wt P1 P2 H0 H L) (n : H a = none) (s : Same H H') (e : H' a = some u) : Wt P1 P2 H0 H' ((a, u) :: L) := by
  obtain ⟨t1, t2, h1, h2, o⟩ := h
  exact ⟨t1, t2, h1, h2, o.push n s e⟩
theorem Wt.skip (h : Wt P1 P2 H0 H L) (n : H a = none) : Wt P1 P2 H0 (upd H a u) L := by
  obtain ⟨t1, t2, h1, h2, o⟩ := h
  exact ⟨t1, t2, h1, h2, o.skip n⟩
theorem Wt.mono (h : Wt P1 P2 H0 H L) (s : Same H H') : Wt P1 P2 H0 H' L := by
  obtain ⟨t1, t2, h1, h2, o⟩ := h
  exact ⟨t1, t2, h1, h2, o.mono s⟩
theorem Wt.mem (h : Wt P1 P2 H0 H L) {q : Addr × HO} (hm : q ∈ L) : H q.1 = some q.2 := by
  obtain ⟨t1, t2, h1, h2, o⟩ := h
  exact o.at_ q hm
theorem Wt.same (h : Wt P1 P2 H0 H L) : Same H0 H := by
  obtain ⟨t1, t2, h1, h2, o⟩ := h
  exact o.same
theorem Wd.same (h : Wd P1 P2 H0 H p L) : Same H0 H := h.drop.same
theorem Wt.put (h : Wt P1 P2 H0 H L) (i : Nat) (hi : L[i]? = some (a, u)) : Wt P1 P2 H0 (upd H a u') (L.set i (a, u')) := by
  obtain ⟨t1, t2, h1, h2, o⟩ := h
  exact ⟨t1, t2, h1, h2, o.put i hi⟩
theorem Wt.perm (h : Wt P1 P2 H0 H L) (q : List.Perm L L') : Wt P1 P2 H0 H L' := by
  obtain ⟨t1, t2, h1, h2, o⟩ := h
  exact ⟨t1, t2, h1, h2, Objs.perm' o q⟩
theorem Wt.sub (h : Wt P1 P2 H0 H L) (s : List.Sublist L' L) : Wt P1 P2 H0 H L' := by
  obtain ⟨t1, t2, h1, h2, o⟩ := h
  exact ⟨t1, t2, h1, h2, o.sub s⟩
end
/-- at the law's start: the script's list -/
theorem Wt.start {K : PySem.W.Frag} {HH : Hp} {P1 P2 a : Addr} {xs : List V} (hS : SqL K HH a xs) : ∃ H0, Wt P1 P2 H0 HH [] ∧ SqL K H0 a xs := by
  have t0 : TriplesOk (#[] : Array Value).toList := by
    trivial
  exact ⟨HH, ⟨#[], #[], t0, t0, Same.refl HH, fun q hq => (by cases hq), (by simp), fun q hq => (by cases hq)⟩, hS⟩
/-! ### values that read as data -/
/-- a tuple, of the law's text or of the program's top -/
def TupAt (K : PySem.W.Frag) (L : List (Addr × HO)) (a : Addr) (xs : List V) : Prop := (a, HO.tup xs) ∈ L ∨ ∃ (o : Obj) (its : Array Value) (n : Nat), K.lookup a = some o ∧ o.cls = .type "tuple" ∧ o.data = .seq its n ∧ its.size ≤ sizeLine ∧ Vals xs its.toList
theorem TupAt.sq {K : PySem.W.Frag} {L : List (Addr × HO)} {H : Hp} {a : Addr} {xs : List V} (h : TupAt K L a xs) (hL : ∀ q ∈ L, H q.1 = some q.2) : SqT K H a xs := by
  rcases h with h | h
  · exact SqT.of (hL _ h)
  · exact .inr h
theorem TupAt.mono {K : PySem.W.Frag} {L M : List (Addr × HO)} {a : Addr} {xs : List V} (h : TupAt K L a xs) (s : ∀ q ∈ L, q ∈ M) : TupAt K M a xs := by
  rcases h with h | h
  · exact .inl (s _ h)
  · exact .inr h
theorem TupAt.ty {K : PySem.W.Frag} {L : List (Addr × HO)} {H : Hp} {a : Addr} {xs : List V} (h : TupAt K L a xs) (hL : ∀ q ∈ L, H q.1 = some q.2) : TyX K H (.ref a) (.type "tuple") := by
  rcases h with h | ⟨o, its, n, h1, h2, _⟩
  · exact .base (.tup (hL _ h))
  · exact .kTuple h1 h2
def Atom : V → PyData → Prop
  | .int i, .int j => i = j
  | .bl a, .bool b => a = b
  | .non, .none => True
  | .str x, .str y => x = y ∧ (PyData.str x).canLay0 = true
  | _, _ => False
def PL (K : PySem.W.Frag) : Nat → List (Addr × HO) → V → PyData → Prop
  | 0, _, v, d => Atom v d
  | n + 1, L, v, d => Atom v d ∨ ∃ a xs ds, v = .ref a ∧ Paired (PL K n L) xs ds ∧ ((TupAt K L a xs ∧ d = .tuple ds) ∨ ((a, HO.lst xs) ∈ L ∧ d = .list ds))
section
variable {K : PySem.W.Frag} {L M : List (Addr × HO)} {H : Hp}
theorem PL.mono (h : ∀ q ∈ L, q ∈ M) : ∀ (n : Nat) (v : V) (d : PyData), PL K n L v d → PL K n M v d
  | 0, _, _, q => q
  | n + 1, v, d, q => by
    rcases q with q | ⟨a, xs, ds, e, p, q⟩
    · exact .inl q
    · refine .inr ⟨a, xs, ds, e, paired_imp (PL.mono h n) p, ?_⟩
      rcases q with q | q
      · exact .inl ⟨q.1.mono h, q.2⟩
      · exact .inr ⟨h _ q.1, q.2⟩
theorem PL.up : ∀ (n : Nat) (v : V) (d : PyData), PL K n L v d → PL K (n + 1) L v d
  | 0, _, _, q => .inl q
  | n + 1, v, d, q => by
    rcases q with q | ⟨a, xs, ds, e, p, q⟩
    · exact .inl q
    · exact .inr ⟨a, xs, ds, e, paired_imp (PL.up n) p, q⟩
def isTup : PyData → Bool | .tuple _ => true | _ => false
def isLst : PyData → Bool | .list _ => true | _ => false
def isStr : PyData → Bool | .str _ => true | _ => false
def isBool : PyData → Bool | .bool _ => true | _ => false
def isInt : PyData → Bool | .int _ => true | _ => false
/-- what isinstance says of a value -/
structure TyD (K : PySem.W.Frag) (H : Hp) (v : V) (d : PyData) (t : Value) : Prop where
  ty : TyX K H v t
  tup : PySem.W.kitOne K t (.type "tuple") = some (isTup d)
  lst : PySem.W.kitOne K t (.type "list") = some (isLst d)
  str : PySem.W.kitOne K t (.type "str") = some (isStr d)
  int : PySem.W.kitOne K t (.type "int") = some (isInt d || isBool d)
  bl : PySem.W.kitOne K t (.type "bool") = some (isBool d)
  at_ : ∀ i, d = .int i → v = .int i
  at_s : ∀ z, d = .str z → v = .str z
theorem tyd_mk {v : V} {d : PyData} (z : String) (b : TyX K H v (.type z)) (a1 a2 a3 a4 a5 : Bool) (k : kitB z "tuple" = some a1 ∧ kitB z "list" = some a2 ∧ kitB z "str" = some a3 ∧ kitB z "int" = some a4 ∧ kitB z "bool" = some a5)
    (e : isTup d = a1 ∧ isLst d = a2 ∧ isStr d = a3 ∧ (isInt d || isBool d) = a4 ∧ isBool d = a5) (i : ∀ i, d = .int i → v = .int i) (s : ∀ z, d = .str z → v = .str z) : ∃ t, TyD K H v d t := by
  obtain ⟨e1, e2, e3, e4, e5⟩ := e
  obtain ⟨k1, k2, k3, k4, k5⟩ := k
  exact ⟨_, b, by rw [e1]; exact kit_ty k1, by rw [e2]; exact kit_ty k2, by rw [e3]; exact kit_ty k3, by rw [e4]; exact kit_ty k4, by rw [e5]; exact kit_ty k5, i, s⟩
theorem Atom.ty : ∀ {v : V} {d : PyData}, Atom v d → ∃ t, TyD K H v d t
  | .int i, .int j, h => tyd_mk "int" (.base (.int _)) false false false true false (by decide +kernel) ⟨rfl, rfl, rfl, rfl, rfl⟩ (fun k e => by cases e; cases (show i = j from h); rfl) (fun k e => by cases e)
  | .bl a, .bool b, _ => tyd_mk "bool" (.base (.bl _)) false false false true true (by decide +kernel) ⟨rfl, rfl, rfl, rfl, rfl⟩ (fun k e => by cases e) (fun k e => by cases e)
  | .non, .none, _ => tyd_mk "NoneType" (.base .non) false false false false false (by decide +kernel) ⟨rfl, rfl, rfl, rfl, rfl⟩ (fun k e => by cases e) (fun k e => by cases e)
  | .str x, .str y, h => tyd_mk "str" (.base (.str _)) false false true false false (by decide +kernel) ⟨rfl, rfl, rfl, rfl, rfl⟩ (fun k e => by cases e) (fun k e => by cases e; rw [h.1])
theorem PL.ty (hL : ∀ q ∈ L, H q.1 = some q.2) {n : Nat} {v : V} {d : PyData} (h : PL K n L v d) : ∃ t, TyD K H v d t := by
  cases n with
  | zero => exact Atom.ty h
  | succ n =>
    rcases h with h | ⟨a, xs, ds, rfl, _, ⟨m, rfl⟩ | ⟨m, rfl⟩⟩
    · exact Atom.ty h
    · exact tyd_mk "tuple" (m.ty hL) true false false false false (by decide +kernel) ⟨rfl, rfl, rfl, rfl, rfl⟩ (fun k e => by cases e) (fun k e => by cases e)
    · exact tyd_mk "list" (.base (.lst (hL _ m))) false true false false false (by decide +kernel) ⟨rfl, rfl, rfl, rfl, rfl⟩ (fun k e => by cases e) (fun k e => by cases e)
theorem Atom.dp : ∀ {v : V} {d : PyData}, Atom v d → Dp K H v d ∧ d.canLay0 = true ∧ d.depth ≤ 1
  | .int i, .int j, h => by cases (show i = j from h); exact ⟨.int _, rfl, by unfold PyData.depth; decide⟩
  | .bl a, .bool b, h => by cases (show a = b from h); exact ⟨.bl _, rfl, by unfold PyData.depth; decide⟩
  | .non, .none, _ => ⟨.non, rfl, by unfold PyData.depth; decide⟩
  | .str x, .str y, h => by
    obtain ⟨e, m⟩ := h
    cases e
    exact ⟨.str _, m, by unfold PyData.depth; decide⟩
theorem dps_of {R : V → PyData → Prop} {n : Nat} (f : ∀ v d, R v d → Dp K H v d ∧ d.canLay0 = true ∧ d.depth ≤ n) : ∀ {xs : List V} {ds : List PyData}, Paired R xs ds → DpAll K H xs ds ∧ PyData.canLayAll0 ds = true ∧ PyData.depthAll ds ≤ n
  | _, _, .nil => ⟨.nil, rfl, Nat.zero_le _⟩
  | _, _, .cons r t => by
    obtain ⟨a1, a2, a3⟩ := f _ _ r
    obtain ⟨b1, b2, b3⟩ := dps_of f t
    refine ⟨.cons a1 b1, ?_, ?_⟩
    · unfold PyData.canLayAll0
      rw [a2, b2]
      rfl
    · unfold PyData.depthAll
      omega
theorem PL.dp (hL : ∀ q ∈ L, H q.1 = some q.2) : ∀ (n : Nat) (v : V) (d : PyData), PL K n L v d → Dp K H v d ∧ d.canLay0 = true ∧ d.depth ≤ n + 1
  | 0, _, _, h => Atom.dp h
  | n + 1, v, d, h => by
    rcases h with h | ⟨a, xs, ds, rfl, p, ⟨m, rfl⟩ | ⟨m, rfl⟩⟩
    · obtain ⟨a1, a2, a3⟩ := Atom.dp (K := K) (H := H) h
      exact ⟨a1, a2, by omega⟩
    · obtain ⟨b1, b2, b3⟩ := dps_of (PL.dp hL n) p
      exact ⟨.tup (m.sq hL) b1, by unfold PyData.canLay0; exact b2, by unfold PyData.depth; omega⟩
    · obtain ⟨b1, b2, b3⟩ := dps_of (PL.dp hL n) p
      exact ⟨.lst (SqL.of (hL _ m)) b1, by unfold PyData.canLay0; exact b2, by unfold PyData.depth; omega⟩
theorem shaped_of {d : PyData} (l : d.canLay0 = true) (b : d.depth ≤ 60) : SeqAt.shaped d = true := by
  unfold SeqAt.shaped
  rw [l, decide_eq_true (by omega)]
  rfl
/-- equal data is told equal -/
theorem same_ne {x y : V} {d : PyData} {Q : VK} (h1 : Dp K H x d) (h2 : Dp K H y d) (l : d.canLay0 = true) (b : d.depth ≤ 60) (q : Q (.bl false) H) : rNeD K x y H Q := by
  refine ⟨d, d, h1, h2, shaped_of l b, shaped_of l b, ?_⟩
  rw [SeqAt.eqv_refl d l]
  exact q
theorem same_eq {x y : V} {d : PyData} {Q : VK} (h1 : Dp K H x d) (h2 : Dp K H y d) (l : d.canLay0 = true) (b : d.depth ≤ 60) (q : Q (.bl true) H) : rEqD K x y H Q := by
  refine ⟨d, d, h1, h2, shaped_of l b, shaped_of l b, ?_⟩
  rw [SeqAt.eqv_refl d l]
  exact q
end
/-- what is a whole number within bounds -/
def intB (lo hi : Int) : PyData → Bool
  | .int i => decide (lo ≤ i) && decide (i ≤ hi)
  | _ => false
/-! ### constants of the program's top -/
def atomB : Value → PyData → Bool
  | .int i _, .int j => decide (i = j)
  | .str x _, .str y => decide (x = y) && (PyData.str x).canLay0
  | .bool a, .bool b => decide (a = b)
  | .none, .none => true
  | _, _ => false
/-- each is what the rule says -/
def eachB (R : Value → PyData → Bool) : List Value → List PyData → Bool
  | [], [] => true
  | u :: us, d :: ds => R u d && eachB R us ds
  | _, _ => false
def datB (K : PySem.W.Frag) : Nat → Value → PyData → Bool
  | 0, u, d => atomB u d
  | n + 1, .ref a, .tuple ds => match K.lookup a with
    | some ⟨.type "tuple", _, .seq its _, _⟩ => decide (its.size ≤ 1000) && eachB (datB K n) its.toList ds
    | _ => false
  | _ + 1, u, d => atomB u d
theorem atomB_ok : ∀ {u : Value} {d : PyData}, atomB u d = true → ∃ v, RelV v u ∧ Atom v d
  | .int i t, .int j, h => ⟨.int i, ⟨t, rfl⟩, show i = j from of_decide_eq_true h⟩
  | .str x t, .str y, h => ⟨.str x, ⟨t, rfl⟩, by
    obtain ⟨h1, h2⟩ := Bool.and_eq_true_iff.mp (show (decide (x = y) && (PyData.str x).canLay0) = true from h)
    exact ⟨of_decide_eq_true h1, h2⟩⟩
  | .bool a, .bool b, h => ⟨.bl a, rfl, show a = b from of_decide_eq_true h⟩
  | .none, .none, _ => ⟨.non, rfl, trivial⟩
theorem eachB_ok {R : Value → PyData → Bool} {S : V → PyData → Prop} (f : ∀ u d, R u d = true → ∃ v, RelV v u ∧ S v d) : ∀ {us : List Value} {ds : List PyData}, eachB R us ds = true → ∃ xs, Vals xs us ∧ Paired S xs ds
  | [], [], _ => ⟨[], .nil, .nil⟩
  | u :: us, d :: ds, h => by
    obtain ⟨h1, h2⟩ := Bool.and_eq_true_iff.mp (show (R u d && eachB R us ds) = true from h)
    obtain ⟨v, r, s⟩ := f u d h1
    obtain ⟨xs, rs, ss⟩ := eachB_ok f h2
    exact ⟨v :: xs, .cons r rs, .cons s ss⟩
theorem datB_tup {K : PySem.W.Frag} {n : Nat} {a : Addr} {ds : List PyData} (L : List (Addr × HO)) (ih : ∀ u d, datB K n u d = true → ∃ v, RelV v u ∧ PL K n L v d) (h : datB K (n + 1) (.ref a) (.tuple ds) = true) : ∃ xs, TupAt K L a xs ∧ Paired (PL K n L) xs ds := by
  unfold datB at h
  split at h
  · rename_i dd its m sl hk
    obtain ⟨h1, h2⟩ := Bool.and_eq_true_iff.mp h
    obtain ⟨xs, rs, ss⟩ := eachB_ok ih h2
    exact ⟨xs, .inr ⟨_, its, m, hk, rfl, rfl, Nat.le_trans (of_decide_eq_true h1) (by rw [sizeLine_eq]; decide), rs⟩, ss⟩
  · cases h
theorem datB_ok {K : PySem.W.Frag} (L : List (Addr × HO)) : ∀ (n : Nat) (u : Value) (d : PyData), datB K n u d = true → ∃ v, RelV v u ∧ PL K n L v d
  | 0, _, _, h => atomB_ok h
  | n + 1, u, d, h => by
    by_cases hu : ∃ a ds, u = .ref a ∧ d = .tuple ds
    · obtain ⟨a, ds, rfl, rfl⟩ := hu
      obtain ⟨xs, t, p⟩ := datB_tup L (datB_ok L n) h
      exact ⟨.ref a, rfl, .inr ⟨a, xs, ds, rfl, p, .inl ⟨t, rfl⟩⟩⟩
    · have e : atomB u d = true := by
        unfold datB at h
        split at h <;> first
          | exact h
          | exact absurd ⟨_, _, rfl, rfl⟩ hu
          | (rename_i heq; cases heq)
          | (rename_i heq _; cases heq)
      obtain ⟨v, r, a⟩ := atomB_ok e
      exact ⟨v, r, .inl a⟩
/-- a tuple of the program's top, as data -/
theorem datB_at {K : PySem.W.Frag} {n : Nat} {a : Addr} {ds : List PyData} (L : List (Addr × HO)) (h : datB K (n + 1) (.ref a) (.tuple ds) = true) : ∃ xs, TupAt K L a xs ∧ Paired (PL K n L) xs ds := datB_tup L (datB_ok L n) h
end WD

set_option Elab.async false
set_option linter.all false
set_option maxRecDepth 100000
/-! a field of an instance as one of several targets; a method that may raise, called in a try; an expression that is never come to -/
namespace Fl
open PySem PySem.Spec PyProof.Rows L2
section
variable {X : Cx} {pos : Pos}
/-- o.f = v -/
def gFld (K : PySem.W.Frag) (to : TE) (f : Str) : TG := fun v σ H Q => to σ H fun x H1 => ∃ a C dx fs, x = .ref a ∧ H1 a = some (.ins C dx fs) ∧ Cls K C ∧ NoAttr K C f ∧ fs.length < 1000 ∧ Q σ (upd H1 a (.ins C dx (putF f v fs)))
theorem pg_fld {o : Expr} {to : TE} {f : Str} (ho : PE X o to) : PG X (.Attribute o f pos) (gFld X.K to f) where
  run := by
    intro pins s σ H v u Q I r h
    rw [assign_Attribute]
    refine wpAny_bind (wpAny_holding (thn (ho.run pins s σ H _ I h) ?_))
    rintro ov s1 ⟨x, H1, I1, r1, a, C, dx, fs, rfl, ea, c, n, l, q⟩
    cases r1
    refine wpAny_bind (wpAny_standAt (wpAny_bind (wpAny_holding ?_)))
    exact setattr_ok I1 ea c n l r fun s2 I2 => wpAny_release ⟨σ, _, I2, q⟩
/-- an expression that is never come to -/
def tNo : TE := fun _ _ _ => False
theorem pe_no {e : Expr} : PE X e tNo where
  run := fun _ _ _ _ _ _ h => absurd h id
/-- o.m(..), with what it raises read at the slots -/
def tMethAt (C : Addr) (m : Str) (sp : Sp) (E : L2.St → XK) (ta : TE) (t : TA) : TE := fun σ H Q => tMeth C m sp [] (E σ) ta t σ H Q
section
variable {CX : CXT} {k : Nat} {f C : Addr} {fd : FuncData} {ps : List Str} {sp : Sp} {E : L2.St → XK} {m : Str} {apos : Pos} {e o : Expr} {es : List Expr} {ta : TE} {t : TA} {pl : Sem Bool}
theorem pe_methT (he : PE X o ta) (c : Cls X.K C) (hm : Meth X.K C m f) (F : FnOk X.prog X.w X.K X.mg X.base CX k f fd ps sp) (hr : Room k X.A) (hb : Binds X.K fd ps []) (hx : ∀ σ, PassesAt CX X σ (E σ)) (ha : PA X (e :: es) t)
    (hs : starEach (e :: es) X.env = (false, eval e X.env) :: starEach es X.env := by rfl) (hp : (backTo pos (starEach es X.env)).any (·.1) = false := by rfl)
    (ht : eval (.Call (.Attribute o m apos) (e :: es) [] pos) X.env = (do let ov ← eval o X.env; standAt apos.atName; let (f, first) ← holding [ov] (getMethod ov m pl); callWith pos f first (backTo pos (starEach (e :: es) X.env)) (backToKw pos (keywordEach [] X.env))) := by rfl) :
    PE X (.Call (.Attribute o m apos) (e :: es) [] pos) (tMethAt C m sp E ta t) where
  run := by
    intro pins s σ H Q I h
    refine PySem.W.methodCall_KW (pl := pl) (thn (he.run pins s σ H _ I h) ?_) ht
    rintro u s1 ⟨x, H1, I1, rx, a, dx, fs, rfl, ea, l, q⟩
    cases rx
    refine getmeth_ok I1 ea c hm l (PySem.W.callWith_K (first := [.ref a]) (h₀ := X.base) I.ok.mod.kin hm.kp (thn (ha.run pos pins s1 σ H1 _ I1 q) ?_) hs hp)
    rintro us s2 ⟨vs, H2, I2, r, q2⟩
    rw [List.append_nil] at q2
    exact ⟨I2.kIn, run_fnS (us := .ref a :: us) (vs := .ref a :: vs) F hr hb (hx σ) I2 (.cons rfl r) q2⟩
theorem pe_methT0 (he : PE X o ta) (c : Cls X.K C) (hm : Meth X.K C m f) (F : FnOk X.prog X.w X.K X.mg X.base CX k f fd ps sp) (hr : Room k X.A) (hb : Binds X.K fd ps []) (hx : ∀ σ, PassesAt CX X σ (E σ))
    (ht : eval (.Call (.Attribute o m apos) [] [] pos) X.env = (do let ov ← eval o X.env; standAt apos.atName; let (f, first) ← holding [ov] (getMethod ov m pl); callWith pos f first (backTo pos (starEach [] X.env)) (backToKw pos (keywordEach [] X.env))) := by rfl) :
    PE X (.Call (.Attribute o m apos) [] [] pos) (tMethAt C m sp E ta tNil) where
  run := by
    intro pins s σ H Q I h
    refine PySem.W.methodCall_KW (pl := pl) (thn (he.run pins s σ H _ I h) ?_) ht
    rintro u s1 ⟨x, H1, I1, rx, a, dx, fs, rfl, ea, l, q⟩
    cases rx
    exact getmeth_ok I1 ea c hm l (PySem.W.callWith_K0 (first := [.ref a]) I1.kIn hm.kp (run_fnS (us := [.ref a]) (vs := [.ref a]) F hr hb (hx σ) I1 (.cons rfl .nil) q))
end
end
end Fl

--WD0
set_option Elab.async false
set_option linter.all false
set_option maxRecDepth 100000
set_option maxHeartbeats 4000000
namespace K70
open PySem PySem.Spec PyProof.Rows L2 QX
def topS (i : Nat) : Stmt := PySem.Challenge.pw_quietsmith_k70_next_state_keeps_order.main.body.getD i (.Pass ⟨0, 0, 0, 0⟩)
abbrev s_joined_flow : Stmt := topS 1
abbrev n_joined_flow : List Str := ["flows"]
theorem sc_joined_flow : FnScope ["flows"] ["flows"] (defScope s_joined_flow) := ⟨rfl, rfl, rfl, by decide +kernel, rfl, by decide +kernel, by decide +kernel⟩
abbrev s_mask : Stmt := topS 3
abbrev n_mask : List Str := ["count"]
theorem sc_mask : FnScope ["count"] ["count"] (defScope s_mask) := ⟨rfl, rfl, rfl, by decide +kernel, rfl, by decide +kernel, by decide +kernel⟩
abbrev s_given_register : Stmt := topS 6
abbrev n_given_register : List Str := ["instruction"]
theorem sc_given_register : FnScope ["instruction"] ["instruction"] (defScope s_given_register) := ⟨rfl, rfl, rfl, by decide +kernel, rfl, by decide +kernel, by decide +kernel⟩
abbrev s_region_end : Stmt := topS 9
abbrev n_region_end : List Str := ["region"]
theorem sc_region_end : FnScope ["region"] ["region"] (defScope s_region_end) := ⟨rfl, rfl, rfl, by decide +kernel, rfl, by decide +kernel, by decide +kernel⟩
abbrev s_region_at : Stmt := topS 10
abbrev n_region_at : List Str := ["layout", "address", "low", "high", "middle"]
theorem sc_region_at : FnScope ["layout", "address", "low", "high", "middle"] ["layout", "address"] (defScope s_region_at) := ⟨rfl, rfl, rfl, by decide +kernel, rfl, by decide +kernel, by decide +kernel⟩
abbrev s_fact_union : Stmt := topS 15
abbrev n_fact_union : List Str := ["fact", "other", "flow", "cell"]
theorem sc_fact_union : FnScope ["fact", "other", "flow", "cell"] ["fact", "other"] (defScope s_fact_union) := ⟨rfl, rfl, rfl, by decide +kernel, rfl, by decide +kernel, by decide +kernel⟩
abbrev s_union : Stmt := topS 16
abbrev n_union : List Str := ["state", "other", "facts", "reg"]
theorem sc_union : FnScope ["state", "other", "facts", "reg"] ["state", "other"] (defScope s_union) := ⟨rfl, rfl, rfl, by decide +kernel, rfl, by decide +kernel, by decide +kernel⟩
abbrev s_addresses : Stmt := topS 22
abbrev n_addresses : List Str := ["state", "instruction", "_", "least", "greatest", "offset"]
theorem sc_addresses : FnScope ["state", "instruction", "_", "least", "greatest", "offset"] ["state", "instruction"] (defScope s_addresses) := ⟨rfl, rfl, rfl, by decide +kernel, rfl, by decide +kernel, by decide +kernel⟩
abbrev s_safe_region : Stmt := topS 23
abbrev n_safe_region : List Str := ["layout", "least", "greatest", "index"]
theorem sc_safe_region : FnScope ["layout", "least", "greatest", "index"] ["layout", "least", "greatest"] (defScope s_safe_region) := ⟨rfl, rfl, rfl, by decide +kernel, rfl, by decide +kernel, by decide +kernel⟩
abbrev s_next_state : Stmt := topS 24
abbrev n_next_state : List Str := ["layout", "state", "instruction", "name", "given", "fact", "carry", "least", "greatest", "facts"]
theorem sc_next_state : FnScope ["layout", "state", "instruction", "name", "given", "fact", "carry", "least", "greatest", "facts"] ["layout", "state", "instruction"] (defScope s_next_state) := ⟨rfl, rfl, rfl, by decide +kernel, rfl, by decide +kernel, by decide +kernel⟩
abbrev s_without_cell : Stmt := topS 25
abbrev n_without_cell : List Str := ["fact"]
theorem sc_without_cell : FnScope ["fact"] ["fact"] (defScope s_without_cell) := ⟨rfl, rfl, rfl, by decide +kernel, rfl, by decide +kernel, by decide +kernel⟩
abbrev s_result_fact : Stmt := topS 26
abbrev n_result_fact : List Str := ["layout", "state", "instruction", "name", "word", "least", "greatest", "first", "second", "flows", "cell"]
theorem sc_result_fact : FnScope ["layout", "state", "instruction", "name", "word", "least", "greatest", "first", "second", "flows", "cell"] ["layout", "state", "instruction"] (defScope s_result_fact) := ⟨rfl, rfl, rfl, by decide +kernel, rfl, by decide +kernel, by decide +kernel⟩
abbrev s_loaded_fact : Stmt := topS 27
abbrev n_loaded_fact : List Str := ["layout", "least", "greatest", "region", "_", "flow", "most"]
theorem sc_loaded_fact : FnScope ["layout", "least", "greatest", "region", "_", "flow", "most"] ["layout", "least", "greatest"] (defScope s_loaded_fact) := ⟨rfl, rfl, rfl, by decide +kernel, rfl, by decide +kernel, by decide +kernel⟩
abbrev s_cell_of_sum : Stmt := topS 28
abbrev n_cell_of_sum : List Str := ["first", "second", "_", "least", "greatest", "most", "cell", "plus"]
theorem sc_cell_of_sum : FnScope ["first", "second", "_", "least", "greatest", "most", "cell", "plus"] ["first", "second"] (defScope s_cell_of_sum) := ⟨rfl, rfl, rfl, by decide +kernel, rfl, by decide +kernel, by decide +kernel⟩
abbrev s_as_words : Stmt := topS 29
abbrev n_as_words : List Str := ["least", "greatest"]
theorem sc_as_words : FnScope ["least", "greatest"] ["least", "greatest"] (defScope s_as_words) := ⟨rfl, rfl, rfl, by decide +kernel, rfl, by decide +kernel, by decide +kernel⟩
abbrev s_shifted : Stmt := topS 30
abbrev n_shifted : List Str := ["name", "least", "greatest", "count"]
theorem sc_shifted : FnScope ["name", "least", "greatest", "count"] ["name", "least", "greatest", "count"] (defScope s_shifted) := ⟨rfl, rfl, rfl, by decide +kernel, rfl, by decide +kernel, by decide +kernel⟩
abbrev s_operated : Stmt := topS 31
abbrev n_operated : List Str := ["name", "first", "second", "_", "low", "high", "least", "greatest", "more"]
theorem sc_operated : FnScope ["name", "first", "second", "_", "low", "high", "least", "greatest", "more"] ["name", "first", "second"] (defScope s_operated) := ⟨rfl, rfl, rfl, by decide +kernel, rfl, by decide +kernel, by decide +kernel⟩
abbrev s_top_of_bits : Stmt := topS 32
abbrev n_top_of_bits : List Str := ["name", "high", "greatest"]
theorem sc_top_of_bits : FnScope ["name", "high", "greatest"] ["name", "high", "greatest"] (defScope s_top_of_bits) := ⟨rfl, rfl, rfl, by decide +kernel, rfl, by decide +kernel, by decide +kernel⟩
abbrev s_law_source : Stmt := topS 34
abbrev n_law_source : List Str := ["script", "k", "cell", "state"]
theorem sc_law_source : FnScope ["script", "k", "cell", "state"] ["script", "k"] (defScope s_law_source) := ⟨rfl, rfl, rfl, by decide +kernel, rfl, by decide +kernel, by decide +kernel⟩
abbrev s_law_draw : Stmt := topS 35
abbrev n_law_draw : List Str := ["source", "many", "worth"]
theorem sc_law_draw : FnScope ["source", "many", "worth"] ["source", "many"] (defScope s_law_draw) := ⟨rfl, rfl, rfl, by decide +kernel, rfl, by decide +kernel, by decide +kernel⟩
abbrev s_law_word : Stmt := topS 36
abbrev n_law_word : List Str := ["source"]
theorem sc_law_word : FnScope ["source"] ["source"] (defScope s_law_word) := ⟨rfl, rfl, rfl, by decide +kernel, rfl, by decide +kernel, by decide +kernel⟩
abbrev s_law_fact : Stmt := topS 37
abbrev n_law_fact : List Str := ["source", "first", "second", "cell", "plus", "flow"]
theorem sc_law_fact : FnScope ["source", "first", "second", "cell", "plus", "flow"] ["source"] (defScope s_law_fact) := ⟨rfl, rfl, rfl, by decide +kernel, rfl, by decide +kernel, by decide +kernel⟩
abbrev s_law_state : Stmt := topS 38
abbrev n_law_state : List Str := ["source", "facts", "k"]
theorem sc_law_state : FnScope ["source", "facts", "k"] ["source"] (defScope s_law_state) := ⟨rfl, rfl, rfl, by decide +kernel, rfl, by decide +kernel, by decide +kernel⟩
abbrev s_law_fact_fits : Stmt := topS 39
abbrev n_law_fact_fits : List Str := ["fact", "other"]
theorem sc_law_fact_fits : FnScope ["fact", "other"] ["fact", "other"] (defScope s_law_fact_fits) := ⟨rfl, rfl, rfl, by decide +kernel, rfl, by decide +kernel, by decide +kernel⟩
abbrev s_law_fits : Stmt := topS 40
abbrev n_law_fits : List Str := ["state", "other", "k"]
theorem sc_law_fits : FnScope ["state", "other", "k"] ["state", "other"] (defScope s_law_fits) := ⟨rfl, rfl, rfl, by decide +kernel, rfl, by decide +kernel, by decide +kernel⟩
abbrev s_law_wider_fact : Stmt := topS 41
abbrev n_law_wider_fact : List Str := ["source", "fact", "flow", "least", "greatest", "cell", "plus", "change"]
theorem sc_law_wider_fact : FnScope ["source", "fact", "flow", "least", "greatest", "cell", "plus", "change"] ["source", "fact"] (defScope s_law_wider_fact) := ⟨rfl, rfl, rfl, by decide +kernel, rfl, by decide +kernel, by decide +kernel⟩
abbrev s_law_wider : Stmt := topS 42
abbrev n_law_wider : List Str := ["source", "state", "facts", "k", "flow"]
theorem sc_law_wider : FnScope ["source", "state", "facts", "k", "flow"] ["source", "state"] (defScope s_law_wider) := ⟨rfl, rfl, rfl, by decide +kernel, rfl, by decide +kernel, by decide +kernel⟩
abbrev s_law_layout : Stmt := topS 43
abbrev n_law_layout : List Str := ["source", "layout", "end", "k", "size"]
theorem sc_law_layout : FnScope ["source", "layout", "end", "k", "size"] ["source"] (defScope s_law_layout) := ⟨rfl, rfl, rfl, by decide +kernel, rfl, by decide +kernel, by decide +kernel⟩
abbrev s_law_instruction : Stmt := topS 44
abbrev n_law_instruction : List Str := ["source", "names", "name", "first", "second", "third"]
theorem sc_law_instruction : FnScope ["source", "names", "name", "first", "second", "third"] ["source"] (defScope s_law_instruction) := ⟨rfl, rfl, rfl, by decide +kernel, rfl, by decide +kernel, by decide +kernel⟩
abbrev s_law_order_holds : Stmt := topS 45
abbrev n_law_order_holds : List Str := ["script", "at", "source", "layout", "state", "wider", "other", "turn", "row", "low", "after", "k"]
theorem sc_law_order_holds : FnScope ["script", "at", "source", "layout", "state", "wider", "other", "turn", "row", "low", "after", "k"] ["script", "at"] (defScope s_law_order_holds) := ⟨rfl, rfl, rfl, by decide +kernel, rfl, by decide +kernel, by decide +kernel⟩
abbrev s_law : Stmt := topS 46
abbrev n_law : List Str := ["script", "turn"]
theorem sc_law : FnScope ["script", "turn"] ["script"] (defScope s_law) := ⟨rfl, rfl, rfl, by decide +kernel, rfl, by decide +kernel, by decide +kernel⟩
structure Tx (K : PySem.W.Frag) (mg : Str → Option Value) where
  a_joined_flow : Addr
  d_joined_flow : FuncData
  F_joined_flow : Fun K "joined_flow" "joined_flow" s_joined_flow a_joined_flow d_joined_flow
  b_joined_flow : Binds K d_joined_flow ["flows"] []
  g_joined_flow : mg "joined_flow" = some (.ref a_joined_flow)
  a_mask : Addr
  d_mask : FuncData
  F_mask : Fun K "mask" "mask" s_mask a_mask d_mask
  b_mask : Binds K d_mask ["count"] []
  g_mask : mg "mask" = some (.ref a_mask)
  a_given_register : Addr
  d_given_register : FuncData
  F_given_register : Fun K "given_register" "given_register" s_given_register a_given_register d_given_register
  b_given_register : Binds K d_given_register ["instruction"] []
  g_given_register : mg "given_register" = some (.ref a_given_register)
  a_region_end : Addr
  d_region_end : FuncData
  F_region_end : Fun K "region_end" "region_end" s_region_end a_region_end d_region_end
  b_region_end : Binds K d_region_end ["region"] []
  g_region_end : mg "region_end" = some (.ref a_region_end)
  a_region_at : Addr
  d_region_at : FuncData
  F_region_at : Fun K "region_at" "region_at" s_region_at a_region_at d_region_at
  b_region_at : Binds K d_region_at ["layout", "address"] []
  g_region_at : mg "region_at" = some (.ref a_region_at)
  a_fact_union : Addr
  d_fact_union : FuncData
  F_fact_union : Fun K "fact_union" "fact_union" s_fact_union a_fact_union d_fact_union
  b_fact_union : Binds K d_fact_union ["fact", "other"] []
  g_fact_union : mg "fact_union" = some (.ref a_fact_union)
  a_union : Addr
  d_union : FuncData
  F_union : Fun K "union" "union" s_union a_union d_union
  b_union : Binds K d_union ["state", "other"] []
  g_union : mg "union" = some (.ref a_union)
  a_addresses : Addr
  d_addresses : FuncData
  F_addresses : Fun K "addresses" "addresses" s_addresses a_addresses d_addresses
  b_addresses : Binds K d_addresses ["state", "instruction"] []
  g_addresses : mg "addresses" = some (.ref a_addresses)
  a_safe_region : Addr
  d_safe_region : FuncData
  F_safe_region : Fun K "safe_region" "safe_region" s_safe_region a_safe_region d_safe_region
  b_safe_region : Binds K d_safe_region ["layout", "least", "greatest"] []
  g_safe_region : mg "safe_region" = some (.ref a_safe_region)
  a_next_state : Addr
  d_next_state : FuncData
  F_next_state : Fun K "next_state" "next_state" s_next_state a_next_state d_next_state
  b_next_state : Binds K d_next_state ["layout", "state", "instruction"] []
  g_next_state : mg "next_state" = some (.ref a_next_state)
  a_without_cell : Addr
  d_without_cell : FuncData
  F_without_cell : Fun K "without_cell" "without_cell" s_without_cell a_without_cell d_without_cell
  b_without_cell : Binds K d_without_cell ["fact"] []
  g_without_cell : mg "without_cell" = some (.ref a_without_cell)
  a_result_fact : Addr
  d_result_fact : FuncData
  F_result_fact : Fun K "result_fact" "result_fact" s_result_fact a_result_fact d_result_fact
  b_result_fact : Binds K d_result_fact ["layout", "state", "instruction"] []
  g_result_fact : mg "result_fact" = some (.ref a_result_fact)
  a_loaded_fact : Addr
  d_loaded_fact : FuncData
  F_loaded_fact : Fun K "loaded_fact" "loaded_fact" s_loaded_fact a_loaded_fact d_loaded_fact
  b_loaded_fact : Binds K d_loaded_fact ["layout", "least", "greatest"] []
  g_loaded_fact : mg "loaded_fact" = some (.ref a_loaded_fact)
  a_cell_of_sum : Addr
  d_cell_of_sum : FuncData
  F_cell_of_sum : Fun K "cell_of_sum" "cell_of_sum" s_cell_of_sum a_cell_of_sum d_cell_of_sum
  b_cell_of_sum : Binds K d_cell_of_sum ["first", "second"] []
  g_cell_of_sum : mg "cell_of_sum" = some (.ref a_cell_of_sum)
  a_as_words : Addr
  d_as_words : FuncData
  F_as_words : Fun K "as_words" "as_words" s_as_words a_as_words d_as_words
  b_as_words : Binds K d_as_words ["least", "greatest"] []
  g_as_words : mg "as_words" = some (.ref a_as_words)
  a_shifted : Addr
  d_shifted : FuncData
  F_shifted : Fun K "shifted" "shifted" s_shifted a_shifted d_shifted
  b_shifted : Binds K d_shifted ["name", "least", "greatest", "count"] []
  g_shifted : mg "shifted" = some (.ref a_shifted)
  a_operated : Addr
  d_operated : FuncData
  F_operated : Fun K "operated" "operated" s_operated a_operated d_operated
  b_operated : Binds K d_operated ["name", "first", "second"] []
  g_operated : mg "operated" = some (.ref a_operated)
  a_top_of_bits : Addr
  d_top_of_bits : FuncData
  F_top_of_bits : Fun K "top_of_bits" "top_of_bits" s_top_of_bits a_top_of_bits d_top_of_bits
  b_top_of_bits : Binds K d_top_of_bits ["name", "high", "greatest"] []
  g_top_of_bits : mg "top_of_bits" = some (.ref a_top_of_bits)
  a_law_source : Addr
  d_law_source : FuncData
  F_law_source : Fun K "_law_source" "_law_source" s_law_source a_law_source d_law_source
  b_law_source : Binds K d_law_source ["script", "k"] []
  g_law_source : mg "_law_source" = some (.ref a_law_source)
  a_law_draw : Addr
  d_law_draw : FuncData
  F_law_draw : Fun K "_law_draw" "_law_draw" s_law_draw a_law_draw d_law_draw
  b_law_draw : Binds K d_law_draw ["source", "many"] []
  g_law_draw : mg "_law_draw" = some (.ref a_law_draw)
  a_law_word : Addr
  d_law_word : FuncData
  F_law_word : Fun K "_law_word" "_law_word" s_law_word a_law_word d_law_word
  b_law_word : Binds K d_law_word ["source"] []
  g_law_word : mg "_law_word" = some (.ref a_law_word)
  a_law_fact : Addr
  d_law_fact : FuncData
  F_law_fact : Fun K "_law_fact" "_law_fact" s_law_fact a_law_fact d_law_fact
  b_law_fact : Binds K d_law_fact ["source"] []
  g_law_fact : mg "_law_fact" = some (.ref a_law_fact)
  a_law_state : Addr
  d_law_state : FuncData
  F_law_state : Fun K "_law_state" "_law_state" s_law_state a_law_state d_law_state
  b_law_state : Binds K d_law_state ["source"] []
  g_law_state : mg "_law_state" = some (.ref a_law_state)
  a_law_fact_fits : Addr
  d_law_fact_fits : FuncData
  F_law_fact_fits : Fun K "_law_fact_fits" "_law_fact_fits" s_law_fact_fits a_law_fact_fits d_law_fact_fits
  b_law_fact_fits : Binds K d_law_fact_fits ["fact", "other"] []
  g_law_fact_fits : mg "_law_fact_fits" = some (.ref a_law_fact_fits)
  a_law_fits : Addr
  d_law_fits : FuncData
  F_law_fits : Fun K "_law_fits" "_law_fits" s_law_fits a_law_fits d_law_fits
  b_law_fits : Binds K d_law_fits ["state", "other"] []
  g_law_fits : mg "_law_fits" = some (.ref a_law_fits)
  a_law_wider_fact : Addr
  d_law_wider_fact : FuncData
  F_law_wider_fact : Fun K "_law_wider_fact" "_law_wider_fact" s_law_wider_fact a_law_wider_fact d_law_wider_fact
  b_law_wider_fact : Binds K d_law_wider_fact ["source", "fact"] []
  g_law_wider_fact : mg "_law_wider_fact" = some (.ref a_law_wider_fact)
  a_law_wider : Addr
  d_law_wider : FuncData
  F_law_wider : Fun K "_law_wider" "_law_wider" s_law_wider a_law_wider d_law_wider
  b_law_wider : Binds K d_law_wider ["source", "state"] []
  g_law_wider : mg "_law_wider" = some (.ref a_law_wider)
  a_law_layout : Addr
  d_law_layout : FuncData
  F_law_layout : Fun K "_law_layout" "_law_layout" s_law_layout a_law_layout d_law_layout
  b_law_layout : Binds K d_law_layout ["source"] []
  g_law_layout : mg "_law_layout" = some (.ref a_law_layout)
  a_law_instruction : Addr
  d_law_instruction : FuncData
  F_law_instruction : Fun K "_law_instruction" "_law_instruction" s_law_instruction a_law_instruction d_law_instruction
  b_law_instruction : Binds K d_law_instruction ["source"] []
  g_law_instruction : mg "_law_instruction" = some (.ref a_law_instruction)
  a_law_order_holds : Addr
  d_law_order_holds : FuncData
  F_law_order_holds : Fun K "_law_order_holds" "_law_order_holds" s_law_order_holds a_law_order_holds d_law_order_holds
  b_law_order_holds : Binds K d_law_order_holds ["script", "at"] []
  g_law_order_holds : mg "_law_order_holds" = some (.ref a_law_order_holds)
  a_law : Addr
  d_law : FuncData
  F_law : Fun K "law" "law" s_law a_law d_law
  b_law : Binds K d_law ["script"] []
  g_law : mg "law" = some (.ref a_law)
  c_GIVES_NOTHING : Addr
  g_GIVES_NOTHING : mg "GIVES_NOTHING" = some (.ref c_GIVES_NOTHING)
  r_GIVES_NOTHING : RelV (.ref c_GIVES_NOTHING) (.ref c_GIVES_NOTHING)
  t_GREATEST_WORD : Tok
  g_GREATEST_WORD : mg "GREATEST_WORD" = some (.int (65535) t_GREATEST_WORD)
  r_GREATEST_WORD : RelV (.int (65535)) (.int (65535) t_GREATEST_WORD)
  t_REGISTERS : Tok
  g_REGISTERS : mg "REGISTERS" = some (.int (16) t_REGISTERS)
  r_REGISTERS : RelV (.int (16)) (.int (16) t_REGISTERS)
  t_CARRY : Tok
  g_CARRY : mg "CARRY" = some (.int (16) t_CARRY)
  r_CARRY : RelV (.int (16)) (.int (16) t_CARRY)
  c_NO_CELL : Addr
  g_NO_CELL : mg "NO_CELL" = some (.ref c_NO_CELL)
  r_NO_CELL : RelV (.ref c_NO_CELL) (.ref c_NO_CELL)
  t_WORD : Tok
  g_WORD : mg "WORD" = some (.int (65536) t_WORD)
  r_WORD : RelV (.int (65536)) (.int (65536) t_WORD)
  c_CARRYING : Addr
  g_CARRYING : mg "CARRYING" = some (.ref c_CARRYING)
  r_CARRYING : RelV (.ref c_CARRYING) (.ref c_CARRYING)
  c_CHAINED : Addr
  g_CHAINED : mg "CHAINED" = some (.ref c_CHAINED)
  r_CHAINED : RelV (.ref c_CHAINED) (.ref c_CHAINED)
  c_SHIFTS : Addr
  g_SHIFTS : mg "SHIFTS" = some (.ref c_SHIFTS)
  r_SHIFTS : RelV (.ref c_SHIFTS) (.ref c_SHIFTS)
  z_abs : mg "abs" = none
  z_int : mg "int" = none
  z_len : mg "len" = none
  z_list : mg "list" = none
  z_max : mg "max" = none
  z_min : mg "min" = none
  z_range : mg "range" = none
  z_tuple : mg "tuple" = none
  kitnc : WD.datB K 1 (.ref c_NO_CELL) (.tuple [.int (-1), .int 0]) = true
  kitca : KDx.tupB K c_CARRYING ["add", "addc", "sub", "subc"] = true
  kitch : KDx.tupB K c_CHAINED ["addc", "subc"] = true
  kitsh : KDx.tupB K c_SHIFTS ["down", "up"] = true
  kitgn : KDx.tupB K c_GIVES_NOTHING ["clear", "store", "jump", "below", "call", "ret", "halt"] = true

open Lw GxR WD
/-! ### facts and states -/
structure Fa where
  sec : Bool
  lo : Int
  hi : Int
  cell : Int
  plus : Int
def fl (b : Bool) : Str := if b = true then "secret" else "public"
theorem fl_lay (b : Bool) : (PyData.str (fl b)).canLay0 = true := by cases b <;> decide +kernel
theorem fl_pub (b : Bool) : decide (V.str (fl b) = V.str "public") = !b := by cases b <;> decide +kernel
theorem fl_sec (b : Bool) : decide (V.str (fl b) = V.str "secret") = b := by cases b <;> decide +kernel
def Fa.row (f : Fa) : List V := [.str (fl f.sec), .int f.lo, .int f.hi, .int f.cell, .int f.plus]
def Fa.dat (f : Fa) : PyData := .tuple [.str (fl f.sec), .int f.lo, .int f.hi, .int f.cell, .int f.plus]
def ffB (a b : Bool) : Bool := !a || b
def cellB (f g : Fa) : Bool := decide (f.cell = g.cell) && decide (f.plus = g.plus)
def faB (f g : Fa) : Bool := ffB f.sec g.sec && decide (g.lo ≤ f.lo) && decide (f.hi ≤ g.hi) && (decide (g.cell = -1) || cellB f g)
def allB : List Fa → List Fa → Bool
  | [], [] => true
  | f :: fs, g :: gs => faB f g && allB fs gs
  | _, _ => false
def uF (f g : Fa) : Fa := ⟨f.sec || g.sec, min f.lo g.lo, max f.hi g.hi, if cellB f g = true then f.cell else -1, if cellB f g = true then f.plus else 0⟩
def StAt (K : PySem.W.Frag) (L : List (Addr × HO)) (a : Addr) (fs : List Fa) (c : Bool) : Prop := ∃ rs : List Addr, TupAt K L a (rs.map V.ref ++ [.str (fl c)]) ∧ Paired (fun r f => TupAt K L r (Fa.row f)) rs fs ∧ fs.length = 16
theorem StAt.mono {K : PySem.W.Frag} {L M : List (Addr × HO)} {a : Addr} {fs : List Fa} {c : Bool} (h : StAt K L a fs c) (s : ∀ q ∈ L, q ∈ M) : StAt K M a fs c := by
  obtain ⟨rs, h1, h2, h3⟩ := h
  exact ⟨rs, h1.mono s, paired_imp (fun _ _ z => z.mono s) h2, h3⟩
/-- the fact at i -/
theorem StAt.at_ {K : PySem.W.Frag} {L : List (Addr × HO)} {a : Addr} {fs : List Fa} {c : Bool} (h : StAt K L a fs c) : ∃ xs : List V, TupAt K L a xs ∧ (∀ (i : Nat) (f : Fa), fs[i]? = some f → ∃ r : Addr, xs[i]? = some (V.ref r) ∧ TupAt K L r (Fa.row f)) ∧ xs[16]? = some (.str (fl c)) ∧ xs.length = 17 := by
  obtain ⟨rs, h1, h2, h3⟩ := h
  have hl : rs.length = 16 := by rw [h2.length]; exact h3
  refine ⟨_, h1, fun i f hf => ?_, ?_, by rw [List.length_append, List.length_map, hl]; rfl⟩
  · obtain ⟨r, hr, ht⟩ := WD.paired_at h2 hf
    refine ⟨r, ?_, ht⟩
    have hi : i < rs.length := (List.getElem?_eq_some_iff.mp hr).1
    rw [List.getElem?_append_left (by rw [List.length_map]; exact hi), List.getElem?_map, hr]
    rfl
  · rw [List.getElem?_append_right (by rw [List.length_map, hl]; exact Nat.le_refl _), List.length_map, hl]
    rfl
def spFlow : Sp := fun vs H Q _ => ∃ a b, vs = [.str (fl a), .str (fl b)] ∧ Q (.bl (ffB a b)) H
def spFact (K : PySem.W.Frag) : Sp := fun vs H Q _ => ∃ H0 L r s f g, vs = [.ref r, .ref s] ∧ Objs H0 H L ∧ TupAt K L r (Fa.row f) ∧ TupAt K L s (Fa.row g) ∧ ∀ H', Same H H' → Q (.bl (faB f g)) H'
def spJoin (K : PySem.W.Frag) : Sp := fun vs H Q _ => ∃ (r : Addr) (bs : List Bool) (b : Bool), vs = [.ref r] ∧ (SqL K H r (bs.map fun x => V.str (fl x)) ∨ SqT K H r (bs.map fun x => V.str (fl x))) ∧ bs.any id = b ∧ Q (.str (fl b)) H
def spFUn (K : PySem.W.Frag) : Sp := fun vs H Q _ => ∃ H0 L r s f g, vs = [.ref r, .ref s] ∧ Objs H0 H L ∧ TupAt K L r (Fa.row f) ∧ TupAt K L s (Fa.row g) ∧ ∀ u H', Same H H' → H u = none → H' u = some (.tup (Fa.row (uF f g))) → Q (.ref u) H'
def spUnion (K : PySem.W.Frag) (P1 P2 : Addr) : Sp := fun vs H Q _ => ∃ H0 L a b fs c gs d, vs = [.ref a, .ref b] ∧ Wt P1 P2 H0 H L ∧ StAt K L a fs c ∧ StAt K L b gs d ∧ ∀ u N H', L <:+ N → Wt P1 P2 H0 H' N → StAt K N u (List.zipWith uF fs gs) (c || d) → Q (.ref u) H'
theorem pair_eqv (a b c d : Int) : PyData.eqv (.tuple [.int a, .int b]) (.tuple [.int c, .int d]) = (decide (a = c) && decide (b = d)) := by
  have e : ∀ x y : Int, PyData.eqv (.int x) (.int y) = decide (x = y) := fun x y => by
    unfold PyData.eqv
    rfl
  unfold PyData.eqv
  rw [PyData.eqvAll, PyData.eqvAll, PyData.eqvAll, e, e, Bool.and_true]
theorem cutP (f : Fa) : cutV f.row (some 3) none = [.int f.cell, .int f.plus] := rfl
theorem not3 (f : Fa) : ¬ (HT.sIx f.row.length 0 (some 3) = 0 ∧ HT.sIx f.row.length f.row.length none = f.row.length) := fun z => absurd z.1 (by show ¬ (3 = 0); decide)
theorem allB_drop {fs gs : List Fa} {i : Nat} {f g : Fa} (h1 : fs[i]? = some f) (h2 : gs[i]? = some g) : allB (fs.drop i) (gs.drop i) = (faB f g && allB (fs.drop (i + 1)) (gs.drop (i + 1))) := by
  obtain ⟨g1, e1⟩ := List.getElem?_eq_some_iff.mp h1
  obtain ⟨g2, e2⟩ := List.getElem?_eq_some_iff.mp h2
  rw [List.drop_eq_getElem_cons g1, List.drop_eq_getElem_cons g2, e1, e2]
  rfl
theorem cells_eq {K : PySem.W.Frag} {H : Hp} {x y : Addr} {f g : Fa} {Q : VK} (h1 : H x = some (.tup [.int f.cell, .int f.plus])) (h2 : H y = some (.tup [.int g.cell, .int g.plus])) (q : Q (.bl (cellB f g)) H) : rEqD K (.ref x) (.ref y) H Q := by
  have hd : ∀ (z : Addr) (a b : Int), H z = some (.tup [.int a, .int b]) → Dp K H (.ref z) (.tuple [.int a, .int b]) ∧ SeqAt.shaped (.tuple [.int a, .int b]) = true := fun z a b h => by
    have p : PL K 1 [(z, .tup [.int a, .int b])] (.ref z) (.tuple [.int a, .int b]) := .inr ⟨z, [.int a, .int b], _, rfl, .cons (show Atom (.int a) (.int a) from rfl) (.cons (show Atom (.int b) (.int b) from rfl) .nil), .inl ⟨.inl (List.mem_cons_self ..), rfl⟩⟩
    obtain ⟨a1, a2, a3⟩ := p.dp (H := H) fun q hq => by rw [List.mem_singleton.mp hq]; exact h
    exact ⟨a1, shaped_of a2 (by omega)⟩
  obtain ⟨d1, s1⟩ := hd x _ _ h1
  obtain ⟨d2, s2⟩ := hd y _ _ h2
  refine ⟨_, _, d1, d2, s1, s2, ?_⟩
  rw [pair_eqv]
  exact q
section
variable {P : Program} {w : World} {K : PySem.W.Frag} {mg : Str → Option Value} {base : Heap}
theorem in_sec (bs : List Bool) : inV (V.str "secret") (bs.map fun x => V.str (fl x)) = bs.any id := by
  induction bs with
  | nil => rfl
  | cons x xs ih =>
    rw [List.any_cons, ← ih]
    show List.any _ _ = _
    rw [List.map_cons, List.any_cons]
    congr 1
    cases x <;> decide +kernel
theorem ok_join (T : Tx K mg) : FnOk P w K mg base CX0 1 T.a_joined_flow T.d_joined_flow ["flows"] (spJoin K) := by
  refine T.F_joined_flow.ok sc_joined_flow (fun vs H Q E h => ?_) (fun cdv A outer s H vs Q E hr h => ?_)
  · obtain ⟨r, bs, b, rfl, _⟩ := h
    rfl
  · obtain ⟨r, bs, b, rfl, h, hb, q⟩ := h
    refine ⟨_, (pss_one (ps_ret (pe_ifExp (pt_cmpR op_in_seq pe_str (pv 0) (by rfl)) pe_str pe_str))), ?_⟩
    have e := in_sec bs
    rw [hb] at e
    refine ⟨_, rfl, r, bs.map (fun x => V.str (fl x)), rfl, h, ?_⟩
    refine ⟨rfl, ?_, ?_⟩
    · rw [List.all_eq_true]
      intro x hx
      obtain ⟨b, _, rfl⟩ := List.mem_map.mp hx
      rfl
    rw [if_neg Bool.false_ne_true, e]
    refine ⟨_, rfl, ?_⟩
    cases b <;> exact q
theorem mn (i j : Int) : (if j < i then j else i) = min i j := by
  rw [Int.min_def]
  split <;> split <;> omega
theorem mx (i j : Int) : (if j > i then j else i) = max i j := by
  rw [Int.max_def]
  split <;> split <;> omega
theorem ok_fun (T : Tx K mg) : FnOk P w K mg base CX0 2 T.a_fact_union T.d_fact_union ["fact", "other"] (spFUn K) := by
  have G_joined_flow : FnOk P w K mg base CX0 1 T.a_joined_flow T.d_joined_flow ["flows"] (spJoin K) := ok_join T
  refine T.F_fact_union.ok sc_fact_union (fun vs H Q E h => ?_) (fun cdv A outer s H vs Q E hr h => ?_)
  · obtain ⟨H0, L, r, s, f, g, rfl, _⟩ := h
    rfl
  · obtain ⟨H0, L, r, s, f, g, rfl, o, h1, h2, q⟩ := h
    have hr_joined_flow : Room 1 _ := hr
    refine ⟨_, (pss_cons (ps_set (i := 2) sc_fact_union.nd rfl (.inl rfl) (pe_call G_joined_flow hr_joined_flow (by rfl) T.g_joined_flow T.F_joined_flow.kp T.b_joined_flow .nil pass0 (pa_cons (pe_tup (pa_cons (pe_ix ix_tup (pv 0) pe_int (fun _ _ => rfl)) (pa_cons (pe_ix ix_tup (pv 1) pe_int (fun _ _ => rfl)) pa_nil))) pa_nil)))
        (pss_cons (ps_set (i := 3) sc_fact_union.nd rfl (.inl rfl) (pe_ifExp (pt_cmpR (op_eqD hr.units) (pe_slice sl_tup (pv 0) (po_some pe_int) po_none) (pe_slice sl_tup (pv 1) (po_some pe_int) po_none) (nomark _)) (pe_slice sl_tup (pv 0) (po_some pe_int) po_none) (pe_glob rfl T.g_NO_CELL T.r_NO_CELL)))
        (pss_one (ps_ret (pe_tup (pa_cons (pv 2) (pa_cons (pe_callB (call_min2 rfl) (by rfl) T.z_min (by decide +kernel) (pa_cons (pe_ix ix_tup (pv 0) pe_int (fun _ _ => rfl)) (pa_cons (pe_ix ix_tup (pv 1) pe_int (fun _ _ => rfl)) pa_nil))) (pa_cons (pe_callB (call_max2 rfl) (by rfl) T.z_max (by decide +kernel) (pa_cons (pe_ix ix_tup (pv 0) pe_int (fun _ _ => rfl)) (pa_cons (pe_ix ix_tup (pv 1) pe_int (fun _ _ => rfl)) pa_nil))) (StX.pa_star (pv 3) pa_nil))))))))), ?_⟩
    have k1 := h1.sq o.at_
    have k2 := h2.sq o.at_
    refine ⟨_, rfl, r, _, _, _, rfl, rfl, k1, rfl, _, rfl, s, _, _, _, rfl, rfl, k2, rfl, ?_⟩
    refine ⟨by show 2 ≤ sizeLine; decide, fun x hx => ?_⟩
    have o1 := o.skip (o := .tup [.str (fl f.sec), .str (fl g.sec)]) hx
    dsimp only [tCons, tC, tNil]
    refine ⟨x, [f.sec, g.sec], f.sec || g.sec, rfl, .inr (SqT.of upd_same), by cases f.sec <;> cases g.sec <;> rfl, ?_⟩
    have s1 := same_upd (o := .tup [.str (fl f.sec), .str (fl g.sec)]) hx
    generalize upd H x (.tup [.str (fl f.sec), .str (fl g.sec)]) = H1 at o1 s1 ⊢
    have k1' := h1.sq o1.at_
    have k2' := h2.sq o1.at_
    clear k1 k2
    (repeat (first | refine ⟨_, rfl, ?_⟩ | refine ⟨_, _, rfl, rfl, ?_⟩ | refine ⟨rfl, ?_⟩ | refine .inl ⟨_, rfl, ?_⟩ | refine .inr ⟨_, rfl, ?_⟩ | refine ⟨.inr ⟨by decide, by decide⟩, ?_⟩ | refine ⟨⟨by decide, by decide⟩, ?_⟩ | refine ⟨⟨by decide, by decide, by decide⟩, ?_⟩ | refine ⟨.inr ⟨by omega, by omega⟩, ?_⟩ | refine ⟨(by show (0 : Int) < _; first | decide | omega), ?_⟩ | refine ⟨Nat.le_trans (Nat.le_of_ble_eq_true rfl : _ ≤ 50) (by decide), ?_⟩ | refine ⟨_, _, _, _, rfl, rfl, upd_same, rfl, ?_⟩ | refine ⟨_, _, _, _, rfl, rfl, SqL.of upd_same, rfl, ?_⟩ | refine ⟨_, _, _, _, rfl, rfl, SqT.of upd_same, rfl, ?_⟩ | refine ⟨_, _, rfl, .inl (SqL.of upd_same), ?_⟩ | refine ⟨_, _, rfl, .inr (SqT.of upd_same), ?_⟩ | (refine' ⟨_, _, _, _, rfl, rfl, _, _, _⟩; rotate_left 2; (focus (first | assumption | exact SqL.of (by assumption) | exact SqT.of (by assumption) | exact Same.seq (by assumption) (by assumption))); (focus (exact rfl))) | (refine' ⟨_, _, rfl, _, _⟩; rotate_left 1; (focus (first | exact .inl (by assumption) | exact .inl (SqL.of (by assumption)) | exact .inr (by assumption) | exact .inr (SqT.of (by assumption)))))))
    dsimp only [tNoPart]
    refine ⟨r, _, rfl, k1', not3 f, fun y hy => ?_⟩
    rw [cutP]
    have o2 := o1.skip (o := .tup [.int f.cell, .int f.plus]) hy
    (repeat (first | refine ⟨_, rfl, ?_⟩ | refine ⟨_, _, rfl, rfl, ?_⟩ | refine ⟨rfl, ?_⟩ | refine .inl ⟨_, rfl, ?_⟩ | refine .inr ⟨_, rfl, ?_⟩ | refine ⟨.inr ⟨by decide, by decide⟩, ?_⟩ | refine ⟨⟨by decide, by decide⟩, ?_⟩ | refine ⟨⟨by decide, by decide, by decide⟩, ?_⟩ | refine ⟨.inr ⟨by omega, by omega⟩, ?_⟩ | refine ⟨(by show (0 : Int) < _; first | decide | omega), ?_⟩ | refine ⟨Nat.le_trans (Nat.le_of_ble_eq_true rfl : _ ≤ 50) (by decide), ?_⟩ | refine ⟨_, _, _, _, rfl, rfl, upd_same, rfl, ?_⟩ | refine ⟨_, _, _, _, rfl, rfl, SqL.of upd_same, rfl, ?_⟩ | refine ⟨_, _, _, _, rfl, rfl, SqT.of upd_same, rfl, ?_⟩ | refine ⟨_, _, rfl, .inl (SqL.of upd_same), ?_⟩ | refine ⟨_, _, rfl, .inr (SqT.of upd_same), ?_⟩ | (refine' ⟨_, _, _, _, rfl, rfl, _, _, _⟩; rotate_left 2; (focus (first | assumption | exact SqL.of (by assumption) | exact SqT.of (by assumption) | exact Same.seq (by assumption) (by assumption))); (focus (exact rfl))) | (refine' ⟨_, _, rfl, _, _⟩; rotate_left 1; (focus (first | exact .inl (by assumption) | exact .inl (SqL.of (by assumption)) | exact .inr (by assumption) | exact .inr (SqT.of (by assumption)))))))
    dsimp only [tNoPart]
    refine ⟨s, _, rfl, h2.sq o2.at_, not3 g, fun z hz => ?_⟩
    rw [cutP]
    have o3 := o2.skip (o := .tup [.int g.cell, .int g.plus]) hz
    have s3 := s1.trans ((same_upd (o := .tup [.int f.cell, .int f.plus]) hy).trans (same_upd (o := .tup [.int g.cell, .int g.plus]) hz))
    refine cells_eq (same_upd hz _ _ upd_same) upd_same ?_
    refine ⟨_, rfl, ?_⟩
    generalize upd (upd H1 y (.tup [.int f.cell, .int f.plus])) z (.tup [.int g.cell, .int g.plus]) = H3 at o3 s3 ⊢
    have k1 := h1.sq o3.at_
    have k2 := h2.sq o3.at_
    clear k1' k2' o1 o2 s1
    have eu : uF f g = ⟨f.sec || g.sec, min f.lo g.lo, max f.hi g.hi, if cellB f g = true then f.cell else -1, if cellB f g = true then f.plus else 0⟩ := rfl
    rw [eu] at q
    cases hc : cellB f g with
    | true =>
      rw [hc, if_pos rfl, if_pos rfl] at q
      (repeat (first | refine ⟨_, rfl, ?_⟩ | refine ⟨_, _, rfl, rfl, ?_⟩ | refine ⟨rfl, ?_⟩ | refine .inl ⟨_, rfl, ?_⟩ | refine .inr ⟨_, rfl, ?_⟩ | refine ⟨.inr ⟨by decide, by decide⟩, ?_⟩ | refine ⟨⟨by decide, by decide⟩, ?_⟩ | refine ⟨⟨by decide, by decide, by decide⟩, ?_⟩ | refine ⟨.inr ⟨by omega, by omega⟩, ?_⟩ | refine ⟨(by show (0 : Int) < _; first | decide | omega), ?_⟩ | refine ⟨Nat.le_trans (Nat.le_of_ble_eq_true rfl : _ ≤ 50) (by decide), ?_⟩ | refine ⟨_, _, _, _, rfl, rfl, upd_same, rfl, ?_⟩ | refine ⟨_, _, _, _, rfl, rfl, SqL.of upd_same, rfl, ?_⟩ | refine ⟨_, _, _, _, rfl, rfl, SqT.of upd_same, rfl, ?_⟩ | refine ⟨_, _, rfl, .inl (SqL.of upd_same), ?_⟩ | refine ⟨_, _, rfl, .inr (SqT.of upd_same), ?_⟩ | (refine' ⟨_, _, _, _, rfl, rfl, _, _, _⟩; rotate_left 2; (focus (first | assumption | exact SqL.of (by assumption) | exact SqT.of (by assumption) | exact Same.seq (by assumption) (by assumption))); (focus (exact rfl))) | (refine' ⟨_, _, rfl, _, _⟩; rotate_left 1; (focus (first | exact .inl (by assumption) | exact .inl (SqL.of (by assumption)) | exact .inr (by assumption) | exact .inr (SqT.of (by assumption)))))))
      dsimp only [tNoPart]
      refine ⟨r, _, rfl, k1, not3 f, fun v hv => ?_⟩
      rw [cutP]
      have o4 := o3.skip (o := .tup [.int f.cell, .int f.plus]) hv
      have s4 := s3.trans (same_upd (o := .tup [.int f.cell, .int f.plus]) hv)
      have kv : SqT K (upd H3 v (.tup [.int f.cell, .int f.plus])) v [.int f.cell, .int f.plus] := SqT.of upd_same
      generalize upd H3 v (.tup [.int f.cell, .int f.plus]) = H4 at o4 s4 kv ⊢
      have k1 := h1.sq o4.at_
      have k2 := h2.sq o4.at_
      (repeat (first | refine ⟨_, rfl, ?_⟩ | refine ⟨_, _, rfl, rfl, ?_⟩ | refine ⟨rfl, ?_⟩ | refine .inl ⟨_, rfl, ?_⟩ | refine .inr ⟨_, rfl, ?_⟩ | refine ⟨.inr ⟨by decide, by decide⟩, ?_⟩ | refine ⟨⟨by decide, by decide⟩, ?_⟩ | refine ⟨⟨by decide, by decide, by decide⟩, ?_⟩ | refine ⟨.inr ⟨by omega, by omega⟩, ?_⟩ | refine ⟨(by show (0 : Int) < _; first | decide | omega), ?_⟩ | refine ⟨Nat.le_trans (Nat.le_of_ble_eq_true rfl : _ ≤ 50) (by decide), ?_⟩ | refine ⟨_, _, _, _, rfl, rfl, upd_same, rfl, ?_⟩ | refine ⟨_, _, _, _, rfl, rfl, SqL.of upd_same, rfl, ?_⟩ | refine ⟨_, _, _, _, rfl, rfl, SqT.of upd_same, rfl, ?_⟩ | refine ⟨_, _, rfl, .inl (SqL.of upd_same), ?_⟩ | refine ⟨_, _, rfl, .inr (SqT.of upd_same), ?_⟩ | (refine' ⟨_, _, _, _, rfl, rfl, _, _, _⟩; rotate_left 2; (focus (first | assumption | exact SqL.of (by assumption) | exact SqT.of (by assumption) | exact Same.seq (by assumption) (by assumption))); (focus (exact rfl))) | (refine' ⟨_, _, rfl, _, _⟩; rotate_left 1; (focus (first | exact .inl (by assumption) | exact .inl (SqL.of (by assumption)) | exact .inr (by assumption) | exact .inr (SqT.of (by assumption)))))))
      refine ⟨_, _, rfl, ?_⟩
      (repeat (first | refine ⟨_, rfl, ?_⟩ | refine ⟨_, _, rfl, rfl, ?_⟩ | refine ⟨rfl, ?_⟩ | refine .inl ⟨_, rfl, ?_⟩ | refine .inr ⟨_, rfl, ?_⟩ | refine ⟨.inr ⟨by decide, by decide⟩, ?_⟩ | refine ⟨⟨by decide, by decide⟩, ?_⟩ | refine ⟨⟨by decide, by decide, by decide⟩, ?_⟩ | refine ⟨.inr ⟨by omega, by omega⟩, ?_⟩ | refine ⟨(by show (0 : Int) < _; first | decide | omega), ?_⟩ | refine ⟨Nat.le_trans (Nat.le_of_ble_eq_true rfl : _ ≤ 50) (by decide), ?_⟩ | refine ⟨_, _, _, _, rfl, rfl, upd_same, rfl, ?_⟩ | refine ⟨_, _, _, _, rfl, rfl, SqL.of upd_same, rfl, ?_⟩ | refine ⟨_, _, _, _, rfl, rfl, SqT.of upd_same, rfl, ?_⟩ | refine ⟨_, _, rfl, .inl (SqL.of upd_same), ?_⟩ | refine ⟨_, _, rfl, .inr (SqT.of upd_same), ?_⟩ | (refine' ⟨_, _, _, _, rfl, rfl, _, _, _⟩; rotate_left 2; (focus (first | assumption | exact SqL.of (by assumption) | exact SqT.of (by assumption) | exact Same.seq (by assumption) (by assumption))); (focus (exact rfl))) | (refine' ⟨_, _, rfl, _, _⟩; rotate_left 1; (focus (first | exact .inl (by assumption) | exact .inl (SqL.of (by assumption)) | exact .inr (by assumption) | exact .inr (SqT.of (by assumption)))))))
      refine ⟨_, _, rfl, ?_⟩
      (repeat (first | refine ⟨_, rfl, ?_⟩ | refine ⟨_, _, rfl, rfl, ?_⟩ | refine ⟨rfl, ?_⟩ | refine .inl ⟨_, rfl, ?_⟩ | refine .inr ⟨_, rfl, ?_⟩ | refine ⟨.inr ⟨by decide, by decide⟩, ?_⟩ | refine ⟨⟨by decide, by decide⟩, ?_⟩ | refine ⟨⟨by decide, by decide, by decide⟩, ?_⟩ | refine ⟨.inr ⟨by omega, by omega⟩, ?_⟩ | refine ⟨(by show (0 : Int) < _; first | decide | omega), ?_⟩ | refine ⟨Nat.le_trans (Nat.le_of_ble_eq_true rfl : _ ≤ 50) (by decide), ?_⟩ | refine ⟨_, _, _, _, rfl, rfl, upd_same, rfl, ?_⟩ | refine ⟨_, _, _, _, rfl, rfl, SqL.of upd_same, rfl, ?_⟩ | refine ⟨_, _, _, _, rfl, rfl, SqT.of upd_same, rfl, ?_⟩ | refine ⟨_, _, rfl, .inl (SqL.of upd_same), ?_⟩ | refine ⟨_, _, rfl, .inr (SqT.of upd_same), ?_⟩ | (refine' ⟨_, _, _, _, rfl, rfl, _, _, _⟩; rotate_left 2; (focus (first | assumption | exact SqL.of (by assumption) | exact SqT.of (by assumption) | exact Same.seq (by assumption) (by assumption))); (focus (exact rfl))) | (refine' ⟨_, _, rfl, _, _⟩; rotate_left 1; (focus (first | exact .inl (by assumption) | exact .inl (SqL.of (by assumption)) | exact .inr (by assumption) | exact .inr (SqT.of (by assumption)))))))
      intro u hu
      rw [mn, mx]
      exact q u _ (s4.trans (same_upd hu)) (s4.free hu) upd_same
    | false =>
      rw [hc, if_neg Bool.false_ne_true, if_neg Bool.false_ne_true] at q
      obtain ⟨xs, tx, px⟩ := WD.datB_at (L := L) T.kitnc
      have kv : SqT K H3 T.c_NO_CELL [.int (-1), .int 0] := by
        cases px with
        | @cons x0 _ _ _ a0 px =>
          cases px with
          | @cons x1 _ _ _ a1 px =>
            cases px
            have e0 : x0 = .int (-1) := by cases x0 <;> first | exact False.elim a0 | (cases (show _ = _ from a0); rfl)
            have e1 : x1 = .int 0 := by cases x1 <;> first | exact False.elim a1 | (cases (show _ = _ from a1); rfl)
            rw [e0, e1] at tx
            exact tx.sq o3.at_
      (repeat (first | refine ⟨_, rfl, ?_⟩ | refine ⟨_, _, rfl, rfl, ?_⟩ | refine ⟨rfl, ?_⟩ | refine .inl ⟨_, rfl, ?_⟩ | refine .inr ⟨_, rfl, ?_⟩ | refine ⟨.inr ⟨by decide, by decide⟩, ?_⟩ | refine ⟨⟨by decide, by decide⟩, ?_⟩ | refine ⟨⟨by decide, by decide, by decide⟩, ?_⟩ | refine ⟨.inr ⟨by omega, by omega⟩, ?_⟩ | refine ⟨(by show (0 : Int) < _; first | decide | omega), ?_⟩ | refine ⟨Nat.le_trans (Nat.le_of_ble_eq_true rfl : _ ≤ 50) (by decide), ?_⟩ | refine ⟨_, _, _, _, rfl, rfl, upd_same, rfl, ?_⟩ | refine ⟨_, _, _, _, rfl, rfl, SqL.of upd_same, rfl, ?_⟩ | refine ⟨_, _, _, _, rfl, rfl, SqT.of upd_same, rfl, ?_⟩ | refine ⟨_, _, rfl, .inl (SqL.of upd_same), ?_⟩ | refine ⟨_, _, rfl, .inr (SqT.of upd_same), ?_⟩ | (refine' ⟨_, _, _, _, rfl, rfl, _, _, _⟩; rotate_left 2; (focus (first | assumption | exact SqL.of (by assumption) | exact SqT.of (by assumption) | exact Same.seq (by assumption) (by assumption))); (focus (exact rfl))) | (refine' ⟨_, _, rfl, _, _⟩; rotate_left 1; (focus (first | exact .inl (by assumption) | exact .inl (SqL.of (by assumption)) | exact .inr (by assumption) | exact .inr (SqT.of (by assumption)))))))
      refine ⟨_, _, rfl, ?_⟩
      (repeat (first | refine ⟨_, rfl, ?_⟩ | refine ⟨_, _, rfl, rfl, ?_⟩ | refine ⟨rfl, ?_⟩ | refine .inl ⟨_, rfl, ?_⟩ | refine .inr ⟨_, rfl, ?_⟩ | refine ⟨.inr ⟨by decide, by decide⟩, ?_⟩ | refine ⟨⟨by decide, by decide⟩, ?_⟩ | refine ⟨⟨by decide, by decide, by decide⟩, ?_⟩ | refine ⟨.inr ⟨by omega, by omega⟩, ?_⟩ | refine ⟨(by show (0 : Int) < _; first | decide | omega), ?_⟩ | refine ⟨Nat.le_trans (Nat.le_of_ble_eq_true rfl : _ ≤ 50) (by decide), ?_⟩ | refine ⟨_, _, _, _, rfl, rfl, upd_same, rfl, ?_⟩ | refine ⟨_, _, _, _, rfl, rfl, SqL.of upd_same, rfl, ?_⟩ | refine ⟨_, _, _, _, rfl, rfl, SqT.of upd_same, rfl, ?_⟩ | refine ⟨_, _, rfl, .inl (SqL.of upd_same), ?_⟩ | refine ⟨_, _, rfl, .inr (SqT.of upd_same), ?_⟩ | (refine' ⟨_, _, _, _, rfl, rfl, _, _, _⟩; rotate_left 2; (focus (first | assumption | exact SqL.of (by assumption) | exact SqT.of (by assumption) | exact Same.seq (by assumption) (by assumption))); (focus (exact rfl))) | (refine' ⟨_, _, rfl, _, _⟩; rotate_left 1; (focus (first | exact .inl (by assumption) | exact .inl (SqL.of (by assumption)) | exact .inr (by assumption) | exact .inr (SqT.of (by assumption)))))))
      refine ⟨_, _, rfl, ?_⟩
      (repeat (first | refine ⟨_, rfl, ?_⟩ | refine ⟨_, _, rfl, rfl, ?_⟩ | refine ⟨rfl, ?_⟩ | refine .inl ⟨_, rfl, ?_⟩ | refine .inr ⟨_, rfl, ?_⟩ | refine ⟨.inr ⟨by decide, by decide⟩, ?_⟩ | refine ⟨⟨by decide, by decide⟩, ?_⟩ | refine ⟨⟨by decide, by decide, by decide⟩, ?_⟩ | refine ⟨.inr ⟨by omega, by omega⟩, ?_⟩ | refine ⟨(by show (0 : Int) < _; first | decide | omega), ?_⟩ | refine ⟨Nat.le_trans (Nat.le_of_ble_eq_true rfl : _ ≤ 50) (by decide), ?_⟩ | refine ⟨_, _, _, _, rfl, rfl, upd_same, rfl, ?_⟩ | refine ⟨_, _, _, _, rfl, rfl, SqL.of upd_same, rfl, ?_⟩ | refine ⟨_, _, _, _, rfl, rfl, SqT.of upd_same, rfl, ?_⟩ | refine ⟨_, _, rfl, .inl (SqL.of upd_same), ?_⟩ | refine ⟨_, _, rfl, .inr (SqT.of upd_same), ?_⟩ | (refine' ⟨_, _, _, _, rfl, rfl, _, _, _⟩; rotate_left 2; (focus (first | assumption | exact SqL.of (by assumption) | exact SqT.of (by assumption) | exact Same.seq (by assumption) (by assumption))); (focus (exact rfl))) | (refine' ⟨_, _, rfl, _, _⟩; rotate_left 1; (focus (first | exact .inl (by assumption) | exact .inl (SqL.of (by assumption)) | exact .inr (by assumption) | exact .inr (SqT.of (by assumption)))))))
      intro u hu
      rw [mn, mx]
      exact q u _ (s3.trans (same_upd hu)) (s3.free hu) upd_same
theorem zip_take {fs gs : List Fa} {i : Nat} {f g : Fa} (h1 : fs[i]? = some f) (h2 : gs[i]? = some g) : List.zipWith uF (fs.take (i + 1)) (gs.take (i + 1)) = List.zipWith uF (fs.take i) (gs.take i) ++ [uF f g] := by
  obtain ⟨g1, e1⟩ := List.getElem?_eq_some_iff.mp h1
  obtain ⟨g2, e2⟩ := List.getElem?_eq_some_iff.mp h2
  rw [List.take_add_one, List.take_add_one, h1, h2]
  exact List.zipWith_append (by rw [List.length_take, List.length_take]; omega)
theorem ok_union (T : Tx K mg) {P1 P2 : Addr} : FnOk P w K mg base CX0 3 T.a_union T.d_union ["state", "other"] (spUnion K P1 P2) := by
  have G_joined_flow : FnOk P w K mg base CX0 1 T.a_joined_flow T.d_joined_flow ["flows"] (spJoin K) := ok_join T
  have G_fact_union : FnOk P w K mg base CX0 2 T.a_fact_union T.d_fact_union ["fact", "other"] (spFUn K) := ok_fun T
  refine T.F_union.ok sc_union (fun vs H Q E h => ?_) (fun cdv A outer s H vs Q E hr h => ?_)
  · obtain ⟨H0, L, a, b, fs, c, gs, d, rfl, _⟩ := h
    rfl
  · obtain ⟨H0, L, a, b, fs, c, gs, d, rfl, o, h1, h2, q⟩ := h
    have hr_joined_flow : Room 1 _ := hr.mono (by decide)
    have hr_fact_union : Room 2 _ := hr
    refine ⟨_, (pss_cons (ps_setLc (i := 2) (own := [("reg", 3)]) (g := gName 3) (by rfl) sc_union.nd rfl rfl (sw_true rfl rfl rfl (by decide +kernel)) (pi_range1 rfl T.z_range (pa_cons (pe_glob rfl T.g_REGISTERS T.r_REGISTERS) pa_nil)) (blkOk_by (N := n_union) (sc := defScope s_union) (by decide +kernel)) (fun _ _ _ _ _ => pg_name (i := 3) sc_union.nd rfl (Or.inl rfl)) (fun _ _ _ _ _ => pts_nil) (fun _ _ _ _ _ => (pe_call G_fact_union hr_fact_union (by rfl) T.g_fact_union T.F_fact_union.kp T.b_fact_union .nil pass0 (pa_cons (pe_ix (show IxR _ (rIxT K) from ix_tup) (pv 0) (pv 3) (fun _ _ => rfl)) (pa_cons (pe_ix (show IxR _ (rIxT K) from ix_tup) (pv 1) (pv 3) (fun _ _ => rfl)) pa_nil)))))
        (pss_one (ps_ret (pe_tup (StX.pa_star (pv 2) (pa_cons (pe_call G_joined_flow hr_joined_flow (by rfl) T.g_joined_flow T.F_joined_flow.kp T.b_joined_flow .nil pass0 (pa_cons (pe_tup (pa_cons (pe_ix ix_tup (pv 0) (pe_glob rfl T.g_CARRY T.r_CARRY) (fun _ _ => rfl)) (pa_cons (pe_ix ix_tup (pv 1) (pe_glob rfl T.g_CARRY T.r_CARRY) (fun _ _ => rfl)) pa_nil))) pa_nil)) pa_nil)))))), ?_⟩
    obtain ⟨xs, x1, x2, x3, x4⟩ := h1.at_
    obtain ⟨ys, y1, y2, y3, y4⟩ := h2.at_
    have hfl : fs.length = 16 := h1.choose_spec.2.2
    have hgl : gs.length = 16 := h2.choose_spec.2.2
    (repeat (first | refine ⟨_, rfl, ?_⟩ | refine ⟨_, _, rfl, rfl, ?_⟩ | refine ⟨rfl, ?_⟩ | refine .inl ⟨_, rfl, ?_⟩ | refine .inr ⟨_, rfl, ?_⟩ | refine ⟨.inr ⟨by decide, by decide⟩, ?_⟩ | refine ⟨⟨by decide, by decide⟩, ?_⟩ | refine ⟨⟨by decide, by decide, by decide⟩, ?_⟩ | refine ⟨.inr ⟨by omega, by omega⟩, ?_⟩ | refine ⟨(by show (0 : Int) < _; first | decide | omega), ?_⟩ | refine ⟨Nat.le_trans (Nat.le_of_ble_eq_true rfl : _ ≤ 50) (by decide), ?_⟩ | refine ⟨_, _, _, _, rfl, rfl, upd_same, rfl, ?_⟩ | refine ⟨_, _, _, _, rfl, rfl, SqL.of upd_same, rfl, ?_⟩ | refine ⟨_, _, _, _, rfl, rfl, SqT.of upd_same, rfl, ?_⟩ | refine ⟨_, _, rfl, .inl (SqL.of upd_same), ?_⟩ | refine ⟨_, _, rfl, .inr (SqT.of upd_same), ?_⟩ | (refine' ⟨_, _, _, _, rfl, rfl, _, _, _⟩; rotate_left 2; (focus (first | assumption | exact SqL.of (by assumption) | exact SqT.of (by assumption) | exact Same.seq (by assumption) (by assumption))); (focus (exact rfl))) | (refine' ⟨_, _, rfl, _, _⟩; rotate_left 1; (focus (first | exact .inl (by assumption) | exact .inl (SqL.of (by assumption)) | exact .inr (by assumption) | exact .inr (SqT.of (by assumption)))))))
    have hW : ∀ D, H D = none → Wt P1 P2 H0 (upd H D (.lst [])) ((D, .lst []) :: L) := fun D hD => o.add hD
    refine ⟨by decide, by decide, fun D hD => lc_range (lo := 0) (n := 16) (fun k H => ∃ (M : List (Addr × HO)) (rs : List Addr), Wt P1 P2 H0 H (((D, HO.lst (rs.map V.ref)) :: M) ++ L) ∧ Paired (fun r f => TupAt K M r (Fa.row f)) rs (List.zipWith uF (fs.take k) (gs.take k)) ∧ rs.length = k) ⟨[], [], hW D hD, by rw [List.take_zero, List.take_zero]; exact .nil, rfl⟩ ?_ ?_⟩
    · rintro i H5 hi ⟨M, rs, o5, hp, hl⟩
      have hif : fs[i]? = some (fs[i]'(by omega)) := List.getElem?_eq_getElem (by omega)
      have hig : gs[i]? = some (gs[i]'(by omega)) := List.getElem?_eq_getElem (by omega)
      obtain ⟨r1, hr1, t1⟩ := x2 i _ hif
      obtain ⟨r2, hr2, t2⟩ := y2 i _ hig
      have hL5 : ∀ q ∈ L, H5 q.1 = some q.2 := fun q hq => o5.mem (List.mem_append_right _ hq)
      have hi0 : ∀ (zs : List V) (v : V), zs[i]? = some v → atI zs (0 + (i : Int)) = some v := fun zs v h => by
        rw [Int.zero_add]
        exact atI_nat h
      have o5' := o5
      obtain ⟨w1, w2, _, _, ob⟩ := o5'
      have mo : ∀ q ∈ L, q ∈ ((D, .lst (rs.map V.ref)) :: M ++ L) := fun q hq => List.mem_append_right _ hq
      refine ⟨rfl, ?_⟩
      unfold tYes
      dsimp only
      rw [if_pos rfl]
      refine ⟨_, rfl, _, rfl, a, _, _, _, rfl, rfl, x1.sq hL5, hi0 _ _ hr1, _, rfl, _, rfl, b, _, _, _, rfl, rfl, y1.sq hL5, hi0 _ _ hr2, ?_⟩
      dsimp only [tCons, tC, tNil]
      refine ⟨H0, _, r1, r2, _, _, rfl, ob, t1.mono mo, t2.mono mo, fun u H7 s7 hu e7 => ?_⟩
      have o7 := o5.push hu s7 e7
      have o8 := o7.put (u' := .lst (rs.map V.ref ++ [.ref u])) 1 rfl
      refine ⟨rs.map V.ref, o7.mem (q := (D, .lst (rs.map V.ref))) (by simp), Nat.lt_of_le_of_lt (show (rs.map V.ref).length ≤ 16 by rw [List.length_map]; omega) (by show 16 < sizeLine; decide), (u, .tup (Fa.row (uF (fs[i]'(by omega)) (gs[i]'(by omega))))) :: M, rs ++ [u], ?_, ?_, by rw [List.length_append, hl]; rfl⟩
      · rw [List.map_append]
        exact o8.perm (.swap _ _ _)
      · rw [zip_take hif hig]
        exact paired_app (paired_imp (fun _ _ z => z.mono fun q hq => List.mem_cons_of_mem _ hq) hp) (.cons (.inl (List.mem_cons_self ..)) .nil)
    · rintro H5 ⟨M, rs, o5, hp, hl⟩
      rw [List.take_of_length_le (by omega), List.take_of_length_le (by omega)] at hp
      have hL5 : ∀ q ∈ L, H5 q.1 = some q.2 := fun q hq => o5.mem (List.mem_append_right _ hq)
      (repeat (first | refine ⟨_, rfl, ?_⟩ | refine ⟨_, _, rfl, rfl, ?_⟩ | refine ⟨rfl, ?_⟩ | refine .inl ⟨_, rfl, ?_⟩ | refine .inr ⟨_, rfl, ?_⟩ | refine ⟨.inr ⟨by decide, by decide⟩, ?_⟩ | refine ⟨⟨by decide, by decide⟩, ?_⟩ | refine ⟨⟨by decide, by decide, by decide⟩, ?_⟩ | refine ⟨.inr ⟨by omega, by omega⟩, ?_⟩ | refine ⟨(by show (0 : Int) < _; first | decide | omega), ?_⟩ | refine ⟨Nat.le_trans (Nat.le_of_ble_eq_true rfl : _ ≤ 50) (by decide), ?_⟩ | refine ⟨_, _, _, _, rfl, rfl, upd_same, rfl, ?_⟩ | refine ⟨_, _, _, _, rfl, rfl, SqL.of upd_same, rfl, ?_⟩ | refine ⟨_, _, _, _, rfl, rfl, SqT.of upd_same, rfl, ?_⟩ | refine ⟨_, _, rfl, .inl (SqL.of upd_same), ?_⟩ | refine ⟨_, _, rfl, .inr (SqT.of upd_same), ?_⟩ | (refine' ⟨_, _, _, _, rfl, rfl, _, _, _⟩; rotate_left 2; (focus (first | assumption | exact SqL.of (by assumption) | exact SqT.of (by assumption) | exact Same.seq (by assumption) (by assumption))); (focus (exact rfl))) | (refine' ⟨_, _, rfl, _, _⟩; rotate_left 1; (focus (first | exact .inl (by assumption) | exact .inl (SqL.of (by assumption)) | exact .inr (by assumption) | exact .inr (SqT.of (by assumption)))))))
      refine ⟨D, _, rfl, .inr (SqL.of (o5.mem (q := (D, .lst (rs.map V.ref))) (by simp))), ?_⟩
      have k1 := x1.sq hL5
      have k2 := y1.sq hL5
      refine ⟨_, rfl, a, _, _, _, rfl, rfl, k1, atI_nat (j := 16) x3, _, rfl, b, _, _, _, rfl, rfl, k2, atI_nat (j := 16) y3, ?_⟩
      refine ⟨by show 2 ≤ sizeLine; decide, fun x hx => ?_⟩
      have o6 := o5.add (u := .tup [.str (fl c), .str (fl d)]) hx
      dsimp only [tCons, tC, tNil]
      refine ⟨x, [c, d], c || d, rfl, .inr (SqT.of upd_same), by cases c <;> cases d <;> rfl, ?_⟩
      refine ⟨Nat.le_trans (show (rs.map V.ref ++ [V.str (fl (c || d))]).length ≤ 17 by rw [List.length_append, List.length_map, hl]; exact Nat.le_refl _) (by show 17 ≤ sizeLine; decide), fun u hu => ?_⟩
      have o7 := o6.add (u := .tup (rs.map V.ref ++ [.str (fl (c || d))])) hu
      refine q u _ _ ⟨_, rfl⟩ (show Wt P1 P2 H0 _ ([(u, .tup (rs.map V.ref ++ [.str (fl (c || d))])), (x, .tup [.str (fl c), .str (fl d)]), (D, .lst (rs.map V.ref))] ++ M ++ L) from o7) ⟨rs, .inl (List.mem_cons_self ..), paired_imp (fun _ _ z => z.mono fun q hq => by simp [hq]) hp, by rw [List.length_zipWith, hfl, hgl]; rfl⟩
end
end K70

set_option Elab.async false
set_option linter.all false
set_option maxRecDepth 100000
set_option maxHeartbeats 4000000
namespace K70
open PySem PySem.Spec PyProof.Rows L2 Lw GxR WD
/-! ### the law's helpers: sources, words, facts, states -/
def Fa.ok (f : Fa) : Prop := 0 ≤ f.lo ∧ f.lo ≤ f.hi ∧ f.hi ≤ 65535 ∧ ((f.cell = -1 ∧ f.plus = 0) ∨ (0 ≤ f.cell ∧ f.cell ≤ 4095 ∧ 0 ≤ f.plus ∧ f.plus ≤ 65535))
def spWord (P1 P2 : Addr) : Sp := fun vs H Q _ => ∃ H0 p L, vs = [.ref p] ∧ Wd P1 P2 H0 H p L ∧ ∀ v H', 0 ≤ v → v ≤ 65535 → Wd P1 P2 H0 H' p L → Q (.int v) H'
def spFactMk (P1 P2 : Addr) : Sp := fun vs H Q _ => ∃ H0 p L, vs = [.ref p] ∧ Wd P1 P2 H0 H p L ∧ ∀ r f H', Fa.ok f → Wd P1 P2 H0 H' p ((r, .tup (Fa.row f)) :: L) → Q (.ref r) H'
def spStMk (K : PySem.W.Frag) (P1 P2 : Addr) : Sp := fun vs H Q _ => ∃ H0 p L, vs = [.ref p] ∧ Wd P1 P2 H0 H p L ∧ ∀ a fs c N H', L <:+ N → Wd P1 P2 H0 H' p N → StAt K N a fs c → (∀ f ∈ fs, Fa.ok f) → Q (.ref a) H'
/-- one of the items, told by an index -/
theorem at_all {l : List Int} {i : Int} {R : Int → Prop} (h0 : 0 ≤ i) (h1 : i < l.length) (h : ∀ x ∈ l, R x) : ∃ x, R x ∧ atI (l.map V.int) i = some (.int x) := by
  obtain ⟨x, hx, e⟩ := at_map V.int h0 h1
  exact ⟨x, h x hx, e⟩
theorem pick {K : PySem.W.Frag} {P1 P2 : Addr} {H0 H : Hp} {p l : Addr} {L : List (Addr × HO)} {Q : VK} {is : List Int} {i : Int} (R : Int → Prop) (o : Wd P1 P2 H0 H p ((l, HO.lst (is.map V.int)) :: L)) (h0 : 0 ≤ i) (h1 : i < is.length) (hR : ∀ x ∈ is, R x) (q : ∀ x, R x → Wd P1 P2 H0 H p L → Q (.int x) H) : rIxL K (.ref l) (.int i) H Q := by
  obtain ⟨x, hx, e⟩ := at_all h0 h1 hR
  exact ⟨l, _, _, _, rfl, rfl, SqL.of (o.mem (List.mem_cons_self ..)), e, q x hx (o.sub (List.sublist_cons_self _ _))⟩
theorem pickS {K : PySem.W.Frag} {P1 P2 : Addr} {H0 H : Hp} {p l : Addr} {L : List (Addr × HO)} {Q : VK} {i : Int} (o : Wd P1 P2 H0 H p ((l, HO.lst [.str "public", .str "secret"]) :: L)) (h0 : 0 ≤ i) (h1 : i < 2) (q : ∀ b, Wd P1 P2 H0 H p L → Q (.str (fl b)) H) : rIxL K (.ref l) (.int i) H Q := by
  obtain ⟨x, hx, e⟩ := at_map (fun b => V.str (fl b)) (l := [false, true]) h0 h1
  exact ⟨l, _, _, _, rfl, rfl, SqL.of (o.mem (List.mem_cons_self ..)), e, q x (o.sub (List.sublist_cons_self _ _))⟩
theorem forall_cons {R : Int → Prop} {x : Int} {l : List Int} (h : R x) (t : ∀ y ∈ l, R y) : ∀ y ∈ x :: l, R y := fun y hy => by
  rcases List.mem_cons.mp hy with z | z
  · rw [z]; exact h
  · exact t y z
section
variable {P : Program} {w : World} {K : PySem.W.Frag} {mg : Str → Option Value} {base : Heap} {P1 P2 : Addr}
theorem ok_source (T : Tx K mg) : FnOk P w K mg base CX0 1 T.a_law_source T.d_law_source ["script", "k"] (spSource K) := by
  refine T.F_law_source.ok sc_law_source (fun vs H Q E h => ?_) (fun cdv A outer s H vs Q E hr h => ?_)
  · obtain ⟨a, ns, k, rfl, _⟩ := h
    rfl
  · obtain ⟨a, ns, k, rfl, hS, hl, hk, q⟩ := h
    refine ⟨_, (pss_cons (ps_set (i := 2) sc_law_source.nd rfl (.inl rfl) pe_int)
        (pss_cons (ps_if (pt_cmpR op_gt (pe_callB call_len_seq (by rfl) T.z_len (by decide +kernel) (pa_cons (pv 0) pa_nil)) pe_int (nomark _))
        (pss_one (ps_set (i := 2) sc_law_source.nd rfl (.inl rfl) (pe_callB call_abs (by rfl) T.z_abs (by decide +kernel) (pa_cons (pe_ix ix_list (pv 0) (pe_op op_mod (pv 1) (pe_callB call_len_seq (by rfl) T.z_len (by decide +kernel) (pa_cons (pv 0) pa_nil))) (fun _ _ => rfl)) pa_nil))))
        pss_nil)
        (pss_cons (ps_set (i := 3) sc_law_source.nd rfl (.inl rfl) (pe_op op_mod (pe_callTy call_int1 (by rfl) T.z_int (by decide +kernel) (pa_cons (pe_op op_add (pe_op op_add (pe_op op_mul (pv 2) pe_int) (pe_op op_mul (pv 1) pe_int)) pe_int) pa_nil)) pe_int))
        (pss_cons (ps_if (pt_cmpR op_lt (pv 2) (pe_op op_pow pe_int pe_int) (nomark _))
        (pss_one (ps_ret (pe_lst (pa_cons pe_int (pa_cons (pv 3) pa_nil)))))
        pss_nil)
        (pss_one (ps_ret (pe_lst (pa_cons (pv 2) (pa_cons (pv 3) pa_nil))))))))), ?_⟩
    refine ⟨.ref a, rfl, a, _, rfl, .inl hS, _, _, rfl, rfl, _, rfl, ite2 (fun e => ?_) (fun e => ?_)⟩
    · have e1 : (0 : Int) < ((ns.map V.int).length : Int) := of_decide_eq_true e
      have hm : 0 ≤ k % ((ns.map V.int).length : Int) := Int.emod_nonneg _ (by omega)
      have hm2 : k % ((ns.map V.int).length : Int) < (ns.length : Int) := by
        have := Int.emod_lt_of_pos k e1
        rw [List.length_map] at this ⊢
        exact this
      obtain ⟨z, hz⟩ := at_int hm hm2
      refine ⟨.ref a, rfl, .int k, rfl, .ref a, rfl, a, _, rfl, .inl hS, _, _, rfl, rfl, e1, a, _, _, _, rfl, rfl, hS, hz, _, rfl, ?_⟩
      have hc : 0 ≤ (if z < 0 then -z else z) := by split <;> omega
      generalize (if z < 0 then -z else z) = c at hc
      (repeat (first | refine ⟨_, rfl, ?_⟩ | refine ⟨_, _, rfl, rfl, ?_⟩ | refine ⟨rfl, ?_⟩ | refine .inl ⟨_, rfl, ?_⟩ | refine .inr ⟨_, rfl, ?_⟩ | refine ⟨.inr ⟨by decide, by decide⟩, ?_⟩ | refine ⟨⟨by decide, by decide⟩, ?_⟩ | refine ⟨⟨by decide, by decide, by decide⟩, ?_⟩ | refine ⟨.inr ⟨by omega, by omega⟩, ?_⟩ | refine ⟨(by show (0 : Int) < _; first | decide | omega), ?_⟩ | refine ⟨Nat.le_trans (Nat.le_of_ble_eq_true rfl : _ ≤ 50) (by decide), ?_⟩ | refine ⟨_, _, _, _, rfl, rfl, upd_same, rfl, ?_⟩ | refine ⟨_, _, _, _, rfl, rfl, SqL.of upd_same, rfl, ?_⟩ | refine ⟨_, _, _, _, rfl, rfl, SqT.of upd_same, rfl, ?_⟩ | refine ⟨_, _, rfl, .inl (SqL.of upd_same), ?_⟩ | refine ⟨_, _, rfl, .inr (SqT.of upd_same), ?_⟩ | (refine' ⟨_, _, _, _, rfl, rfl, _, _, _⟩; rotate_left 2; (focus (first | assumption | exact SqL.of (by assumption) | exact SqT.of (by assumption) | exact Same.seq (by assumption) (by assumption))); (focus (exact rfl))) | (refine' ⟨_, _, rfl, _, _⟩; rotate_left 1; (focus (first | exact .inl (by assumption) | exact .inl (SqL.of (by assumption)) | exact .inr (by assumption) | exact .inr (SqT.of (by assumption)))))))
      refine ite2 (fun _ => ?_) (fun _ => ?_)
      · (repeat (first | refine ⟨_, rfl, ?_⟩ | refine ⟨_, _, rfl, rfl, ?_⟩ | refine ⟨rfl, ?_⟩ | refine .inl ⟨_, rfl, ?_⟩ | refine .inr ⟨_, rfl, ?_⟩ | refine ⟨.inr ⟨by decide, by decide⟩, ?_⟩ | refine ⟨⟨by decide, by decide⟩, ?_⟩ | refine ⟨⟨by decide, by decide, by decide⟩, ?_⟩ | refine ⟨.inr ⟨by omega, by omega⟩, ?_⟩ | refine ⟨(by show (0 : Int) < _; first | decide | omega), ?_⟩ | refine ⟨Nat.le_trans (Nat.le_of_ble_eq_true rfl : _ ≤ 50) (by decide), ?_⟩ | refine ⟨_, _, _, _, rfl, rfl, upd_same, rfl, ?_⟩ | refine ⟨_, _, _, _, rfl, rfl, SqL.of upd_same, rfl, ?_⟩ | refine ⟨_, _, _, _, rfl, rfl, SqT.of upd_same, rfl, ?_⟩ | refine ⟨_, _, rfl, .inl (SqL.of upd_same), ?_⟩ | refine ⟨_, _, rfl, .inr (SqT.of upd_same), ?_⟩ | (refine' ⟨_, _, _, _, rfl, rfl, _, _, _⟩; rotate_left 2; (focus (first | assumption | exact SqL.of (by assumption) | exact SqT.of (by assumption) | exact Same.seq (by assumption) (by assumption))); (focus (exact rfl))) | (refine' ⟨_, _, rfl, _, _⟩; rotate_left 1; (focus (first | exact .inl (by assumption) | exact .inl (SqL.of (by assumption)) | exact .inr (by assumption) | exact .inr (SqT.of (by assumption)))))))
        exact fun p hp => q p _ _ hp (by omega)
      · (repeat (first | refine ⟨_, rfl, ?_⟩ | refine ⟨_, _, rfl, rfl, ?_⟩ | refine ⟨rfl, ?_⟩ | refine .inl ⟨_, rfl, ?_⟩ | refine .inr ⟨_, rfl, ?_⟩ | refine ⟨.inr ⟨by decide, by decide⟩, ?_⟩ | refine ⟨⟨by decide, by decide⟩, ?_⟩ | refine ⟨⟨by decide, by decide, by decide⟩, ?_⟩ | refine ⟨.inr ⟨by omega, by omega⟩, ?_⟩ | refine ⟨(by show (0 : Int) < _; first | decide | omega), ?_⟩ | refine ⟨Nat.le_trans (Nat.le_of_ble_eq_true rfl : _ ≤ 50) (by decide), ?_⟩ | refine ⟨_, _, _, _, rfl, rfl, upd_same, rfl, ?_⟩ | refine ⟨_, _, _, _, rfl, rfl, SqL.of upd_same, rfl, ?_⟩ | refine ⟨_, _, _, _, rfl, rfl, SqT.of upd_same, rfl, ?_⟩ | refine ⟨_, _, rfl, .inl (SqL.of upd_same), ?_⟩ | refine ⟨_, _, rfl, .inr (SqT.of upd_same), ?_⟩ | (refine' ⟨_, _, _, _, rfl, rfl, _, _, _⟩; rotate_left 2; (focus (first | assumption | exact SqL.of (by assumption) | exact SqT.of (by assumption) | exact Same.seq (by assumption) (by assumption))); (focus (exact rfl))) | (refine' ⟨_, _, rfl, _, _⟩; rotate_left 1; (focus (first | exact .inl (by assumption) | exact .inl (SqL.of (by assumption)) | exact .inr (by assumption) | exact .inr (SqT.of (by assumption)))))))
        exact fun p hp => q p _ _ hp (by omega)
    · (repeat (first | refine ⟨_, rfl, ?_⟩ | refine ⟨_, _, rfl, rfl, ?_⟩ | refine ⟨rfl, ?_⟩ | refine .inl ⟨_, rfl, ?_⟩ | refine .inr ⟨_, rfl, ?_⟩ | refine ⟨.inr ⟨by decide, by decide⟩, ?_⟩ | refine ⟨⟨by decide, by decide⟩, ?_⟩ | refine ⟨⟨by decide, by decide, by decide⟩, ?_⟩ | refine ⟨.inr ⟨by omega, by omega⟩, ?_⟩ | refine ⟨(by show (0 : Int) < _; first | decide | omega), ?_⟩ | refine ⟨Nat.le_trans (Nat.le_of_ble_eq_true rfl : _ ≤ 50) (by decide), ?_⟩ | refine ⟨_, _, _, _, rfl, rfl, upd_same, rfl, ?_⟩ | refine ⟨_, _, _, _, rfl, rfl, SqL.of upd_same, rfl, ?_⟩ | refine ⟨_, _, _, _, rfl, rfl, SqT.of upd_same, rfl, ?_⟩ | refine ⟨_, _, rfl, .inl (SqL.of upd_same), ?_⟩ | refine ⟨_, _, rfl, .inr (SqT.of upd_same), ?_⟩ | (refine' ⟨_, _, _, _, rfl, rfl, _, _, _⟩; rotate_left 2; (focus (first | assumption | exact SqL.of (by assumption) | exact SqT.of (by assumption) | exact Same.seq (by assumption) (by assumption))); (focus (exact rfl))) | (refine' ⟨_, _, rfl, _, _⟩; rotate_left 1; (focus (first | exact .inl (by assumption) | exact .inl (SqL.of (by assumption)) | exact .inr (by assumption) | exact .inr (SqT.of (by assumption)))))))
      exact fun p hp => q p _ _ hp (by omega)
theorem ok_draw (T : Tx K mg) : FnOk P w K mg base CX0 1 T.a_law_draw T.d_law_draw ["source", "many"] spDraw := by
  refine T.F_law_draw.ok sc_law_draw (fun vs H Q E h => ?_) (fun cdv A outer s H vs Q E hr h => ?_)
  · obtain ⟨p, x, y, m, rfl, _⟩ := h
    rfl
  · obtain ⟨p, x, y, m, rfl, hp, hx, hm, hm2, q⟩ := h
    refine ⟨_, (pss_cons (ps_if (pt_cmpR op_gt (pe_ix ix_list (pv 0) pe_int (fun _ _ => rfl)) pe_int (nomark _))
        (pss_cons (ps_set (i := 2) sc_law_draw.nd rfl (.inl rfl) (pe_op op_mod (pe_callTy call_int1 (by rfl) T.z_int (by decide +kernel) (pa_cons (pe_ix ix_list (pv 0) pe_int (fun _ _ => rfl)) pa_nil)) (pv 1)))
        (pss_cons (ps_asg (pe_op op_fdiv (pe_ix ix_list (pv 0) pe_int (fun _ _ => rfl)) (pv 1)) (pg_sub (pv 0) pe_int set_list))
        (pss_one (ps_ret (pv 2)))))
        pss_nil)
        (pss_cons (ps_asg (pe_op op_mod (pe_callTy call_int1 (by rfl) T.z_int (by decide +kernel) (pa_cons (pe_op op_add (pe_op op_mul (pe_ix ix_list (pv 0) pe_int (fun _ _ => rfl)) pe_int) pe_int) pa_nil)) pe_int) (pg_sub (pv 0) pe_int set_list))
        (pss_one (ps_ret (pe_op op_mod (pe_op op_mod (pe_callTy call_int1 (by rfl) T.z_int (by decide +kernel) (pa_cons (pe_op op_add (pe_op op_mul (pe_op op_fdiv (pe_ix ix_list (pv 0) pe_int (fun _ _ => rfl)) pe_int) pe_int) (pe_op op_mul (pe_op op_mod (pe_ix ix_list (pv 0) pe_int (fun _ _ => rfl)) pe_int) pe_int)) pa_nil)) pe_int) (pv 1)))))), ?_⟩
    (repeat (first | refine ⟨_, rfl, ?_⟩ | refine ⟨_, _, rfl, rfl, ?_⟩ | refine ⟨rfl, ?_⟩ | refine .inl ⟨_, rfl, ?_⟩ | refine .inr ⟨_, rfl, ?_⟩ | refine ⟨.inr ⟨by decide, by decide⟩, ?_⟩ | refine ⟨⟨by decide, by decide⟩, ?_⟩ | refine ⟨⟨by decide, by decide, by decide⟩, ?_⟩ | refine ⟨.inr ⟨by omega, by omega⟩, ?_⟩ | refine ⟨(by show (0 : Int) < _; first | decide | omega), ?_⟩ | refine ⟨Nat.le_trans (Nat.le_of_ble_eq_true rfl : _ ≤ 50) (by decide), ?_⟩ | refine ⟨_, _, _, _, rfl, rfl, upd_same, rfl, ?_⟩ | refine ⟨_, _, _, _, rfl, rfl, SqL.of upd_same, rfl, ?_⟩ | refine ⟨_, _, _, _, rfl, rfl, SqT.of upd_same, rfl, ?_⟩ | refine ⟨_, _, rfl, .inl (SqL.of upd_same), ?_⟩ | refine ⟨_, _, rfl, .inr (SqT.of upd_same), ?_⟩ | (refine' ⟨_, _, _, _, rfl, rfl, _, _, _⟩; rotate_left 2; (focus (first | assumption | exact SqL.of (by assumption) | exact SqT.of (by assumption) | exact Same.seq (by assumption) (by assumption))); (focus (exact rfl))) | (refine' ⟨_, _, rfl, _, _⟩; rotate_left 1; (focus (first | exact .inl (by assumption) | exact .inl (SqL.of (by assumption)) | exact .inr (by assumption) | exact .inr (SqT.of (by assumption)))))))
    refine ite2 (fun e => ?_) (fun e => ?_)
    · (repeat (first | refine ⟨_, rfl, ?_⟩ | refine ⟨_, _, rfl, rfl, ?_⟩ | refine ⟨rfl, ?_⟩ | refine .inl ⟨_, rfl, ?_⟩ | refine .inr ⟨_, rfl, ?_⟩ | refine ⟨.inr ⟨by decide, by decide⟩, ?_⟩ | refine ⟨⟨by decide, by decide⟩, ?_⟩ | refine ⟨⟨by decide, by decide, by decide⟩, ?_⟩ | refine ⟨.inr ⟨by omega, by omega⟩, ?_⟩ | refine ⟨(by show (0 : Int) < _; first | decide | omega), ?_⟩ | refine ⟨Nat.le_trans (Nat.le_of_ble_eq_true rfl : _ ≤ 50) (by decide), ?_⟩ | refine ⟨_, _, _, _, rfl, rfl, upd_same, rfl, ?_⟩ | refine ⟨_, _, _, _, rfl, rfl, SqL.of upd_same, rfl, ?_⟩ | refine ⟨_, _, _, _, rfl, rfl, SqT.of upd_same, rfl, ?_⟩ | refine ⟨_, _, rfl, .inl (SqL.of upd_same), ?_⟩ | refine ⟨_, _, rfl, .inr (SqT.of upd_same), ?_⟩ | (refine' ⟨_, _, _, _, rfl, rfl, _, _, _⟩; rotate_left 2; (focus (first | assumption | exact SqL.of (by assumption) | exact SqT.of (by assumption) | exact Same.seq (by assumption) (by assumption))); (focus (exact rfl))) | (refine' ⟨_, _, rfl, _, _⟩; rotate_left 1; (focus (first | exact .inl (by assumption) | exact .inl (SqL.of (by assumption)) | exact .inr (by assumption) | exact .inr (SqT.of (by assumption)))))))
      refine ⟨⟨hm, by omega⟩, ?_⟩
      (repeat (first | refine ⟨_, rfl, ?_⟩ | refine ⟨_, _, rfl, rfl, ?_⟩ | refine ⟨rfl, ?_⟩ | refine .inl ⟨_, rfl, ?_⟩ | refine .inr ⟨_, rfl, ?_⟩ | refine ⟨.inr ⟨by decide, by decide⟩, ?_⟩ | refine ⟨⟨by decide, by decide⟩, ?_⟩ | refine ⟨⟨by decide, by decide, by decide⟩, ?_⟩ | refine ⟨.inr ⟨by omega, by omega⟩, ?_⟩ | refine ⟨(by show (0 : Int) < _; first | decide | omega), ?_⟩ | refine ⟨Nat.le_trans (Nat.le_of_ble_eq_true rfl : _ ≤ 50) (by decide), ?_⟩ | refine ⟨_, _, _, _, rfl, rfl, upd_same, rfl, ?_⟩ | refine ⟨_, _, _, _, rfl, rfl, SqL.of upd_same, rfl, ?_⟩ | refine ⟨_, _, _, _, rfl, rfl, SqT.of upd_same, rfl, ?_⟩ | refine ⟨_, _, rfl, .inl (SqL.of upd_same), ?_⟩ | refine ⟨_, _, rfl, .inr (SqT.of upd_same), ?_⟩ | (refine' ⟨_, _, _, _, rfl, rfl, _, _, _⟩; rotate_left 2; (focus (first | assumption | exact SqL.of (by assumption) | exact SqT.of (by assumption) | exact Same.seq (by assumption) (by assumption))); (focus (exact rfl))) | (refine' ⟨_, _, rfl, _, _⟩; rotate_left 1; (focus (first | exact .inl (by assumption) | exact .inl (SqL.of (by assumption)) | exact .inr (by assumption) | exact .inr (SqT.of (by assumption)))))))
      exact q _ _ _ (Int.emod_nonneg _ (by omega)) (Int.emod_lt_of_pos _ hm) (Int.ediv_nonneg hx (by omega))
    · (repeat (first | refine ⟨_, rfl, ?_⟩ | refine ⟨_, _, rfl, rfl, ?_⟩ | refine ⟨rfl, ?_⟩ | refine .inl ⟨_, rfl, ?_⟩ | refine .inr ⟨_, rfl, ?_⟩ | refine ⟨.inr ⟨by decide, by decide⟩, ?_⟩ | refine ⟨⟨by decide, by decide⟩, ?_⟩ | refine ⟨⟨by decide, by decide, by decide⟩, ?_⟩ | refine ⟨.inr ⟨by omega, by omega⟩, ?_⟩ | refine ⟨(by show (0 : Int) < _; first | decide | omega), ?_⟩ | refine ⟨Nat.le_trans (Nat.le_of_ble_eq_true rfl : _ ≤ 50) (by decide), ?_⟩ | refine ⟨_, _, _, _, rfl, rfl, upd_same, rfl, ?_⟩ | refine ⟨_, _, _, _, rfl, rfl, SqL.of upd_same, rfl, ?_⟩ | refine ⟨_, _, _, _, rfl, rfl, SqT.of upd_same, rfl, ?_⟩ | refine ⟨_, _, rfl, .inl (SqL.of upd_same), ?_⟩ | refine ⟨_, _, rfl, .inr (SqT.of upd_same), ?_⟩ | (refine' ⟨_, _, _, _, rfl, rfl, _, _, _⟩; rotate_left 2; (focus (first | assumption | exact SqL.of (by assumption) | exact SqT.of (by assumption) | exact Same.seq (by assumption) (by assumption))); (focus (exact rfl))) | (refine' ⟨_, _, rfl, _, _⟩; rotate_left 1; (focus (first | exact .inl (by assumption) | exact .inl (SqL.of (by assumption)) | exact .inr (by assumption) | exact .inr (SqT.of (by assumption)))))))
      exact q _ _ _ (Int.emod_nonneg _ (by omega)) (Int.emod_lt_of_pos _ hm) hx
theorem ok_word (T : Tx K mg) : FnOk P w K mg base CX0 2 T.a_law_word T.d_law_word ["source"] (spWord P1 P2) := by
  have G_law_draw : FnOk P w K mg base CX0 1 T.a_law_draw T.d_law_draw ["source", "many"] spDraw := ok_draw T
  refine T.F_law_word.ok sc_law_word (fun vs H Q E h => ?_) (fun cdv A outer s H vs Q E hr h => ?_)
  · obtain ⟨H0, p, L, rfl, _⟩ := h
    rfl
  · obtain ⟨H0, p, L, rfl, o, q⟩ := h
    have hr_law_draw : Room 1 _ := hr
    refine ⟨_, (pss_one (ps_ret (pe_ix ix_list (pe_lst (pa_cons pe_int (pa_cons pe_int (pa_cons pe_int (pa_cons pe_int (pa_cons pe_int (pa_cons pe_int (pa_cons pe_int (pa_cons pe_int (pa_cons pe_int (pa_cons (pe_call G_law_draw hr_law_draw (by rfl) T.g_law_draw T.F_law_draw.kp T.b_law_draw .nil pass0 (pa_cons (pv 0) (pa_cons pe_int pa_nil))) pa_nil))))))))))) (pe_callB (call_min2 rfl) (by rfl) T.z_min (by decide +kernel) (pa_cons pe_int (pa_cons (pe_call G_law_draw hr_law_draw (by rfl) T.g_law_draw T.F_law_draw.kp T.b_law_draw .nil pass0 (pa_cons (pv 0) (pa_cons pe_int pa_nil))) pa_nil))) (fun _ _ => rfl)))), ?_⟩
    (repeat (first | refine ⟨_, rfl, ?_⟩ | refine ⟨_, _, rfl, rfl, ?_⟩ | refine ⟨rfl, ?_⟩ | refine .inl ⟨_, rfl, ?_⟩ | refine .inr ⟨_, rfl, ?_⟩ | refine ⟨.inr ⟨by decide, by decide⟩, ?_⟩ | refine ⟨⟨by decide, by decide⟩, ?_⟩ | refine ⟨⟨by decide, by decide, by decide⟩, ?_⟩ | refine ⟨.inr ⟨by omega, by omega⟩, ?_⟩ | refine ⟨(by show (0 : Int) < _; first | decide | omega), ?_⟩ | refine ⟨Nat.le_trans (Nat.le_of_ble_eq_true rfl : _ ≤ 50) (by decide), ?_⟩ | refine ⟨_, _, _, _, rfl, rfl, upd_same, rfl, ?_⟩ | refine ⟨_, _, _, _, rfl, rfl, SqL.of upd_same, rfl, ?_⟩ | refine ⟨_, _, _, _, rfl, rfl, SqT.of upd_same, rfl, ?_⟩ | refine ⟨_, _, rfl, .inl (SqL.of upd_same), ?_⟩ | refine ⟨_, _, rfl, .inr (SqT.of upd_same), ?_⟩ | (refine' ⟨_, _, _, _, rfl, rfl, _, _, _⟩; rotate_left 2; (focus (first | assumption | exact SqL.of (by assumption) | exact SqT.of (by assumption) | exact Same.seq (by assumption) (by assumption))); (focus (exact rfl))) | (refine' ⟨_, _, rfl, _, _⟩; rotate_left 1; (focus (first | exact .inl (by assumption) | exact .inl (SqL.of (by assumption)) | exact .inr (by assumption) | exact .inr (SqT.of (by assumption)))))))
    dsimp only [tCons, tC, tNil]
    refine o.draw (by decide) (by decide) fun v H1 v0 v1 o1 => ?_
    refine ⟨by show 10 ≤ sizeLine; decide, fun l hl => ?_⟩
    have o2 : Wd P1 P2 H0 (upd H1 l (.lst ([0, 1, 2, 255, 256, 32767, 32768, 65534, 65535, v].map V.int))) p ((l, .lst ([0, 1, 2, 255, 256, 32767, 32768, 65534, 65535, v].map V.int)) :: L) := o1.add hl
    refine ⟨_, rfl, ?_⟩
    dsimp only [tCons, tC, tNil]
    refine o2.draw (by decide) (by decide) fun d H2 d0 d1 o3 => ?_
    refine ⟨_, _, rfl, ?_⟩
    refine pick (fun x => 0 ≤ x ∧ x ≤ 65535) o3 (by split <;> omega) (by show _ < (10 : Int); split <;> omega) ?_ fun x hx o4 => q x _ hx.1 hx.2 o4
    intro x hx
    simp only [List.mem_cons, List.not_mem_nil, or_false] at hx
    rcases hx with rfl | rfl | rfl | rfl | rfl | rfl | rfl | rfl | rfl | rfl <;> omega
theorem ok_factmk (T : Tx K mg) : FnOk P w K mg base CX0 3 T.a_law_fact T.d_law_fact ["source"] (spFactMk P1 P2) := by
  have G_law_draw : FnOk P w K mg base CX0 1 T.a_law_draw T.d_law_draw ["source", "many"] spDraw := ok_draw T
  have G_law_word : FnOk P w K mg base CX0 2 T.a_law_word T.d_law_word ["source"] (spWord P1 P2) := ok_word T
  refine T.F_law_fact.ok sc_law_fact (fun vs H Q E h => ?_) (fun cdv A outer s H vs Q E hr h => ?_)
  · obtain ⟨H0, p, L, rfl, _⟩ := h
    rfl
  · obtain ⟨H0, p, L, rfl, o, q⟩ := h
    have hr_law_draw : Room 1 _ := hr.mono (by decide)
    have hr_law_word : Room 2 _ := hr
    refine ⟨_, (pss_cons (ps_set (i := 1) sc_law_fact.nd rfl (.inl rfl) (pe_call G_law_word hr_law_word (by rfl) T.g_law_word T.F_law_word.kp T.b_law_word .nil pass0 (pa_cons (pv 0) pa_nil)))
        (pss_cons (ps_set (i := 2) sc_law_fact.nd rfl (.inl rfl) (pe_call G_law_word hr_law_word (by rfl) T.g_law_word T.F_law_word.kp T.b_law_word .nil pass0 (pa_cons (pv 0) pa_nil)))
        (C8.pss_cut (ps_if (pt_cmpR op_eq (pe_call G_law_draw hr_law_draw (by rfl) T.g_law_draw T.F_law_draw.kp T.b_law_draw .nil pass0 (pa_cons (pv 0) (pa_cons pe_int pa_nil))) pe_int (nomark _))
        (pss_one (ps_set (i := 2) sc_law_fact.nd rfl (.inl rfl) (pv 1)))
        pss_nil)
        (C8.pss_cut (ps_if (pt_cmpR op_eq (pe_call G_law_draw hr_law_draw (by rfl) T.g_law_draw T.F_law_draw.kp T.b_law_draw .nil pass0 (pa_cons (pv 0) (pa_cons pe_int pa_nil))) pe_int (nomark _))
        (pss_cons (ps_set (i := 1) sc_law_fact.nd rfl (.inl rfl) (pe_call G_law_draw hr_law_draw (by rfl) T.g_law_draw T.F_law_draw.kp T.b_law_draw .nil pass0 (pa_cons (pv 0) (pa_cons pe_int pa_nil))))
        (pss_one (ps_set (i := 2) sc_law_fact.nd rfl (.inl rfl) (pe_op op_add (pv 1) (pe_call G_law_draw hr_law_draw (by rfl) T.g_law_draw T.F_law_draw.kp T.b_law_draw .nil pass0 (pa_cons (pv 0) (pa_cons pe_int pa_nil)))))))
        pss_nil)
        (pss_cons (ps_set (i := 3) sc_law_fact.nd rfl (.inl rfl) (pe_un un_neg pe_int))
        (pss_cons (ps_set (i := 4) sc_law_fact.nd rfl (.inl rfl) pe_int)
        (C8.pss_cut (ps_if (pt_cmpR op_eq (pe_call G_law_draw hr_law_draw (by rfl) T.g_law_draw T.F_law_draw.kp T.b_law_draw .nil pass0 (pa_cons (pv 0) (pa_cons pe_int pa_nil))) pe_int (nomark _))
        (pss_cons (ps_set (i := 3) sc_law_fact.nd rfl (.inl rfl) (pe_ix ix_list (pe_lst (pa_cons (pe_call G_law_draw hr_law_draw (by rfl) T.g_law_draw T.F_law_draw.kp T.b_law_draw .nil pass0 (pa_cons (pv 0) (pa_cons pe_int pa_nil))) (pa_cons (pe_call G_law_draw hr_law_draw (by rfl) T.g_law_draw T.F_law_draw.kp T.b_law_draw .nil pass0 (pa_cons (pv 0) (pa_cons pe_int pa_nil))) (pa_cons (pe_call G_law_draw hr_law_draw (by rfl) T.g_law_draw T.F_law_draw.kp T.b_law_draw .nil pass0 (pa_cons (pv 0) (pa_cons pe_int pa_nil))) pa_nil)))) (pe_call G_law_draw hr_law_draw (by rfl) T.g_law_draw T.F_law_draw.kp T.b_law_draw .nil pass0 (pa_cons (pv 0) (pa_cons pe_int pa_nil))) (fun _ _ => rfl)))
        (pss_one (ps_set (i := 4) sc_law_fact.nd rfl (.inl rfl) (pe_ix ix_list (pe_lst (pa_cons pe_int (pa_cons pe_int (pa_cons (pe_call G_law_draw hr_law_draw (by rfl) T.g_law_draw T.F_law_draw.kp T.b_law_draw .nil pass0 (pa_cons (pv 0) (pa_cons pe_int pa_nil))) (pa_cons (pe_call G_law_word hr_law_word (by rfl) T.g_law_word T.F_law_word.kp T.b_law_word .nil pass0 (pa_cons (pv 0) pa_nil)) pa_nil))))) (pe_call G_law_draw hr_law_draw (by rfl) T.g_law_draw T.F_law_draw.kp T.b_law_draw .nil pass0 (pa_cons (pv 0) (pa_cons pe_int pa_nil))) (fun _ _ => rfl)))))
        pss_nil)
        (pss_cons (ps_set (i := 5) sc_law_fact.nd rfl (.inl rfl) (pe_ix ix_list (pe_lst (pa_cons pe_str (pa_cons pe_str pa_nil))) (pe_call G_law_draw hr_law_draw (by rfl) T.g_law_draw T.F_law_draw.kp T.b_law_draw .nil pass0 (pa_cons (pv 0) (pa_cons pe_int pa_nil))) (fun _ _ => rfl)))
        (pss_one (ps_ret (pe_tup (pa_cons (pv 5) (pa_cons (pe_callB (call_min2 rfl) (by rfl) T.z_min (by decide +kernel) (pa_cons (pv 1) (pa_cons (pv 2) pa_nil))) (pa_cons (pe_callB (call_max2 rfl) (by rfl) T.z_max (by decide +kernel) (pa_cons (pv 1) (pa_cons (pv 2) pa_nil))) (pa_cons (pv 3) (pa_cons (pv 4) pa_nil)))))))))))))))), ?_⟩
    refine ⟨_, rfl, ?_⟩
    dsimp only [tCons, tC, tNil]
    refine ⟨H0, p, L, rfl, o, fun v1 H1 a0 a1 o1 => ?_⟩
    refine ⟨_, rfl, ?_⟩
    dsimp only [tCons, tC, tNil]
    refine ⟨H0, p, L, rfl, o1, fun v2 H2 b0 b1 o2 => ?_⟩
    refine ⟨fun σ H => ∃ a b : Int, σ = [some (.ref p), some (.int a), some (.int b), none, none, none] ∧ 0 ≤ a ∧ a ≤ 65535 ∧ 0 ≤ b ∧ b ≤ 65535 ∧ Wd P1 P2 H0 H p L, ?_, ?_⟩
    · (repeat (first | refine ⟨_, rfl, ?_⟩ | refine ⟨_, _, rfl, rfl, ?_⟩ | refine ⟨rfl, ?_⟩ | refine .inl ⟨_, rfl, ?_⟩ | refine .inr ⟨_, rfl, ?_⟩ | refine ⟨.inr ⟨by decide, by decide⟩, ?_⟩ | refine ⟨⟨by decide, by decide⟩, ?_⟩ | refine ⟨⟨by decide, by decide, by decide⟩, ?_⟩ | refine ⟨.inr ⟨by omega, by omega⟩, ?_⟩ | refine ⟨(by show (0 : Int) < _; first | decide | omega), ?_⟩ | refine ⟨Nat.le_trans (Nat.le_of_ble_eq_true rfl : _ ≤ 50) (by decide), ?_⟩ | refine ⟨_, _, _, _, rfl, rfl, upd_same, rfl, ?_⟩ | refine ⟨_, _, _, _, rfl, rfl, SqL.of upd_same, rfl, ?_⟩ | refine ⟨_, _, _, _, rfl, rfl, SqT.of upd_same, rfl, ?_⟩ | refine ⟨_, _, rfl, .inl (SqL.of upd_same), ?_⟩ | refine ⟨_, _, rfl, .inr (SqT.of upd_same), ?_⟩ | (refine' ⟨_, _, _, _, rfl, rfl, _, _, _⟩; rotate_left 2; (focus (first | assumption | exact SqL.of (by assumption) | exact SqT.of (by assumption) | exact Same.seq (by assumption) (by assumption))); (focus (exact rfl))) | (refine' ⟨_, _, rfl, _, _⟩; rotate_left 1; (focus (first | exact .inl (by assumption) | exact .inl (SqL.of (by assumption)) | exact .inr (by assumption) | exact .inr (SqT.of (by assumption)))))))
      dsimp only [tCons, tC, tNil]
      refine o2.draw (by decide) (by decide) fun d H3 _ _ o3 => ?_
      (repeat (first | refine ⟨_, rfl, ?_⟩ | refine ⟨_, _, rfl, rfl, ?_⟩ | refine ⟨rfl, ?_⟩ | refine .inl ⟨_, rfl, ?_⟩ | refine .inr ⟨_, rfl, ?_⟩ | refine ⟨.inr ⟨by decide, by decide⟩, ?_⟩ | refine ⟨⟨by decide, by decide⟩, ?_⟩ | refine ⟨⟨by decide, by decide, by decide⟩, ?_⟩ | refine ⟨.inr ⟨by omega, by omega⟩, ?_⟩ | refine ⟨(by show (0 : Int) < _; first | decide | omega), ?_⟩ | refine ⟨Nat.le_trans (Nat.le_of_ble_eq_true rfl : _ ≤ 50) (by decide), ?_⟩ | refine ⟨_, _, _, _, rfl, rfl, upd_same, rfl, ?_⟩ | refine ⟨_, _, _, _, rfl, rfl, SqL.of upd_same, rfl, ?_⟩ | refine ⟨_, _, _, _, rfl, rfl, SqT.of upd_same, rfl, ?_⟩ | refine ⟨_, _, rfl, .inl (SqL.of upd_same), ?_⟩ | refine ⟨_, _, rfl, .inr (SqT.of upd_same), ?_⟩ | (refine' ⟨_, _, _, _, rfl, rfl, _, _, _⟩; rotate_left 2; (focus (first | assumption | exact SqL.of (by assumption) | exact SqT.of (by assumption) | exact Same.seq (by assumption) (by assumption))); (focus (exact rfl))) | (refine' ⟨_, _, rfl, _, _⟩; rotate_left 1; (focus (first | exact .inl (by assumption) | exact .inl (SqL.of (by assumption)) | exact .inr (by assumption) | exact .inr (SqT.of (by assumption)))))))
      refine ite2 (fun _ => ?_) (fun _ => ?_)
      · (repeat (first | refine ⟨_, rfl, ?_⟩ | refine ⟨_, _, rfl, rfl, ?_⟩ | refine ⟨rfl, ?_⟩ | refine .inl ⟨_, rfl, ?_⟩ | refine .inr ⟨_, rfl, ?_⟩ | refine ⟨.inr ⟨by decide, by decide⟩, ?_⟩ | refine ⟨⟨by decide, by decide⟩, ?_⟩ | refine ⟨⟨by decide, by decide, by decide⟩, ?_⟩ | refine ⟨.inr ⟨by omega, by omega⟩, ?_⟩ | refine ⟨(by show (0 : Int) < _; first | decide | omega), ?_⟩ | refine ⟨Nat.le_trans (Nat.le_of_ble_eq_true rfl : _ ≤ 50) (by decide), ?_⟩ | refine ⟨_, _, _, _, rfl, rfl, upd_same, rfl, ?_⟩ | refine ⟨_, _, _, _, rfl, rfl, SqL.of upd_same, rfl, ?_⟩ | refine ⟨_, _, _, _, rfl, rfl, SqT.of upd_same, rfl, ?_⟩ | refine ⟨_, _, rfl, .inl (SqL.of upd_same), ?_⟩ | refine ⟨_, _, rfl, .inr (SqT.of upd_same), ?_⟩ | (refine' ⟨_, _, _, _, rfl, rfl, _, _, _⟩; rotate_left 2; (focus (first | assumption | exact SqL.of (by assumption) | exact SqT.of (by assumption) | exact Same.seq (by assumption) (by assumption))); (focus (exact rfl))) | (refine' ⟨_, _, rfl, _, _⟩; rotate_left 1; (focus (first | exact .inl (by assumption) | exact .inl (SqL.of (by assumption)) | exact .inr (by assumption) | exact .inr (SqT.of (by assumption)))))))
        exact ⟨v1, v1, rfl, a0, a1, a0, a1, o3⟩
      · exact ⟨v1, v2, rfl, a0, a1, b0, b1, o3⟩
    · clear o o1 o2 a0 a1 b0 b1
      rintro σ H ⟨a, b, rfl, a0, a1, b0, b1, o⟩
      refine ⟨fun σ H => ∃ a b : Int, σ = [some (.ref p), some (.int a), some (.int b), none, none, none] ∧ 0 ≤ a ∧ a ≤ 65535 ∧ 0 ≤ b ∧ b ≤ 65535 ∧ Wd P1 P2 H0 H p L, ?_, ?_⟩
      · (repeat (first | refine ⟨_, rfl, ?_⟩ | refine ⟨_, _, rfl, rfl, ?_⟩ | refine ⟨rfl, ?_⟩ | refine .inl ⟨_, rfl, ?_⟩ | refine .inr ⟨_, rfl, ?_⟩ | refine ⟨.inr ⟨by decide, by decide⟩, ?_⟩ | refine ⟨⟨by decide, by decide⟩, ?_⟩ | refine ⟨⟨by decide, by decide, by decide⟩, ?_⟩ | refine ⟨.inr ⟨by omega, by omega⟩, ?_⟩ | refine ⟨(by show (0 : Int) < _; first | decide | omega), ?_⟩ | refine ⟨Nat.le_trans (Nat.le_of_ble_eq_true rfl : _ ≤ 50) (by decide), ?_⟩ | refine ⟨_, _, _, _, rfl, rfl, upd_same, rfl, ?_⟩ | refine ⟨_, _, _, _, rfl, rfl, SqL.of upd_same, rfl, ?_⟩ | refine ⟨_, _, _, _, rfl, rfl, SqT.of upd_same, rfl, ?_⟩ | refine ⟨_, _, rfl, .inl (SqL.of upd_same), ?_⟩ | refine ⟨_, _, rfl, .inr (SqT.of upd_same), ?_⟩ | (refine' ⟨_, _, _, _, rfl, rfl, _, _, _⟩; rotate_left 2; (focus (first | assumption | exact SqL.of (by assumption) | exact SqT.of (by assumption) | exact Same.seq (by assumption) (by assumption))); (focus (exact rfl))) | (refine' ⟨_, _, rfl, _, _⟩; rotate_left 1; (focus (first | exact .inl (by assumption) | exact .inl (SqL.of (by assumption)) | exact .inr (by assumption) | exact .inr (SqT.of (by assumption)))))))
        dsimp only [tCons, tC, tNil]
        refine o.draw (by decide) (by decide) fun d H3 _ _ o3 => ?_
        (repeat (first | refine ⟨_, rfl, ?_⟩ | refine ⟨_, _, rfl, rfl, ?_⟩ | refine ⟨rfl, ?_⟩ | refine .inl ⟨_, rfl, ?_⟩ | refine .inr ⟨_, rfl, ?_⟩ | refine ⟨.inr ⟨by decide, by decide⟩, ?_⟩ | refine ⟨⟨by decide, by decide⟩, ?_⟩ | refine ⟨⟨by decide, by decide, by decide⟩, ?_⟩ | refine ⟨.inr ⟨by omega, by omega⟩, ?_⟩ | refine ⟨(by show (0 : Int) < _; first | decide | omega), ?_⟩ | refine ⟨Nat.le_trans (Nat.le_of_ble_eq_true rfl : _ ≤ 50) (by decide), ?_⟩ | refine ⟨_, _, _, _, rfl, rfl, upd_same, rfl, ?_⟩ | refine ⟨_, _, _, _, rfl, rfl, SqL.of upd_same, rfl, ?_⟩ | refine ⟨_, _, _, _, rfl, rfl, SqT.of upd_same, rfl, ?_⟩ | refine ⟨_, _, rfl, .inl (SqL.of upd_same), ?_⟩ | refine ⟨_, _, rfl, .inr (SqT.of upd_same), ?_⟩ | (refine' ⟨_, _, _, _, rfl, rfl, _, _, _⟩; rotate_left 2; (focus (first | assumption | exact SqL.of (by assumption) | exact SqT.of (by assumption) | exact Same.seq (by assumption) (by assumption))); (focus (exact rfl))) | (refine' ⟨_, _, rfl, _, _⟩; rotate_left 1; (focus (first | exact .inl (by assumption) | exact .inl (SqL.of (by assumption)) | exact .inr (by assumption) | exact .inr (SqT.of (by assumption)))))))
        refine ite2 (fun _ => ?_) (fun _ => ?_)
        · (repeat (first | refine ⟨_, rfl, ?_⟩ | refine ⟨_, _, rfl, rfl, ?_⟩ | refine ⟨rfl, ?_⟩ | refine .inl ⟨_, rfl, ?_⟩ | refine .inr ⟨_, rfl, ?_⟩ | refine ⟨.inr ⟨by decide, by decide⟩, ?_⟩ | refine ⟨⟨by decide, by decide⟩, ?_⟩ | refine ⟨⟨by decide, by decide, by decide⟩, ?_⟩ | refine ⟨.inr ⟨by omega, by omega⟩, ?_⟩ | refine ⟨(by show (0 : Int) < _; first | decide | omega), ?_⟩ | refine ⟨Nat.le_trans (Nat.le_of_ble_eq_true rfl : _ ≤ 50) (by decide), ?_⟩ | refine ⟨_, _, _, _, rfl, rfl, upd_same, rfl, ?_⟩ | refine ⟨_, _, _, _, rfl, rfl, SqL.of upd_same, rfl, ?_⟩ | refine ⟨_, _, _, _, rfl, rfl, SqT.of upd_same, rfl, ?_⟩ | refine ⟨_, _, rfl, .inl (SqL.of upd_same), ?_⟩ | refine ⟨_, _, rfl, .inr (SqT.of upd_same), ?_⟩ | (refine' ⟨_, _, _, _, rfl, rfl, _, _, _⟩; rotate_left 2; (focus (first | assumption | exact SqL.of (by assumption) | exact SqT.of (by assumption) | exact Same.seq (by assumption) (by assumption))); (focus (exact rfl))) | (refine' ⟨_, _, rfl, _, _⟩; rotate_left 1; (focus (first | exact .inl (by assumption) | exact .inl (SqL.of (by assumption)) | exact .inr (by assumption) | exact .inr (SqT.of (by assumption)))))))
          dsimp only [tCons, tC, tNil]
          refine o3.draw (by decide) (by decide) fun x H4 x0 x1 o4 => ?_
          (repeat (first | refine ⟨_, rfl, ?_⟩ | refine ⟨_, _, rfl, rfl, ?_⟩ | refine ⟨rfl, ?_⟩ | refine .inl ⟨_, rfl, ?_⟩ | refine .inr ⟨_, rfl, ?_⟩ | refine ⟨.inr ⟨by decide, by decide⟩, ?_⟩ | refine ⟨⟨by decide, by decide⟩, ?_⟩ | refine ⟨⟨by decide, by decide, by decide⟩, ?_⟩ | refine ⟨.inr ⟨by omega, by omega⟩, ?_⟩ | refine ⟨(by show (0 : Int) < _; first | decide | omega), ?_⟩ | refine ⟨Nat.le_trans (Nat.le_of_ble_eq_true rfl : _ ≤ 50) (by decide), ?_⟩ | refine ⟨_, _, _, _, rfl, rfl, upd_same, rfl, ?_⟩ | refine ⟨_, _, _, _, rfl, rfl, SqL.of upd_same, rfl, ?_⟩ | refine ⟨_, _, _, _, rfl, rfl, SqT.of upd_same, rfl, ?_⟩ | refine ⟨_, _, rfl, .inl (SqL.of upd_same), ?_⟩ | refine ⟨_, _, rfl, .inr (SqT.of upd_same), ?_⟩ | (refine' ⟨_, _, _, _, rfl, rfl, _, _, _⟩; rotate_left 2; (focus (first | assumption | exact SqL.of (by assumption) | exact SqT.of (by assumption) | exact Same.seq (by assumption) (by assumption))); (focus (exact rfl))) | (refine' ⟨_, _, rfl, _, _⟩; rotate_left 1; (focus (first | exact .inl (by assumption) | exact .inl (SqL.of (by assumption)) | exact .inr (by assumption) | exact .inr (SqT.of (by assumption)))))))
          dsimp only [tCons, tC, tNil]
          refine o4.draw (by decide) (by decide) fun y H5 y0 y1 o5 => ?_
          (repeat (first | refine ⟨_, rfl, ?_⟩ | refine ⟨_, _, rfl, rfl, ?_⟩ | refine ⟨rfl, ?_⟩ | refine .inl ⟨_, rfl, ?_⟩ | refine .inr ⟨_, rfl, ?_⟩ | refine ⟨.inr ⟨by decide, by decide⟩, ?_⟩ | refine ⟨⟨by decide, by decide⟩, ?_⟩ | refine ⟨⟨by decide, by decide, by decide⟩, ?_⟩ | refine ⟨.inr ⟨by omega, by omega⟩, ?_⟩ | refine ⟨(by show (0 : Int) < _; first | decide | omega), ?_⟩ | refine ⟨Nat.le_trans (Nat.le_of_ble_eq_true rfl : _ ≤ 50) (by decide), ?_⟩ | refine ⟨_, _, _, _, rfl, rfl, upd_same, rfl, ?_⟩ | refine ⟨_, _, _, _, rfl, rfl, SqL.of upd_same, rfl, ?_⟩ | refine ⟨_, _, _, _, rfl, rfl, SqT.of upd_same, rfl, ?_⟩ | refine ⟨_, _, rfl, .inl (SqL.of upd_same), ?_⟩ | refine ⟨_, _, rfl, .inr (SqT.of upd_same), ?_⟩ | (refine' ⟨_, _, _, _, rfl, rfl, _, _, _⟩; rotate_left 2; (focus (first | assumption | exact SqL.of (by assumption) | exact SqT.of (by assumption) | exact Same.seq (by assumption) (by assumption))); (focus (exact rfl))) | (refine' ⟨_, _, rfl, _, _⟩; rotate_left 1; (focus (first | exact .inl (by assumption) | exact .inl (SqL.of (by assumption)) | exact .inr (by assumption) | exact .inr (SqT.of (by assumption)))))))
          exact ⟨x, x + y, rfl, x0, by omega, by omega, by omega, o5⟩
        · exact ⟨a, b, rfl, a0, a1, b0, b1, o3⟩
      · clear o a0 a1 b0 b1
        rintro σ H ⟨a, b, rfl, a0, a1, b0, b1, o⟩
        (repeat (first | refine ⟨_, rfl, ?_⟩ | refine ⟨_, _, rfl, rfl, ?_⟩ | refine ⟨rfl, ?_⟩ | refine .inl ⟨_, rfl, ?_⟩ | refine .inr ⟨_, rfl, ?_⟩ | refine ⟨.inr ⟨by decide, by decide⟩, ?_⟩ | refine ⟨⟨by decide, by decide⟩, ?_⟩ | refine ⟨⟨by decide, by decide, by decide⟩, ?_⟩ | refine ⟨.inr ⟨by omega, by omega⟩, ?_⟩ | refine ⟨(by show (0 : Int) < _; first | decide | omega), ?_⟩ | refine ⟨Nat.le_trans (Nat.le_of_ble_eq_true rfl : _ ≤ 50) (by decide), ?_⟩ | refine ⟨_, _, _, _, rfl, rfl, upd_same, rfl, ?_⟩ | refine ⟨_, _, _, _, rfl, rfl, SqL.of upd_same, rfl, ?_⟩ | refine ⟨_, _, _, _, rfl, rfl, SqT.of upd_same, rfl, ?_⟩ | refine ⟨_, _, rfl, .inl (SqL.of upd_same), ?_⟩ | refine ⟨_, _, rfl, .inr (SqT.of upd_same), ?_⟩ | (refine' ⟨_, _, _, _, rfl, rfl, _, _, _⟩; rotate_left 2; (focus (first | assumption | exact SqL.of (by assumption) | exact SqT.of (by assumption) | exact Same.seq (by assumption) (by assumption))); (focus (exact rfl))) | (refine' ⟨_, _, rfl, _, _⟩; rotate_left 1; (focus (first | exact .inl (by assumption) | exact .inl (SqL.of (by assumption)) | exact .inr (by assumption) | exact .inr (SqT.of (by assumption)))))))
        refine ⟨fun σ H => ∃ ce pl : Int, σ = [some (.ref p), some (.int a), some (.int b), some (.int ce), some (.int pl), none] ∧ ((ce = -1 ∧ pl = 0) ∨ (0 ≤ ce ∧ ce ≤ 4095 ∧ 0 ≤ pl ∧ pl ≤ 65535)) ∧ Wd P1 P2 H0 H p L, ?_, ?_⟩
        · (repeat (first | refine ⟨_, rfl, ?_⟩ | refine ⟨_, _, rfl, rfl, ?_⟩ | refine ⟨rfl, ?_⟩ | refine .inl ⟨_, rfl, ?_⟩ | refine .inr ⟨_, rfl, ?_⟩ | refine ⟨.inr ⟨by decide, by decide⟩, ?_⟩ | refine ⟨⟨by decide, by decide⟩, ?_⟩ | refine ⟨⟨by decide, by decide, by decide⟩, ?_⟩ | refine ⟨.inr ⟨by omega, by omega⟩, ?_⟩ | refine ⟨(by show (0 : Int) < _; first | decide | omega), ?_⟩ | refine ⟨Nat.le_trans (Nat.le_of_ble_eq_true rfl : _ ≤ 50) (by decide), ?_⟩ | refine ⟨_, _, _, _, rfl, rfl, upd_same, rfl, ?_⟩ | refine ⟨_, _, _, _, rfl, rfl, SqL.of upd_same, rfl, ?_⟩ | refine ⟨_, _, _, _, rfl, rfl, SqT.of upd_same, rfl, ?_⟩ | refine ⟨_, _, rfl, .inl (SqL.of upd_same), ?_⟩ | refine ⟨_, _, rfl, .inr (SqT.of upd_same), ?_⟩ | (refine' ⟨_, _, _, _, rfl, rfl, _, _, _⟩; rotate_left 2; (focus (first | assumption | exact SqL.of (by assumption) | exact SqT.of (by assumption) | exact Same.seq (by assumption) (by assumption))); (focus (exact rfl))) | (refine' ⟨_, _, rfl, _, _⟩; rotate_left 1; (focus (first | exact .inl (by assumption) | exact .inl (SqL.of (by assumption)) | exact .inr (by assumption) | exact .inr (SqT.of (by assumption)))))))
          dsimp only [tCons, tC, tNil]
          refine o.draw (by decide) (by decide) fun d H3 _ _ o3 => ?_
          (repeat (first | refine ⟨_, rfl, ?_⟩ | refine ⟨_, _, rfl, rfl, ?_⟩ | refine ⟨rfl, ?_⟩ | refine .inl ⟨_, rfl, ?_⟩ | refine .inr ⟨_, rfl, ?_⟩ | refine ⟨.inr ⟨by decide, by decide⟩, ?_⟩ | refine ⟨⟨by decide, by decide⟩, ?_⟩ | refine ⟨⟨by decide, by decide, by decide⟩, ?_⟩ | refine ⟨.inr ⟨by omega, by omega⟩, ?_⟩ | refine ⟨(by show (0 : Int) < _; first | decide | omega), ?_⟩ | refine ⟨Nat.le_trans (Nat.le_of_ble_eq_true rfl : _ ≤ 50) (by decide), ?_⟩ | refine ⟨_, _, _, _, rfl, rfl, upd_same, rfl, ?_⟩ | refine ⟨_, _, _, _, rfl, rfl, SqL.of upd_same, rfl, ?_⟩ | refine ⟨_, _, _, _, rfl, rfl, SqT.of upd_same, rfl, ?_⟩ | refine ⟨_, _, rfl, .inl (SqL.of upd_same), ?_⟩ | refine ⟨_, _, rfl, .inr (SqT.of upd_same), ?_⟩ | (refine' ⟨_, _, _, _, rfl, rfl, _, _, _⟩; rotate_left 2; (focus (first | assumption | exact SqL.of (by assumption) | exact SqT.of (by assumption) | exact Same.seq (by assumption) (by assumption))); (focus (exact rfl))) | (refine' ⟨_, _, rfl, _, _⟩; rotate_left 1; (focus (first | exact .inl (by assumption) | exact .inl (SqL.of (by assumption)) | exact .inr (by assumption) | exact .inr (SqT.of (by assumption)))))))
          refine ite2 (fun _ => ?_) (fun _ => ?_)
          · (repeat (first | refine ⟨_, rfl, ?_⟩ | refine ⟨_, _, rfl, rfl, ?_⟩ | refine ⟨rfl, ?_⟩ | refine .inl ⟨_, rfl, ?_⟩ | refine .inr ⟨_, rfl, ?_⟩ | refine ⟨.inr ⟨by decide, by decide⟩, ?_⟩ | refine ⟨⟨by decide, by decide⟩, ?_⟩ | refine ⟨⟨by decide, by decide, by decide⟩, ?_⟩ | refine ⟨.inr ⟨by omega, by omega⟩, ?_⟩ | refine ⟨(by show (0 : Int) < _; first | decide | omega), ?_⟩ | refine ⟨Nat.le_trans (Nat.le_of_ble_eq_true rfl : _ ≤ 50) (by decide), ?_⟩ | refine ⟨_, _, _, _, rfl, rfl, upd_same, rfl, ?_⟩ | refine ⟨_, _, _, _, rfl, rfl, SqL.of upd_same, rfl, ?_⟩ | refine ⟨_, _, _, _, rfl, rfl, SqT.of upd_same, rfl, ?_⟩ | refine ⟨_, _, rfl, .inl (SqL.of upd_same), ?_⟩ | refine ⟨_, _, rfl, .inr (SqT.of upd_same), ?_⟩ | (refine' ⟨_, _, _, _, rfl, rfl, _, _, _⟩; rotate_left 2; (focus (first | assumption | exact SqL.of (by assumption) | exact SqT.of (by assumption) | exact Same.seq (by assumption) (by assumption))); (focus (exact rfl))) | (refine' ⟨_, _, rfl, _, _⟩; rotate_left 1; (focus (first | exact .inl (by assumption) | exact .inl (SqL.of (by assumption)) | exact .inr (by assumption) | exact .inr (SqT.of (by assumption)))))))
            dsimp only [tCons, tC, tNil]
            refine o3.draw (by decide) (by decide) fun x H4 x0 x1 o4 => ?_
            refine ⟨_, rfl, ?_⟩
            dsimp only [tCons, tC, tNil]
            refine o4.draw (by first | decide | omega) (by first | decide | omega) fun y H5 y0 y1 o5 => ?_
            refine ⟨_, rfl, ?_⟩
            dsimp only [tCons, tC, tNil]
            refine o5.draw (by first | decide | omega) (by first | decide | omega) fun z H6 z0 z1 o6 => ?_
            refine ⟨by show 3 ≤ sizeLine; decide, fun l hl => ?_⟩
            have o7 : Wd P1 P2 H0 (upd H6 l (.lst ([x, y, z].map V.int))) p ((l, .lst ([x, y, z].map V.int)) :: L) := o6.add hl
            refine ⟨_, rfl, ?_⟩
            dsimp only [tCons, tC, tNil]
            refine o7.draw (by first | decide | omega) (by first | decide | omega) fun i H7 i0 i1 o8 => ?_
            refine pick (fun x => 0 ≤ x ∧ x ≤ 4095) o8 i0 i1 (forall_cons ⟨x0, by omega⟩ (forall_cons ⟨y0, by omega⟩ (forall_cons ⟨z0, by omega⟩ (fun _ h => by cases h)))) fun ce hce o9 => ?_
            (repeat (first | refine ⟨_, rfl, ?_⟩ | refine ⟨_, _, rfl, rfl, ?_⟩ | refine ⟨rfl, ?_⟩ | refine .inl ⟨_, rfl, ?_⟩ | refine .inr ⟨_, rfl, ?_⟩ | refine ⟨.inr ⟨by decide, by decide⟩, ?_⟩ | refine ⟨⟨by decide, by decide⟩, ?_⟩ | refine ⟨⟨by decide, by decide, by decide⟩, ?_⟩ | refine ⟨.inr ⟨by omega, by omega⟩, ?_⟩ | refine ⟨(by show (0 : Int) < _; first | decide | omega), ?_⟩ | refine ⟨Nat.le_trans (Nat.le_of_ble_eq_true rfl : _ ≤ 50) (by decide), ?_⟩ | refine ⟨_, _, _, _, rfl, rfl, upd_same, rfl, ?_⟩ | refine ⟨_, _, _, _, rfl, rfl, SqL.of upd_same, rfl, ?_⟩ | refine ⟨_, _, _, _, rfl, rfl, SqT.of upd_same, rfl, ?_⟩ | refine ⟨_, _, rfl, .inl (SqL.of upd_same), ?_⟩ | refine ⟨_, _, rfl, .inr (SqT.of upd_same), ?_⟩ | (refine' ⟨_, _, _, _, rfl, rfl, _, _, _⟩; rotate_left 2; (focus (first | assumption | exact SqL.of (by assumption) | exact SqT.of (by assumption) | exact Same.seq (by assumption) (by assumption))); (focus (exact rfl))) | (refine' ⟨_, _, rfl, _, _⟩; rotate_left 1; (focus (first | exact .inl (by assumption) | exact .inl (SqL.of (by assumption)) | exact .inr (by assumption) | exact .inr (SqT.of (by assumption)))))))
            clear o3 o4 o5 o6 o7 o8
            dsimp only [tCons, tC, tNil]
            refine o9.draw (by first | decide | omega) (by first | decide | omega) fun y H8 y0 y1 o10 => ?_
            refine ⟨_, rfl, ?_⟩
            dsimp only [tCons, tC, tNil]
            refine ⟨H0, p, L, rfl, o10, fun z H9 z0 z1 o11 => ?_⟩
            refine ⟨by show 4 ≤ sizeLine; decide, fun l hl => ?_⟩
            have o12 : Wd P1 P2 H0 (upd H9 l (.lst ([0, 1, y, z].map V.int))) p ((l, .lst ([0, 1, y, z].map V.int)) :: L) := o11.add hl
            refine ⟨_, rfl, ?_⟩
            dsimp only [tCons, tC, tNil]
            refine o12.draw (by first | decide | omega) (by first | decide | omega) fun i H10 i0 i1 o13 => ?_
            refine pick (fun x => 0 ≤ x ∧ x ≤ 65535) o13 i0 i1 (forall_cons ⟨by omega, by omega⟩ (forall_cons ⟨by omega, by omega⟩ (forall_cons ⟨y0, by omega⟩ (forall_cons ⟨z0, z1⟩ (fun _ h => by cases h))))) fun pl hpl o14 => ?_
            exact ⟨ce, pl, rfl, .inr ⟨hce.1, hce.2, hpl.1, hpl.2⟩, o14⟩
          · exact ⟨-1, 0, rfl, .inl ⟨rfl, rfl⟩, o3⟩
        · clear o
          rintro σ H ⟨ce, pl, rfl, hc, o⟩
          (repeat (first | refine ⟨_, rfl, ?_⟩ | refine ⟨_, _, rfl, rfl, ?_⟩ | refine ⟨rfl, ?_⟩ | refine .inl ⟨_, rfl, ?_⟩ | refine .inr ⟨_, rfl, ?_⟩ | refine ⟨.inr ⟨by decide, by decide⟩, ?_⟩ | refine ⟨⟨by decide, by decide⟩, ?_⟩ | refine ⟨⟨by decide, by decide, by decide⟩, ?_⟩ | refine ⟨.inr ⟨by omega, by omega⟩, ?_⟩ | refine ⟨(by show (0 : Int) < _; first | decide | omega), ?_⟩ | refine ⟨Nat.le_trans (Nat.le_of_ble_eq_true rfl : _ ≤ 50) (by decide), ?_⟩ | refine ⟨_, _, _, _, rfl, rfl, upd_same, rfl, ?_⟩ | refine ⟨_, _, _, _, rfl, rfl, SqL.of upd_same, rfl, ?_⟩ | refine ⟨_, _, _, _, rfl, rfl, SqT.of upd_same, rfl, ?_⟩ | refine ⟨_, _, rfl, .inl (SqL.of upd_same), ?_⟩ | refine ⟨_, _, rfl, .inr (SqT.of upd_same), ?_⟩ | (refine' ⟨_, _, _, _, rfl, rfl, _, _, _⟩; rotate_left 2; (focus (first | assumption | exact SqL.of (by assumption) | exact SqT.of (by assumption) | exact Same.seq (by assumption) (by assumption))); (focus (exact rfl))) | (refine' ⟨_, _, rfl, _, _⟩; rotate_left 1; (focus (first | exact .inl (by assumption) | exact .inl (SqL.of (by assumption)) | exact .inr (by assumption) | exact .inr (SqT.of (by assumption)))))))
          refine fun l hl => ?_
          have o1 := o.add (u := .lst [.str "public", .str "secret"]) hl
          refine ⟨_, rfl, ?_⟩
          dsimp only [tCons, tC, tNil]
          refine o1.draw (by first | decide | omega) (by first | decide | omega) fun i H7 i0 i1 o2 => ?_
          refine pickS o2 i0 i1 fun c o3 => ?_
          (repeat (first | refine ⟨_, rfl, ?_⟩ | refine ⟨_, _, rfl, rfl, ?_⟩ | refine ⟨rfl, ?_⟩ | refine .inl ⟨_, rfl, ?_⟩ | refine .inr ⟨_, rfl, ?_⟩ | refine ⟨.inr ⟨by decide, by decide⟩, ?_⟩ | refine ⟨⟨by decide, by decide⟩, ?_⟩ | refine ⟨⟨by decide, by decide, by decide⟩, ?_⟩ | refine ⟨.inr ⟨by omega, by omega⟩, ?_⟩ | refine ⟨(by show (0 : Int) < _; first | decide | omega), ?_⟩ | refine ⟨Nat.le_trans (Nat.le_of_ble_eq_true rfl : _ ≤ 50) (by decide), ?_⟩ | refine ⟨_, _, _, _, rfl, rfl, upd_same, rfl, ?_⟩ | refine ⟨_, _, _, _, rfl, rfl, SqL.of upd_same, rfl, ?_⟩ | refine ⟨_, _, _, _, rfl, rfl, SqT.of upd_same, rfl, ?_⟩ | refine ⟨_, _, rfl, .inl (SqL.of upd_same), ?_⟩ | refine ⟨_, _, rfl, .inr (SqT.of upd_same), ?_⟩ | (refine' ⟨_, _, _, _, rfl, rfl, _, _, _⟩; rotate_left 2; (focus (first | assumption | exact SqL.of (by assumption) | exact SqT.of (by assumption) | exact Same.seq (by assumption) (by assumption))); (focus (exact rfl))) | (refine' ⟨_, _, rfl, _, _⟩; rotate_left 1; (focus (first | exact .inl (by assumption) | exact .inl (SqL.of (by assumption)) | exact .inr (by assumption) | exact .inr (SqT.of (by assumption)))))))
          refine ⟨_, _, rfl, ?_⟩
          (repeat (first | refine ⟨_, rfl, ?_⟩ | refine ⟨_, _, rfl, rfl, ?_⟩ | refine ⟨rfl, ?_⟩ | refine .inl ⟨_, rfl, ?_⟩ | refine .inr ⟨_, rfl, ?_⟩ | refine ⟨.inr ⟨by decide, by decide⟩, ?_⟩ | refine ⟨⟨by decide, by decide⟩, ?_⟩ | refine ⟨⟨by decide, by decide, by decide⟩, ?_⟩ | refine ⟨.inr ⟨by omega, by omega⟩, ?_⟩ | refine ⟨(by show (0 : Int) < _; first | decide | omega), ?_⟩ | refine ⟨Nat.le_trans (Nat.le_of_ble_eq_true rfl : _ ≤ 50) (by decide), ?_⟩ | refine ⟨_, _, _, _, rfl, rfl, upd_same, rfl, ?_⟩ | refine ⟨_, _, _, _, rfl, rfl, SqL.of upd_same, rfl, ?_⟩ | refine ⟨_, _, _, _, rfl, rfl, SqT.of upd_same, rfl, ?_⟩ | refine ⟨_, _, rfl, .inl (SqL.of upd_same), ?_⟩ | refine ⟨_, _, rfl, .inr (SqT.of upd_same), ?_⟩ | (refine' ⟨_, _, _, _, rfl, rfl, _, _, _⟩; rotate_left 2; (focus (first | assumption | exact SqL.of (by assumption) | exact SqT.of (by assumption) | exact Same.seq (by assumption) (by assumption))); (focus (exact rfl))) | (refine' ⟨_, _, rfl, _, _⟩; rotate_left 1; (focus (first | exact .inl (by assumption) | exact .inl (SqL.of (by assumption)) | exact .inr (by assumption) | exact .inr (SqT.of (by assumption)))))))
          refine ⟨_, _, rfl, ?_⟩
          (repeat (first | refine ⟨_, rfl, ?_⟩ | refine ⟨_, _, rfl, rfl, ?_⟩ | refine ⟨rfl, ?_⟩ | refine .inl ⟨_, rfl, ?_⟩ | refine .inr ⟨_, rfl, ?_⟩ | refine ⟨.inr ⟨by decide, by decide⟩, ?_⟩ | refine ⟨⟨by decide, by decide⟩, ?_⟩ | refine ⟨⟨by decide, by decide, by decide⟩, ?_⟩ | refine ⟨.inr ⟨by omega, by omega⟩, ?_⟩ | refine ⟨(by show (0 : Int) < _; first | decide | omega), ?_⟩ | refine ⟨Nat.le_trans (Nat.le_of_ble_eq_true rfl : _ ≤ 50) (by decide), ?_⟩ | refine ⟨_, _, _, _, rfl, rfl, upd_same, rfl, ?_⟩ | refine ⟨_, _, _, _, rfl, rfl, SqL.of upd_same, rfl, ?_⟩ | refine ⟨_, _, _, _, rfl, rfl, SqT.of upd_same, rfl, ?_⟩ | refine ⟨_, _, rfl, .inl (SqL.of upd_same), ?_⟩ | refine ⟨_, _, rfl, .inr (SqT.of upd_same), ?_⟩ | (refine' ⟨_, _, _, _, rfl, rfl, _, _, _⟩; rotate_left 2; (focus (first | assumption | exact SqL.of (by assumption) | exact SqT.of (by assumption) | exact Same.seq (by assumption) (by assumption))); (focus (exact rfl))) | (refine' ⟨_, _, rfl, _, _⟩; rotate_left 1; (focus (first | exact .inl (by assumption) | exact .inl (SqL.of (by assumption)) | exact .inr (by assumption) | exact .inr (SqT.of (by assumption)))))))
          refine fun r hr => ?_
          rw [mn, mx]
          exact q r ⟨c, min a b, max a b, ce, pl⟩ _ ⟨show (0 : Int) ≤ min a b by omega, show min a b ≤ max a b by omega, show max a b ≤ 65535 by omega, hc⟩ (o3.add hr)
theorem ok_stmk (T : Tx K mg) : FnOk P w K mg base CX0 4 T.a_law_state T.d_law_state ["source"] (spStMk K P1 P2) := by
  have G_law_draw : FnOk P w K mg base CX0 1 T.a_law_draw T.d_law_draw ["source", "many"] spDraw := ok_draw T
  have G_law_fact : FnOk P w K mg base CX0 3 T.a_law_fact T.d_law_fact ["source"] (spFactMk P1 P2) := ok_factmk T
  refine T.F_law_state.ok sc_law_state (fun vs H Q E h => ?_) (fun cdv A outer s H vs Q E hr h => ?_)
  · obtain ⟨H0, p, L, rfl, _⟩ := h
    rfl
  · obtain ⟨H0, p, L, rfl, o, q⟩ := h
    have hr_law_draw : Room 1 _ := hr.mono (by decide)
    have hr_law_fact : Room 3 _ := hr
    refine ⟨_, (pss_cons (ps_setLc (i := 1) (own := [("k", 2)]) (g := gName 2) (by rfl) sc_law_state.nd rfl rfl (sw_true rfl rfl rfl (by decide +kernel)) (pi_range1 rfl T.z_range (pa_cons pe_int pa_nil)) (blkOk_by (N := n_law_state) (sc := defScope s_law_state) (by decide +kernel)) (fun _ _ _ _ _ => pg_name (i := 2) sc_law_state.nd rfl (Or.inl rfl)) (fun _ _ _ _ _ => pts_nil) (fun _ _ _ _ _ => (pe_call G_law_fact hr_law_fact (by rfl) T.g_law_fact T.F_law_fact.kp T.b_law_fact .nil pass0 (pa_cons (pv 0) pa_nil))))
        (pss_one (ps_ret (pe_op op_catT (pe_callTy call_tuple_of (by rfl) T.z_tuple (by decide +kernel) (pa_cons (pv 1) pa_nil)) (pe_tup (pa_cons (pe_ix ix_list (pe_lst (pa_cons pe_str (pa_cons pe_str pa_nil))) (pe_call G_law_draw hr_law_draw (by rfl) T.g_law_draw T.F_law_draw.kp T.b_law_draw .nil pass0 (pa_cons (pv 0) (pa_cons pe_int pa_nil))) (fun _ _ => rfl)) pa_nil)))))), ?_⟩
    (repeat (first | refine ⟨_, rfl, ?_⟩ | refine ⟨_, _, rfl, rfl, ?_⟩ | refine ⟨rfl, ?_⟩ | refine .inl ⟨_, rfl, ?_⟩ | refine .inr ⟨_, rfl, ?_⟩ | refine ⟨.inr ⟨by decide, by decide⟩, ?_⟩ | refine ⟨⟨by decide, by decide⟩, ?_⟩ | refine ⟨⟨by decide, by decide, by decide⟩, ?_⟩ | refine ⟨.inr ⟨by omega, by omega⟩, ?_⟩ | refine ⟨(by show (0 : Int) < _; first | decide | omega), ?_⟩ | refine ⟨Nat.le_trans (Nat.le_of_ble_eq_true rfl : _ ≤ 50) (by decide), ?_⟩ | refine ⟨_, _, _, _, rfl, rfl, upd_same, rfl, ?_⟩ | refine ⟨_, _, _, _, rfl, rfl, SqL.of upd_same, rfl, ?_⟩ | refine ⟨_, _, _, _, rfl, rfl, SqT.of upd_same, rfl, ?_⟩ | refine ⟨_, _, rfl, .inl (SqL.of upd_same), ?_⟩ | refine ⟨_, _, rfl, .inr (SqT.of upd_same), ?_⟩ | (refine' ⟨_, _, _, _, rfl, rfl, _, _, _⟩; rotate_left 2; (focus (first | assumption | exact SqL.of (by assumption) | exact SqT.of (by assumption) | exact Same.seq (by assumption) (by assumption))); (focus (exact rfl))) | (refine' ⟨_, _, rfl, _, _⟩; rotate_left 1; (focus (first | exact .inl (by assumption) | exact .inl (SqL.of (by assumption)) | exact .inr (by assumption) | exact .inr (SqT.of (by assumption)))))))
    have hW : ∀ D, H D = none → Wd P1 P2 H0 (upd H D (.lst [])) p ((D, .lst []) :: L) := fun D hD => o.add hD
    refine ⟨by decide, by decide, fun D hD => lc_range (lo := 0) (n := 16) (fun k H => ∃ (M : List (Addr × HO)) (rs : List Addr) (fs : List Fa), Wd P1 P2 H0 H p (((D, HO.lst (rs.map V.ref)) :: M) ++ L) ∧ Paired (fun r f => TupAt K M r (Fa.row f)) rs fs ∧ rs.length = k ∧ ∀ f ∈ fs, Fa.ok f) ⟨[], [], [], hW D hD, .nil, rfl, fun _ h => by cases h⟩ ?_ ?_⟩
    · rintro i H5 hi ⟨M, rs, fs, o5, hp, hl, hok⟩
      refine ⟨rfl, ?_⟩
      unfold tYes
      dsimp only
      rw [if_pos rfl]
      refine ⟨_, rfl, ?_⟩
      dsimp only [tCons, tC, tNil]
      refine ⟨H0, p, _, rfl, o5, fun r f H6 hf o6 => ?_⟩
      have o8 := o6.put (u' := .lst (rs.map V.ref ++ [.ref r])) 1 rfl
      refine ⟨rs.map V.ref, o6.mem (q := (D, .lst (rs.map V.ref))) (by simp), Nat.lt_of_le_of_lt (show (rs.map V.ref).length ≤ 16 by rw [List.length_map]; omega) (by show 16 < sizeLine; decide), (r, .tup (Fa.row f)) :: M, rs ++ [r], fs ++ [f], ?_, ?_, by rw [List.length_append, hl]; rfl, ?_⟩
      · rw [List.map_append]
        exact o8.perm (.swap _ _ _)
      · exact paired_app (paired_imp (fun _ _ z => z.mono fun q hq => List.mem_cons_of_mem _ hq) hp) (.cons (.inl (List.mem_cons_self ..)) .nil)
      · intro g hg
        rcases List.mem_append.mp hg with z | z
        · exact hok g z
        · rw [List.mem_singleton.mp z]
          exact hf
    · rintro H5 ⟨M, rs, fs, o5, hp, hl, hok⟩
      (repeat (first | refine ⟨_, rfl, ?_⟩ | refine ⟨_, _, rfl, rfl, ?_⟩ | refine ⟨rfl, ?_⟩ | refine .inl ⟨_, rfl, ?_⟩ | refine .inr ⟨_, rfl, ?_⟩ | refine ⟨.inr ⟨by decide, by decide⟩, ?_⟩ | refine ⟨⟨by decide, by decide⟩, ?_⟩ | refine ⟨⟨by decide, by decide, by decide⟩, ?_⟩ | refine ⟨.inr ⟨by omega, by omega⟩, ?_⟩ | refine ⟨(by show (0 : Int) < _; first | decide | omega), ?_⟩ | refine ⟨Nat.le_trans (Nat.le_of_ble_eq_true rfl : _ ≤ 50) (by decide), ?_⟩ | refine ⟨_, _, _, _, rfl, rfl, upd_same, rfl, ?_⟩ | refine ⟨_, _, _, _, rfl, rfl, SqL.of upd_same, rfl, ?_⟩ | refine ⟨_, _, _, _, rfl, rfl, SqT.of upd_same, rfl, ?_⟩ | refine ⟨_, _, rfl, .inl (SqL.of upd_same), ?_⟩ | refine ⟨_, _, rfl, .inr (SqT.of upd_same), ?_⟩ | (refine' ⟨_, _, _, _, rfl, rfl, _, _, _⟩; rotate_left 2; (focus (first | assumption | exact SqL.of (by assumption) | exact SqT.of (by assumption) | exact Same.seq (by assumption) (by assumption))); (focus (exact rfl))) | (refine' ⟨_, _, rfl, _, _⟩; rotate_left 1; (focus (first | exact .inl (by assumption) | exact .inl (SqL.of (by assumption)) | exact .inr (by assumption) | exact .inr (SqT.of (by assumption)))))))
      refine ⟨D, _, rfl, .inl ⟨SqL.of (o5.mem (q := (D, .lst (rs.map V.ref))) (by simp)), fun t ht => ?_⟩⟩
      have o6 := o5.add (u := .tup (rs.map V.ref)) ht
      (repeat (first | refine ⟨_, rfl, ?_⟩ | refine ⟨_, _, rfl, rfl, ?_⟩ | refine ⟨rfl, ?_⟩ | refine .inl ⟨_, rfl, ?_⟩ | refine .inr ⟨_, rfl, ?_⟩ | refine ⟨.inr ⟨by decide, by decide⟩, ?_⟩ | refine ⟨⟨by decide, by decide⟩, ?_⟩ | refine ⟨⟨by decide, by decide, by decide⟩, ?_⟩ | refine ⟨.inr ⟨by omega, by omega⟩, ?_⟩ | refine ⟨(by show (0 : Int) < _; first | decide | omega), ?_⟩ | refine ⟨Nat.le_trans (Nat.le_of_ble_eq_true rfl : _ ≤ 50) (by decide), ?_⟩ | refine ⟨_, _, _, _, rfl, rfl, upd_same, rfl, ?_⟩ | refine ⟨_, _, _, _, rfl, rfl, SqL.of upd_same, rfl, ?_⟩ | refine ⟨_, _, _, _, rfl, rfl, SqT.of upd_same, rfl, ?_⟩ | refine ⟨_, _, rfl, .inl (SqL.of upd_same), ?_⟩ | refine ⟨_, _, rfl, .inr (SqT.of upd_same), ?_⟩ | (refine' ⟨_, _, _, _, rfl, rfl, _, _, _⟩; rotate_left 2; (focus (first | assumption | exact SqL.of (by assumption) | exact SqT.of (by assumption) | exact Same.seq (by assumption) (by assumption))); (focus (exact rfl))) | (refine' ⟨_, _, rfl, _, _⟩; rotate_left 1; (focus (first | exact .inl (by assumption) | exact .inl (SqL.of (by assumption)) | exact .inr (by assumption) | exact .inr (SqT.of (by assumption)))))))
      refine fun l hl2 => ?_
      have o7 := o6.add (u := .lst [.str "public", .str "secret"]) hl2
      refine ⟨_, rfl, ?_⟩
      dsimp only [tCons, tC, tNil]
      refine o7.draw (by first | decide | omega) (by first | decide | omega) fun i H7 i0 i1 o8 => ?_
      refine pickS o8 i0 i1 fun c o9 => ?_
      (repeat (first | refine ⟨_, rfl, ?_⟩ | refine ⟨_, _, rfl, rfl, ?_⟩ | refine ⟨rfl, ?_⟩ | refine .inl ⟨_, rfl, ?_⟩ | refine .inr ⟨_, rfl, ?_⟩ | refine ⟨.inr ⟨by decide, by decide⟩, ?_⟩ | refine ⟨⟨by decide, by decide⟩, ?_⟩ | refine ⟨⟨by decide, by decide, by decide⟩, ?_⟩ | refine ⟨.inr ⟨by omega, by omega⟩, ?_⟩ | refine ⟨(by show (0 : Int) < _; first | decide | omega), ?_⟩ | refine ⟨Nat.le_trans (Nat.le_of_ble_eq_true rfl : _ ≤ 50) (by decide), ?_⟩ | refine ⟨_, _, _, _, rfl, rfl, upd_same, rfl, ?_⟩ | refine ⟨_, _, _, _, rfl, rfl, SqL.of upd_same, rfl, ?_⟩ | refine ⟨_, _, _, _, rfl, rfl, SqT.of upd_same, rfl, ?_⟩ | refine ⟨_, _, rfl, .inl (SqL.of upd_same), ?_⟩ | refine ⟨_, _, rfl, .inr (SqT.of upd_same), ?_⟩ | (refine' ⟨_, _, _, _, rfl, rfl, _, _, _⟩; rotate_left 2; (focus (first | assumption | exact SqL.of (by assumption) | exact SqT.of (by assumption) | exact Same.seq (by assumption) (by assumption))); (focus (exact rfl))) | (refine' ⟨_, _, rfl, _, _⟩; rotate_left 1; (focus (first | exact .inl (by assumption) | exact .inl (SqL.of (by assumption)) | exact .inr (by assumption) | exact .inr (SqT.of (by assumption)))))))
      refine fun s1 hs1 => ?_
      have o10 := o9.add (u := .tup [.str (fl c)]) hs1
      refine ⟨t, s1, _, _, rfl, rfl, SqT.of (o10.mem (q := (t, .tup (rs.map V.ref))) (by simp)), SqT.of upd_same, fun z => ?_, Nat.le_trans (show (rs.map V.ref).length + 1 ≤ 17 by rw [List.length_map]; omega) (by show 17 ≤ sizeLine; decide), (fun z => by cases z), fun _ u hu => ?_⟩
      · have := congrArg List.length z
        rw [List.length_map, hl] at this
        cases this
      have o11 := o10.add (u := .tup (rs.map V.ref ++ [.str (fl c)])) hu
      refine q u fs c _ _ ⟨_, rfl⟩ (show Wd P1 P2 H0 _ p ([(u, .tup (rs.map V.ref ++ [.str (fl c)])), (s1, .tup [.str (fl c)]), (t, .tup (rs.map V.ref)), (D, .lst (rs.map V.ref))] ++ M ++ L) from o11) ⟨rs, .inl (List.mem_cons_self ..), paired_imp (fun _ _ z => z.mono fun q hq => by simp [hq]) hp, by rw [← hp.length]; exact hl⟩ hok
end
end K70

set_option Elab.async false
set_option linter.all false
set_option maxRecDepth 100000
set_option maxHeartbeats 4000000
namespace K70
open PySem PySem.Spec PyProof.Rows L2 Lw GxR WD
/-! ### the law's own readings -/
def spLFits (K : PySem.W.Frag) : Sp := fun vs H Q _ => ∃ H0 L a b fs c gs d, vs = [.ref a, .ref b] ∧ Objs H0 H L ∧ StAt K L a fs c ∧ StAt K L b gs d ∧ ∀ H', Same H H' → Q (.bl (ffB c d && allB fs gs)) H'
section
variable {P : Program} {w : World} {K : PySem.W.Frag} {mg : Str → Option Value} {base : Heap} {P1 P2 : Addr}
theorem ok_lff (T : Tx K mg) : FnOk P w K mg base CX0 1 T.a_law_fact_fits T.d_law_fact_fits ["fact", "other"] (spFact K) := by
  refine T.F_law_fact_fits.ok sc_law_fact_fits (fun vs H Q E h => ?_) (fun cdv A outer s H vs Q E hr h => ?_)
  · obtain ⟨H0, L, r, s, f, g, rfl, _⟩ := h
    rfl
  · obtain ⟨H0, L, r, s, f, g, rfl, o, h1, h2, q⟩ := h
    refine ⟨_, (pss_cons (ps_if (PW.pt (pw_and (pt_cmpR op_eq (pe_ix ix_tup (pv 0) pe_int (fun _ _ => rfl)) pe_str (nomark _)) (pw_and1 (pt_cmpR op_eq (pe_ix ix_tup (pv 1) pe_int (fun _ _ => rfl)) pe_str (nomark _)))))
        (pss_one (ps_ret pe_bl))
        pss_nil)
        (pss_cons (ps_if (PW.pt (pw_or (pt_cmpR op_lt (pe_ix ix_tup (pv 0) pe_int (fun _ _ => rfl)) (pe_ix ix_tup (pv 1) pe_int (fun _ _ => rfl)) (nomark _)) (pw_or1 (pt_cmpR op_gt (pe_ix ix_tup (pv 0) pe_int (fun _ _ => rfl)) (pe_ix ix_tup (pv 1) pe_int (fun _ _ => rfl)) (nomark _)))))
        (pss_one (ps_ret pe_bl))
        pss_nil)
        (pss_one (ps_ret (pe_or (pe_cmpR op_eq (pe_ix ix_tup (pv 1) pe_int (fun _ _ => rfl)) (pe_un un_neg pe_int) (nomark _)) (pe_one (pe_and (pe_cmpR op_eq (pe_ix ix_tup (pv 0) pe_int (fun _ _ => rfl)) (pe_ix ix_tup (pv 1) pe_int (fun _ _ => rfl)) (nomark _)) (pe_one (pe_cmpR op_eq (pe_ix ix_tup (pv 0) pe_int (fun _ _ => rfl)) (pe_ix ix_tup (pv 1) pe_int (fun _ _ => rfl)) (nomark _)))))))))), ?_⟩
    have k1 := h1.sq o.at_
    have k2 := h2.sq o.at_
    have eF : faB f g = (ffB f.sec g.sec && decide (g.lo ≤ f.lo) && decide (f.hi ≤ g.hi) && (decide (g.cell = -1) || cellB f g)) := rfl
    rw [eF] at q
    have q0 : ∀ b, (ffB f.sec g.sec && decide (g.lo ≤ f.lo) && decide (f.hi ≤ g.hi) && (decide (g.cell = -1) || cellB f g)) = b → Q (.bl b) H := fun b e => by
      have := q H (Same.refl H)
      rw [e] at this
      exact this
    have ez : ∀ a b : Int, decide (V.int a = V.int b) = decide (a = b) := fun a b => decide_eq_decide.mpr ⟨fun z => V.int.inj z, fun z => by rw [z]⟩
    (repeat (first | refine ⟨_, rfl, ?_⟩ | refine ⟨_, _, rfl, rfl, ?_⟩ | refine ⟨rfl, ?_⟩ | refine .inl ⟨_, rfl, ?_⟩ | refine .inr ⟨_, rfl, ?_⟩ | refine ⟨.inr ⟨by decide, by decide⟩, ?_⟩ | refine ⟨⟨by decide, by decide⟩, ?_⟩ | refine ⟨⟨by decide, by decide, by decide⟩, ?_⟩ | refine ⟨.inr ⟨by omega, by omega⟩, ?_⟩ | refine ⟨(by show (0 : Int) < _; first | decide | omega), ?_⟩ | refine ⟨Nat.le_trans (Nat.le_of_ble_eq_true rfl : _ ≤ 50) (by decide), ?_⟩ | refine ⟨_, _, _, _, rfl, rfl, upd_same, rfl, ?_⟩ | refine ⟨_, _, _, _, rfl, rfl, SqL.of upd_same, rfl, ?_⟩ | refine ⟨_, _, _, _, rfl, rfl, SqT.of upd_same, rfl, ?_⟩ | refine ⟨_, _, rfl, .inl (SqL.of upd_same), ?_⟩ | refine ⟨_, _, rfl, .inr (SqT.of upd_same), ?_⟩ | (refine' ⟨_, _, _, _, rfl, rfl, _, _, _⟩; rotate_left 2; (focus (first | assumption | exact SqL.of (by assumption) | exact SqT.of (by assumption) | exact Same.seq (by assumption) (by assumption))); (focus (exact rfl))) | (refine' ⟨_, _, rfl, _, _⟩; rotate_left 1; (focus (first | exact .inl (by assumption) | exact .inl (SqL.of (by assumption)) | exact .inr (by assumption) | exact .inr (SqT.of (by assumption)))))))
    show (if decide (V.str (fl f.sec) = V.str "secret") = true then _ else _)
    rw [fl_sec]
    cases hf : f.sec with
    | true =>
      (repeat (first | refine ⟨_, rfl, ?_⟩ | refine ⟨_, _, rfl, rfl, ?_⟩ | refine ⟨rfl, ?_⟩ | refine .inl ⟨_, rfl, ?_⟩ | refine .inr ⟨_, rfl, ?_⟩ | refine ⟨.inr ⟨by decide, by decide⟩, ?_⟩ | refine ⟨⟨by decide, by decide⟩, ?_⟩ | refine ⟨⟨by decide, by decide, by decide⟩, ?_⟩ | refine ⟨.inr ⟨by omega, by omega⟩, ?_⟩ | refine ⟨(by show (0 : Int) < _; first | decide | omega), ?_⟩ | refine ⟨Nat.le_trans (Nat.le_of_ble_eq_true rfl : _ ≤ 50) (by decide), ?_⟩ | refine ⟨_, _, _, _, rfl, rfl, upd_same, rfl, ?_⟩ | refine ⟨_, _, _, _, rfl, rfl, SqL.of upd_same, rfl, ?_⟩ | refine ⟨_, _, _, _, rfl, rfl, SqT.of upd_same, rfl, ?_⟩ | refine ⟨_, _, rfl, .inl (SqL.of upd_same), ?_⟩ | refine ⟨_, _, rfl, .inr (SqT.of upd_same), ?_⟩ | (refine' ⟨_, _, _, _, rfl, rfl, _, _, _⟩; rotate_left 2; (focus (first | assumption | exact SqL.of (by assumption) | exact SqT.of (by assumption) | exact Same.seq (by assumption) (by assumption))); (focus (exact rfl))) | (refine' ⟨_, _, rfl, _, _⟩; rotate_left 1; (focus (first | exact .inl (by assumption) | exact .inl (SqL.of (by assumption)) | exact .inr (by assumption) | exact .inr (SqT.of (by assumption)))))))
      show (if decide (V.str (fl g.sec) = V.str "public") = true then _ else _)
      rw [fl_pub]
      cases hg : g.sec with
      | false =>
        (repeat (first | refine ⟨_, rfl, ?_⟩ | refine ⟨_, _, rfl, rfl, ?_⟩ | refine ⟨rfl, ?_⟩ | refine .inl ⟨_, rfl, ?_⟩ | refine .inr ⟨_, rfl, ?_⟩ | refine ⟨.inr ⟨by decide, by decide⟩, ?_⟩ | refine ⟨⟨by decide, by decide⟩, ?_⟩ | refine ⟨⟨by decide, by decide, by decide⟩, ?_⟩ | refine ⟨.inr ⟨by omega, by omega⟩, ?_⟩ | refine ⟨(by show (0 : Int) < _; first | decide | omega), ?_⟩ | refine ⟨Nat.le_trans (Nat.le_of_ble_eq_true rfl : _ ≤ 50) (by decide), ?_⟩ | refine ⟨_, _, _, _, rfl, rfl, upd_same, rfl, ?_⟩ | refine ⟨_, _, _, _, rfl, rfl, SqL.of upd_same, rfl, ?_⟩ | refine ⟨_, _, _, _, rfl, rfl, SqT.of upd_same, rfl, ?_⟩ | refine ⟨_, _, rfl, .inl (SqL.of upd_same), ?_⟩ | refine ⟨_, _, rfl, .inr (SqT.of upd_same), ?_⟩ | (refine' ⟨_, _, _, _, rfl, rfl, _, _, _⟩; rotate_left 2; (focus (first | assumption | exact SqL.of (by assumption) | exact SqT.of (by assumption) | exact Same.seq (by assumption) (by assumption))); (focus (exact rfl))) | (refine' ⟨_, _, rfl, _, _⟩; rotate_left 1; (focus (first | exact .inl (by assumption) | exact .inl (SqL.of (by assumption)) | exact .inr (by assumption) | exact .inr (SqT.of (by assumption)))))))
        exact q0 _ (by rw [hf, hg]; rfl)
      | true =>
        have hff : ffB f.sec g.sec = true := by rw [hf, hg]; rfl
        (repeat (first | refine ⟨_, rfl, ?_⟩ | refine ⟨_, _, rfl, rfl, ?_⟩ | refine ⟨rfl, ?_⟩ | refine .inl ⟨_, rfl, ?_⟩ | refine .inr ⟨_, rfl, ?_⟩ | refine ⟨.inr ⟨by decide, by decide⟩, ?_⟩ | refine ⟨⟨by decide, by decide⟩, ?_⟩ | refine ⟨⟨by decide, by decide, by decide⟩, ?_⟩ | refine ⟨.inr ⟨by omega, by omega⟩, ?_⟩ | refine ⟨(by show (0 : Int) < _; first | decide | omega), ?_⟩ | refine ⟨Nat.le_trans (Nat.le_of_ble_eq_true rfl : _ ≤ 50) (by decide), ?_⟩ | refine ⟨_, _, _, _, rfl, rfl, upd_same, rfl, ?_⟩ | refine ⟨_, _, _, _, rfl, rfl, SqL.of upd_same, rfl, ?_⟩ | refine ⟨_, _, _, _, rfl, rfl, SqT.of upd_same, rfl, ?_⟩ | refine ⟨_, _, rfl, .inl (SqL.of upd_same), ?_⟩ | refine ⟨_, _, rfl, .inr (SqT.of upd_same), ?_⟩ | (refine' ⟨_, _, _, _, rfl, rfl, _, _, _⟩; rotate_left 2; (focus (first | assumption | exact SqL.of (by assumption) | exact SqT.of (by assumption) | exact Same.seq (by assumption) (by assumption))); (focus (exact rfl))) | (refine' ⟨_, _, rfl, _, _⟩; rotate_left 1; (focus (first | exact .inl (by assumption) | exact .inl (SqL.of (by assumption)) | exact .inr (by assumption) | exact .inr (SqT.of (by assumption)))))))
        refine ite2 (fun e1 => ?_) (fun e1 => ?_)
        · have e1 : f.lo < g.lo := of_decide_eq_true e1
          (repeat (first | refine ⟨_, rfl, ?_⟩ | refine ⟨_, _, rfl, rfl, ?_⟩ | refine ⟨rfl, ?_⟩ | refine .inl ⟨_, rfl, ?_⟩ | refine .inr ⟨_, rfl, ?_⟩ | refine ⟨.inr ⟨by decide, by decide⟩, ?_⟩ | refine ⟨⟨by decide, by decide⟩, ?_⟩ | refine ⟨⟨by decide, by decide, by decide⟩, ?_⟩ | refine ⟨.inr ⟨by omega, by omega⟩, ?_⟩ | refine ⟨(by show (0 : Int) < _; first | decide | omega), ?_⟩ | refine ⟨Nat.le_trans (Nat.le_of_ble_eq_true rfl : _ ≤ 50) (by decide), ?_⟩ | refine ⟨_, _, _, _, rfl, rfl, upd_same, rfl, ?_⟩ | refine ⟨_, _, _, _, rfl, rfl, SqL.of upd_same, rfl, ?_⟩ | refine ⟨_, _, _, _, rfl, rfl, SqT.of upd_same, rfl, ?_⟩ | refine ⟨_, _, rfl, .inl (SqL.of upd_same), ?_⟩ | refine ⟨_, _, rfl, .inr (SqT.of upd_same), ?_⟩ | (refine' ⟨_, _, _, _, rfl, rfl, _, _, _⟩; rotate_left 2; (focus (first | assumption | exact SqL.of (by assumption) | exact SqT.of (by assumption) | exact Same.seq (by assumption) (by assumption))); (focus (exact rfl))) | (refine' ⟨_, _, rfl, _, _⟩; rotate_left 1; (focus (first | exact .inl (by assumption) | exact .inl (SqL.of (by assumption)) | exact .inr (by assumption) | exact .inr (SqT.of (by assumption)))))))
          exact q0 _ (by rw [hff, decide_eq_false (p := g.lo ≤ f.lo) (by omega)]; rfl)
        · have e1 : ¬ f.lo < g.lo := fun z => e1 (decide_eq_true z)
          have g1 : decide (g.lo ≤ f.lo) = true := decide_eq_true (by omega)
          (repeat (first | refine ⟨_, rfl, ?_⟩ | refine ⟨_, _, rfl, rfl, ?_⟩ | refine ⟨rfl, ?_⟩ | refine .inl ⟨_, rfl, ?_⟩ | refine .inr ⟨_, rfl, ?_⟩ | refine ⟨.inr ⟨by decide, by decide⟩, ?_⟩ | refine ⟨⟨by decide, by decide⟩, ?_⟩ | refine ⟨⟨by decide, by decide, by decide⟩, ?_⟩ | refine ⟨.inr ⟨by omega, by omega⟩, ?_⟩ | refine ⟨(by show (0 : Int) < _; first | decide | omega), ?_⟩ | refine ⟨Nat.le_trans (Nat.le_of_ble_eq_true rfl : _ ≤ 50) (by decide), ?_⟩ | refine ⟨_, _, _, _, rfl, rfl, upd_same, rfl, ?_⟩ | refine ⟨_, _, _, _, rfl, rfl, SqL.of upd_same, rfl, ?_⟩ | refine ⟨_, _, _, _, rfl, rfl, SqT.of upd_same, rfl, ?_⟩ | refine ⟨_, _, rfl, .inl (SqL.of upd_same), ?_⟩ | refine ⟨_, _, rfl, .inr (SqT.of upd_same), ?_⟩ | (refine' ⟨_, _, _, _, rfl, rfl, _, _, _⟩; rotate_left 2; (focus (first | assumption | exact SqL.of (by assumption) | exact SqT.of (by assumption) | exact Same.seq (by assumption) (by assumption))); (focus (exact rfl))) | (refine' ⟨_, _, rfl, _, _⟩; rotate_left 1; (focus (first | exact .inl (by assumption) | exact .inl (SqL.of (by assumption)) | exact .inr (by assumption) | exact .inr (SqT.of (by assumption)))))))
          refine ite2 (fun e2 => ?_) (fun e2 => ?_)
          · have e2 : g.hi < f.hi := of_decide_eq_true e2
            (repeat (first | refine ⟨_, rfl, ?_⟩ | refine ⟨_, _, rfl, rfl, ?_⟩ | refine ⟨rfl, ?_⟩ | refine .inl ⟨_, rfl, ?_⟩ | refine .inr ⟨_, rfl, ?_⟩ | refine ⟨.inr ⟨by decide, by decide⟩, ?_⟩ | refine ⟨⟨by decide, by decide⟩, ?_⟩ | refine ⟨⟨by decide, by decide, by decide⟩, ?_⟩ | refine ⟨.inr ⟨by omega, by omega⟩, ?_⟩ | refine ⟨(by show (0 : Int) < _; first | decide | omega), ?_⟩ | refine ⟨Nat.le_trans (Nat.le_of_ble_eq_true rfl : _ ≤ 50) (by decide), ?_⟩ | refine ⟨_, _, _, _, rfl, rfl, upd_same, rfl, ?_⟩ | refine ⟨_, _, _, _, rfl, rfl, SqL.of upd_same, rfl, ?_⟩ | refine ⟨_, _, _, _, rfl, rfl, SqT.of upd_same, rfl, ?_⟩ | refine ⟨_, _, rfl, .inl (SqL.of upd_same), ?_⟩ | refine ⟨_, _, rfl, .inr (SqT.of upd_same), ?_⟩ | (refine' ⟨_, _, _, _, rfl, rfl, _, _, _⟩; rotate_left 2; (focus (first | assumption | exact SqL.of (by assumption) | exact SqT.of (by assumption) | exact Same.seq (by assumption) (by assumption))); (focus (exact rfl))) | (refine' ⟨_, _, rfl, _, _⟩; rotate_left 1; (focus (first | exact .inl (by assumption) | exact .inl (SqL.of (by assumption)) | exact .inr (by assumption) | exact .inr (SqT.of (by assumption)))))))
            exact q0 _ (by rw [hff, g1, decide_eq_false (p := f.hi ≤ g.hi) (by omega)]; rfl)
          · have e2 : ¬ g.hi < f.hi := fun z => e2 (decide_eq_true z)
            have g2 : decide (f.hi ≤ g.hi) = true := decide_eq_true (by omega)
            rw [hff, g1, g2] at q0
            (repeat (first | refine ⟨_, rfl, ?_⟩ | refine ⟨_, _, rfl, rfl, ?_⟩ | refine ⟨rfl, ?_⟩ | refine .inl ⟨_, rfl, ?_⟩ | refine .inr ⟨_, rfl, ?_⟩ | refine ⟨.inr ⟨by decide, by decide⟩, ?_⟩ | refine ⟨⟨by decide, by decide⟩, ?_⟩ | refine ⟨⟨by decide, by decide, by decide⟩, ?_⟩ | refine ⟨.inr ⟨by omega, by omega⟩, ?_⟩ | refine ⟨(by show (0 : Int) < _; first | decide | omega), ?_⟩ | refine ⟨Nat.le_trans (Nat.le_of_ble_eq_true rfl : _ ≤ 50) (by decide), ?_⟩ | refine ⟨_, _, _, _, rfl, rfl, upd_same, rfl, ?_⟩ | refine ⟨_, _, _, _, rfl, rfl, SqL.of upd_same, rfl, ?_⟩ | refine ⟨_, _, _, _, rfl, rfl, SqT.of upd_same, rfl, ?_⟩ | refine ⟨_, _, rfl, .inl (SqL.of upd_same), ?_⟩ | refine ⟨_, _, rfl, .inr (SqT.of upd_same), ?_⟩ | (refine' ⟨_, _, _, _, rfl, rfl, _, _, _⟩; rotate_left 2; (focus (first | assumption | exact SqL.of (by assumption) | exact SqT.of (by assumption) | exact Same.seq (by assumption) (by assumption))); (focus (exact rfl))) | (refine' ⟨_, _, rfl, _, _⟩; rotate_left 1; (focus (first | exact .inl (by assumption) | exact .inl (SqL.of (by assumption)) | exact .inr (by assumption) | exact .inr (SqT.of (by assumption)))))))
            show (if decide (V.int g.cell = V.int (-1)) = true then _ else _)
            rw [ez]
            cases b3 : decide (g.cell = -1) with
            | true =>
              rw [b3] at q0
              exact q0 _ rfl
            | false =>
              rw [b3] at q0
              (repeat (first | refine ⟨_, rfl, ?_⟩ | refine ⟨_, _, rfl, rfl, ?_⟩ | refine ⟨rfl, ?_⟩ | refine .inl ⟨_, rfl, ?_⟩ | refine .inr ⟨_, rfl, ?_⟩ | refine ⟨.inr ⟨by decide, by decide⟩, ?_⟩ | refine ⟨⟨by decide, by decide⟩, ?_⟩ | refine ⟨⟨by decide, by decide, by decide⟩, ?_⟩ | refine ⟨.inr ⟨by omega, by omega⟩, ?_⟩ | refine ⟨(by show (0 : Int) < _; first | decide | omega), ?_⟩ | refine ⟨Nat.le_trans (Nat.le_of_ble_eq_true rfl : _ ≤ 50) (by decide), ?_⟩ | refine ⟨_, _, _, _, rfl, rfl, upd_same, rfl, ?_⟩ | refine ⟨_, _, _, _, rfl, rfl, SqL.of upd_same, rfl, ?_⟩ | refine ⟨_, _, _, _, rfl, rfl, SqT.of upd_same, rfl, ?_⟩ | refine ⟨_, _, rfl, .inl (SqL.of upd_same), ?_⟩ | refine ⟨_, _, rfl, .inr (SqT.of upd_same), ?_⟩ | (refine' ⟨_, _, _, _, rfl, rfl, _, _, _⟩; rotate_left 2; (focus (first | assumption | exact SqL.of (by assumption) | exact SqT.of (by assumption) | exact Same.seq (by assumption) (by assumption))); (focus (exact rfl))) | (refine' ⟨_, _, rfl, _, _⟩; rotate_left 1; (focus (first | exact .inl (by assumption) | exact .inl (SqL.of (by assumption)) | exact .inr (by assumption) | exact .inr (SqT.of (by assumption)))))))
              show (if decide (V.int f.cell = V.int g.cell) = true then _ else _)
              rw [ez]
              cases b4 : decide (f.cell = g.cell) with
              | false => exact q0 _ (by unfold cellB; rw [b4]; rfl)
              | true =>
                (repeat (first | refine ⟨_, rfl, ?_⟩ | refine ⟨_, _, rfl, rfl, ?_⟩ | refine ⟨rfl, ?_⟩ | refine .inl ⟨_, rfl, ?_⟩ | refine .inr ⟨_, rfl, ?_⟩ | refine ⟨.inr ⟨by decide, by decide⟩, ?_⟩ | refine ⟨⟨by decide, by decide⟩, ?_⟩ | refine ⟨⟨by decide, by decide, by decide⟩, ?_⟩ | refine ⟨.inr ⟨by omega, by omega⟩, ?_⟩ | refine ⟨(by show (0 : Int) < _; first | decide | omega), ?_⟩ | refine ⟨Nat.le_trans (Nat.le_of_ble_eq_true rfl : _ ≤ 50) (by decide), ?_⟩ | refine ⟨_, _, _, _, rfl, rfl, upd_same, rfl, ?_⟩ | refine ⟨_, _, _, _, rfl, rfl, SqL.of upd_same, rfl, ?_⟩ | refine ⟨_, _, _, _, rfl, rfl, SqT.of upd_same, rfl, ?_⟩ | refine ⟨_, _, rfl, .inl (SqL.of upd_same), ?_⟩ | refine ⟨_, _, rfl, .inr (SqT.of upd_same), ?_⟩ | (refine' ⟨_, _, _, _, rfl, rfl, _, _, _⟩; rotate_left 2; (focus (first | assumption | exact SqL.of (by assumption) | exact SqT.of (by assumption) | exact Same.seq (by assumption) (by assumption))); (focus (exact rfl))) | (refine' ⟨_, _, rfl, _, _⟩; rotate_left 1; (focus (first | exact .inl (by assumption) | exact .inl (SqL.of (by assumption)) | exact .inr (by assumption) | exact .inr (SqT.of (by assumption)))))))
                show Q (.bl (decide (V.int f.plus = V.int g.plus))) H
                rw [ez]
                exact q0 _ (by unfold cellB; rw [b4]; rfl)
    | false =>
      have hff : ffB f.sec g.sec = true := by rw [hf]; rfl
      (repeat (first | refine ⟨_, rfl, ?_⟩ | refine ⟨_, _, rfl, rfl, ?_⟩ | refine ⟨rfl, ?_⟩ | refine .inl ⟨_, rfl, ?_⟩ | refine .inr ⟨_, rfl, ?_⟩ | refine ⟨.inr ⟨by decide, by decide⟩, ?_⟩ | refine ⟨⟨by decide, by decide⟩, ?_⟩ | refine ⟨⟨by decide, by decide, by decide⟩, ?_⟩ | refine ⟨.inr ⟨by omega, by omega⟩, ?_⟩ | refine ⟨(by show (0 : Int) < _; first | decide | omega), ?_⟩ | refine ⟨Nat.le_trans (Nat.le_of_ble_eq_true rfl : _ ≤ 50) (by decide), ?_⟩ | refine ⟨_, _, _, _, rfl, rfl, upd_same, rfl, ?_⟩ | refine ⟨_, _, _, _, rfl, rfl, SqL.of upd_same, rfl, ?_⟩ | refine ⟨_, _, _, _, rfl, rfl, SqT.of upd_same, rfl, ?_⟩ | refine ⟨_, _, rfl, .inl (SqL.of upd_same), ?_⟩ | refine ⟨_, _, rfl, .inr (SqT.of upd_same), ?_⟩ | (refine' ⟨_, _, _, _, rfl, rfl, _, _, _⟩; rotate_left 2; (focus (first | assumption | exact SqL.of (by assumption) | exact SqT.of (by assumption) | exact Same.seq (by assumption) (by assumption))); (focus (exact rfl))) | (refine' ⟨_, _, rfl, _, _⟩; rotate_left 1; (focus (first | exact .inl (by assumption) | exact .inl (SqL.of (by assumption)) | exact .inr (by assumption) | exact .inr (SqT.of (by assumption)))))))
      refine ite2 (fun e1 => ?_) (fun e1 => ?_)
      · have e1 : f.lo < g.lo := of_decide_eq_true e1
        (repeat (first | refine ⟨_, rfl, ?_⟩ | refine ⟨_, _, rfl, rfl, ?_⟩ | refine ⟨rfl, ?_⟩ | refine .inl ⟨_, rfl, ?_⟩ | refine .inr ⟨_, rfl, ?_⟩ | refine ⟨.inr ⟨by decide, by decide⟩, ?_⟩ | refine ⟨⟨by decide, by decide⟩, ?_⟩ | refine ⟨⟨by decide, by decide, by decide⟩, ?_⟩ | refine ⟨.inr ⟨by omega, by omega⟩, ?_⟩ | refine ⟨(by show (0 : Int) < _; first | decide | omega), ?_⟩ | refine ⟨Nat.le_trans (Nat.le_of_ble_eq_true rfl : _ ≤ 50) (by decide), ?_⟩ | refine ⟨_, _, _, _, rfl, rfl, upd_same, rfl, ?_⟩ | refine ⟨_, _, _, _, rfl, rfl, SqL.of upd_same, rfl, ?_⟩ | refine ⟨_, _, _, _, rfl, rfl, SqT.of upd_same, rfl, ?_⟩ | refine ⟨_, _, rfl, .inl (SqL.of upd_same), ?_⟩ | refine ⟨_, _, rfl, .inr (SqT.of upd_same), ?_⟩ | (refine' ⟨_, _, _, _, rfl, rfl, _, _, _⟩; rotate_left 2; (focus (first | assumption | exact SqL.of (by assumption) | exact SqT.of (by assumption) | exact Same.seq (by assumption) (by assumption))); (focus (exact rfl))) | (refine' ⟨_, _, rfl, _, _⟩; rotate_left 1; (focus (first | exact .inl (by assumption) | exact .inl (SqL.of (by assumption)) | exact .inr (by assumption) | exact .inr (SqT.of (by assumption)))))))
        exact q0 _ (by rw [hff, decide_eq_false (p := g.lo ≤ f.lo) (by omega)]; rfl)
      · have e1 : ¬ f.lo < g.lo := fun z => e1 (decide_eq_true z)
        have g1 : decide (g.lo ≤ f.lo) = true := decide_eq_true (by omega)
        (repeat (first | refine ⟨_, rfl, ?_⟩ | refine ⟨_, _, rfl, rfl, ?_⟩ | refine ⟨rfl, ?_⟩ | refine .inl ⟨_, rfl, ?_⟩ | refine .inr ⟨_, rfl, ?_⟩ | refine ⟨.inr ⟨by decide, by decide⟩, ?_⟩ | refine ⟨⟨by decide, by decide⟩, ?_⟩ | refine ⟨⟨by decide, by decide, by decide⟩, ?_⟩ | refine ⟨.inr ⟨by omega, by omega⟩, ?_⟩ | refine ⟨(by show (0 : Int) < _; first | decide | omega), ?_⟩ | refine ⟨Nat.le_trans (Nat.le_of_ble_eq_true rfl : _ ≤ 50) (by decide), ?_⟩ | refine ⟨_, _, _, _, rfl, rfl, upd_same, rfl, ?_⟩ | refine ⟨_, _, _, _, rfl, rfl, SqL.of upd_same, rfl, ?_⟩ | refine ⟨_, _, _, _, rfl, rfl, SqT.of upd_same, rfl, ?_⟩ | refine ⟨_, _, rfl, .inl (SqL.of upd_same), ?_⟩ | refine ⟨_, _, rfl, .inr (SqT.of upd_same), ?_⟩ | (refine' ⟨_, _, _, _, rfl, rfl, _, _, _⟩; rotate_left 2; (focus (first | assumption | exact SqL.of (by assumption) | exact SqT.of (by assumption) | exact Same.seq (by assumption) (by assumption))); (focus (exact rfl))) | (refine' ⟨_, _, rfl, _, _⟩; rotate_left 1; (focus (first | exact .inl (by assumption) | exact .inl (SqL.of (by assumption)) | exact .inr (by assumption) | exact .inr (SqT.of (by assumption)))))))
        refine ite2 (fun e2 => ?_) (fun e2 => ?_)
        · have e2 : g.hi < f.hi := of_decide_eq_true e2
          (repeat (first | refine ⟨_, rfl, ?_⟩ | refine ⟨_, _, rfl, rfl, ?_⟩ | refine ⟨rfl, ?_⟩ | refine .inl ⟨_, rfl, ?_⟩ | refine .inr ⟨_, rfl, ?_⟩ | refine ⟨.inr ⟨by decide, by decide⟩, ?_⟩ | refine ⟨⟨by decide, by decide⟩, ?_⟩ | refine ⟨⟨by decide, by decide, by decide⟩, ?_⟩ | refine ⟨.inr ⟨by omega, by omega⟩, ?_⟩ | refine ⟨(by show (0 : Int) < _; first | decide | omega), ?_⟩ | refine ⟨Nat.le_trans (Nat.le_of_ble_eq_true rfl : _ ≤ 50) (by decide), ?_⟩ | refine ⟨_, _, _, _, rfl, rfl, upd_same, rfl, ?_⟩ | refine ⟨_, _, _, _, rfl, rfl, SqL.of upd_same, rfl, ?_⟩ | refine ⟨_, _, _, _, rfl, rfl, SqT.of upd_same, rfl, ?_⟩ | refine ⟨_, _, rfl, .inl (SqL.of upd_same), ?_⟩ | refine ⟨_, _, rfl, .inr (SqT.of upd_same), ?_⟩ | (refine' ⟨_, _, _, _, rfl, rfl, _, _, _⟩; rotate_left 2; (focus (first | assumption | exact SqL.of (by assumption) | exact SqT.of (by assumption) | exact Same.seq (by assumption) (by assumption))); (focus (exact rfl))) | (refine' ⟨_, _, rfl, _, _⟩; rotate_left 1; (focus (first | exact .inl (by assumption) | exact .inl (SqL.of (by assumption)) | exact .inr (by assumption) | exact .inr (SqT.of (by assumption)))))))
          exact q0 _ (by rw [hff, g1, decide_eq_false (p := f.hi ≤ g.hi) (by omega)]; rfl)
        · have e2 : ¬ g.hi < f.hi := fun z => e2 (decide_eq_true z)
          have g2 : decide (f.hi ≤ g.hi) = true := decide_eq_true (by omega)
          rw [hff, g1, g2] at q0
          (repeat (first | refine ⟨_, rfl, ?_⟩ | refine ⟨_, _, rfl, rfl, ?_⟩ | refine ⟨rfl, ?_⟩ | refine .inl ⟨_, rfl, ?_⟩ | refine .inr ⟨_, rfl, ?_⟩ | refine ⟨.inr ⟨by decide, by decide⟩, ?_⟩ | refine ⟨⟨by decide, by decide⟩, ?_⟩ | refine ⟨⟨by decide, by decide, by decide⟩, ?_⟩ | refine ⟨.inr ⟨by omega, by omega⟩, ?_⟩ | refine ⟨(by show (0 : Int) < _; first | decide | omega), ?_⟩ | refine ⟨Nat.le_trans (Nat.le_of_ble_eq_true rfl : _ ≤ 50) (by decide), ?_⟩ | refine ⟨_, _, _, _, rfl, rfl, upd_same, rfl, ?_⟩ | refine ⟨_, _, _, _, rfl, rfl, SqL.of upd_same, rfl, ?_⟩ | refine ⟨_, _, _, _, rfl, rfl, SqT.of upd_same, rfl, ?_⟩ | refine ⟨_, _, rfl, .inl (SqL.of upd_same), ?_⟩ | refine ⟨_, _, rfl, .inr (SqT.of upd_same), ?_⟩ | (refine' ⟨_, _, _, _, rfl, rfl, _, _, _⟩; rotate_left 2; (focus (first | assumption | exact SqL.of (by assumption) | exact SqT.of (by assumption) | exact Same.seq (by assumption) (by assumption))); (focus (exact rfl))) | (refine' ⟨_, _, rfl, _, _⟩; rotate_left 1; (focus (first | exact .inl (by assumption) | exact .inl (SqL.of (by assumption)) | exact .inr (by assumption) | exact .inr (SqT.of (by assumption)))))))
          show (if decide (V.int g.cell = V.int (-1)) = true then _ else _)
          rw [ez]
          cases b3 : decide (g.cell = -1) with
          | true =>
            rw [b3] at q0
            exact q0 _ rfl
          | false =>
            rw [b3] at q0
            (repeat (first | refine ⟨_, rfl, ?_⟩ | refine ⟨_, _, rfl, rfl, ?_⟩ | refine ⟨rfl, ?_⟩ | refine .inl ⟨_, rfl, ?_⟩ | refine .inr ⟨_, rfl, ?_⟩ | refine ⟨.inr ⟨by decide, by decide⟩, ?_⟩ | refine ⟨⟨by decide, by decide⟩, ?_⟩ | refine ⟨⟨by decide, by decide, by decide⟩, ?_⟩ | refine ⟨.inr ⟨by omega, by omega⟩, ?_⟩ | refine ⟨(by show (0 : Int) < _; first | decide | omega), ?_⟩ | refine ⟨Nat.le_trans (Nat.le_of_ble_eq_true rfl : _ ≤ 50) (by decide), ?_⟩ | refine ⟨_, _, _, _, rfl, rfl, upd_same, rfl, ?_⟩ | refine ⟨_, _, _, _, rfl, rfl, SqL.of upd_same, rfl, ?_⟩ | refine ⟨_, _, _, _, rfl, rfl, SqT.of upd_same, rfl, ?_⟩ | refine ⟨_, _, rfl, .inl (SqL.of upd_same), ?_⟩ | refine ⟨_, _, rfl, .inr (SqT.of upd_same), ?_⟩ | (refine' ⟨_, _, _, _, rfl, rfl, _, _, _⟩; rotate_left 2; (focus (first | assumption | exact SqL.of (by assumption) | exact SqT.of (by assumption) | exact Same.seq (by assumption) (by assumption))); (focus (exact rfl))) | (refine' ⟨_, _, rfl, _, _⟩; rotate_left 1; (focus (first | exact .inl (by assumption) | exact .inl (SqL.of (by assumption)) | exact .inr (by assumption) | exact .inr (SqT.of (by assumption)))))))
            show (if decide (V.int f.cell = V.int g.cell) = true then _ else _)
            rw [ez]
            cases b4 : decide (f.cell = g.cell) with
            | false => exact q0 _ (by unfold cellB; rw [b4]; rfl)
            | true =>
              (repeat (first | refine ⟨_, rfl, ?_⟩ | refine ⟨_, _, rfl, rfl, ?_⟩ | refine ⟨rfl, ?_⟩ | refine .inl ⟨_, rfl, ?_⟩ | refine .inr ⟨_, rfl, ?_⟩ | refine ⟨.inr ⟨by decide, by decide⟩, ?_⟩ | refine ⟨⟨by decide, by decide⟩, ?_⟩ | refine ⟨⟨by decide, by decide, by decide⟩, ?_⟩ | refine ⟨.inr ⟨by omega, by omega⟩, ?_⟩ | refine ⟨(by show (0 : Int) < _; first | decide | omega), ?_⟩ | refine ⟨Nat.le_trans (Nat.le_of_ble_eq_true rfl : _ ≤ 50) (by decide), ?_⟩ | refine ⟨_, _, _, _, rfl, rfl, upd_same, rfl, ?_⟩ | refine ⟨_, _, _, _, rfl, rfl, SqL.of upd_same, rfl, ?_⟩ | refine ⟨_, _, _, _, rfl, rfl, SqT.of upd_same, rfl, ?_⟩ | refine ⟨_, _, rfl, .inl (SqL.of upd_same), ?_⟩ | refine ⟨_, _, rfl, .inr (SqT.of upd_same), ?_⟩ | (refine' ⟨_, _, _, _, rfl, rfl, _, _, _⟩; rotate_left 2; (focus (first | assumption | exact SqL.of (by assumption) | exact SqT.of (by assumption) | exact Same.seq (by assumption) (by assumption))); (focus (exact rfl))) | (refine' ⟨_, _, rfl, _, _⟩; rotate_left 1; (focus (first | exact .inl (by assumption) | exact .inl (SqL.of (by assumption)) | exact .inr (by assumption) | exact .inr (SqT.of (by assumption)))))))
              show Q (.bl (decide (V.int f.plus = V.int g.plus))) H
              rw [ez]
              exact q0 _ (by unfold cellB; rw [b4]; rfl)
theorem ok_lfits (T : Tx K mg) : FnOk P w K mg base CX0 2 T.a_law_fits T.d_law_fits ["state", "other"] (spLFits K) := by
  have G_law_fact_fits : FnOk P w K mg base CX0 1 T.a_law_fact_fits T.d_law_fact_fits ["fact", "other"] (spFact K) := ok_lff T
  refine T.F_law_fits.ok sc_law_fits (fun vs H Q E h => ?_) (fun cdv A outer s H vs Q E hr h => ?_)
  · obtain ⟨H0, L, a, b, fs, c, gs, d, rfl, _⟩ := h
    rfl
  · obtain ⟨H0, L, a, b, fs, c, gs, d, rfl, o, h1, h2, q⟩ := h
    have hr_law_fact_fits : Room 1 _ := hr
    refine ⟨_, (pss_cons (ps_for PassesOwn.never rfl (pi_range1 rfl T.z_range (pa_cons pe_int pa_nil)) (pg_name (i := 2) sc_law_fits.nd rfl (.inl rfl))
        (pss_one (ps_if (pt_not (pt_val (pe_call G_law_fact_fits hr_law_fact_fits (by rfl) T.g_law_fact_fits T.F_law_fact_fits.kp T.b_law_fact_fits .nil pass0 (pa_cons (pe_ix ix_tup (pv 0) (pv 2) (fun _ _ => rfl)) (pa_cons (pe_ix ix_tup (pv 1) (pv 2) (fun _ _ => rfl)) pa_nil)))))
        (pss_one (ps_ret pe_bl))
        pss_nil)))
        (pss_one (ps_ret (pe_or (pe_cmpR op_eq (pe_ix ix_tup (pv 0) pe_int (fun _ _ => rfl)) pe_str (nomark _)) (pe_one (pe_cmpR op_eq (pe_ix ix_tup (pv 1) pe_int (fun _ _ => rfl)) pe_str (nomark _))))))), ?_⟩
    obtain ⟨xs, x1, x2, x3, x4⟩ := h1.at_
    obtain ⟨ys, y1, y2, y3, y4⟩ := h2.at_
    have hfl : fs.length = 16 := h1.choose_spec.2.2
    have hgl : gs.length = 16 := h2.choose_spec.2.2
    refine ⟨16, rfl, by decide, by decide, for_range (lo := 0) (n := 16) (fun i σ H' => ∃ v, σ = [some (.ref a), some (.ref b), v] ∧ Same H H' ∧ allB fs gs = allB (fs.drop i) (gs.drop i)) ⟨none, rfl, Same.refl H, rfl⟩ ?_ ?_⟩
    · rintro i σ H' hi ⟨v, rfl, sm, e5⟩
      have o' := o.mono sm
      have hif : fs[i]? = some (fs[i]'(by omega)) := List.getElem?_eq_getElem (by omega)
      have hig : gs[i]? = some (gs[i]'(by omega)) := List.getElem?_eq_getElem (by omega)
      obtain ⟨r1, hr1, t1⟩ := x2 i _ hif
      obtain ⟨r2, hr2, t2⟩ := y2 i _ hig
      have hi0 : ∀ (zs : List V) (v : V), zs[i]? = some v → atI zs (0 + (i : Int)) = some v := fun zs v h => by
        rw [Int.zero_add]
        exact atI_nat h
      have e6 := allB_drop hif hig
      refine ⟨_, rfl, _, rfl, a, _, _, _, rfl, rfl, x1.sq o'.at_, hi0 _ _ hr1, _, rfl, _, rfl, b, _, _, _, rfl, rfl, y1.sq o'.at_, hi0 _ _ hr2, ?_⟩
      dsimp only [tCons, tC, tNil]
      refine ⟨H0, L, r1, r2, _, _, rfl, o', t1, t2, fun H7 s7 => ⟨_, rfl, ?_⟩⟩
      cases hb : faB (fs[i]'(by omega)) (gs[i]'(by omega)) with
      | false =>
        have := q H7 (sm.trans s7)
        rw [e5, e6, hb, Bool.false_and, Bool.and_false] at this
        (repeat (first | refine ⟨_, rfl, ?_⟩ | refine ⟨_, _, rfl, rfl, ?_⟩ | refine ⟨rfl, ?_⟩ | refine .inl ⟨_, rfl, ?_⟩ | refine .inr ⟨_, rfl, ?_⟩ | refine ⟨.inr ⟨by decide, by decide⟩, ?_⟩ | refine ⟨⟨by decide, by decide⟩, ?_⟩ | refine ⟨⟨by decide, by decide, by decide⟩, ?_⟩ | refine ⟨.inr ⟨by omega, by omega⟩, ?_⟩ | refine ⟨(by show (0 : Int) < _; first | decide | omega), ?_⟩ | refine ⟨Nat.le_trans (Nat.le_of_ble_eq_true rfl : _ ≤ 50) (by decide), ?_⟩ | refine ⟨_, _, _, _, rfl, rfl, upd_same, rfl, ?_⟩ | refine ⟨_, _, _, _, rfl, rfl, SqL.of upd_same, rfl, ?_⟩ | refine ⟨_, _, _, _, rfl, rfl, SqT.of upd_same, rfl, ?_⟩ | refine ⟨_, _, rfl, .inl (SqL.of upd_same), ?_⟩ | refine ⟨_, _, rfl, .inr (SqT.of upd_same), ?_⟩ | (refine' ⟨_, _, _, _, rfl, rfl, _, _, _⟩; rotate_left 2; (focus (first | assumption | exact SqL.of (by assumption) | exact SqT.of (by assumption) | exact Same.seq (by assumption) (by assumption))); (focus (exact rfl))) | (refine' ⟨_, _, rfl, _, _⟩; rotate_left 1; (focus (first | exact .inl (by assumption) | exact .inl (SqL.of (by assumption)) | exact .inr (by assumption) | exact .inr (SqT.of (by assumption)))))))
        exact this
      | true => exact ⟨_, rfl, sm.trans s7, by rw [e5, e6, hb, Bool.true_and]⟩
    · rintro σ H' ⟨v, rfl, sm, e5⟩
      have o' := o.mono sm
      have k1 := x1.sq o'.at_
      have k2 := y1.sq o'.at_
      rw [e5, List.drop_of_length_le (by omega), List.drop_of_length_le (by omega)] at q
      have q' := q H' sm
      have e7 : (ffB c d && allB [] []) = (!c || d) := Bool.and_true _
      rw [e7] at q'
      refine ⟨_, rfl, a, _, _, _, rfl, rfl, k1, atI_nat (j := 16) x3, ?_⟩
      (repeat (first | refine ⟨_, rfl, ?_⟩ | refine ⟨_, _, rfl, rfl, ?_⟩ | refine ⟨rfl, ?_⟩ | refine .inl ⟨_, rfl, ?_⟩ | refine .inr ⟨_, rfl, ?_⟩ | refine ⟨.inr ⟨by decide, by decide⟩, ?_⟩ | refine ⟨⟨by decide, by decide⟩, ?_⟩ | refine ⟨⟨by decide, by decide, by decide⟩, ?_⟩ | refine ⟨.inr ⟨by omega, by omega⟩, ?_⟩ | refine ⟨(by show (0 : Int) < _; first | decide | omega), ?_⟩ | refine ⟨Nat.le_trans (Nat.le_of_ble_eq_true rfl : _ ≤ 50) (by decide), ?_⟩ | refine ⟨_, _, _, _, rfl, rfl, upd_same, rfl, ?_⟩ | refine ⟨_, _, _, _, rfl, rfl, SqL.of upd_same, rfl, ?_⟩ | refine ⟨_, _, _, _, rfl, rfl, SqT.of upd_same, rfl, ?_⟩ | refine ⟨_, _, rfl, .inl (SqL.of upd_same), ?_⟩ | refine ⟨_, _, rfl, .inr (SqT.of upd_same), ?_⟩ | (refine' ⟨_, _, _, _, rfl, rfl, _, _, _⟩; rotate_left 2; (focus (first | assumption | exact SqL.of (by assumption) | exact SqT.of (by assumption) | exact Same.seq (by assumption) (by assumption))); (focus (exact rfl))) | (refine' ⟨_, _, rfl, _, _⟩; rotate_left 1; (focus (first | exact .inl (by assumption) | exact .inl (SqL.of (by assumption)) | exact .inr (by assumption) | exact .inr (SqT.of (by assumption)))))))
      show (if decide (V.str (fl c) = V.str "public") = true then _ else _)
      rw [fl_pub]
      cases c with
      | false => exact q'
      | true =>
        (repeat (first | refine ⟨_, rfl, ?_⟩ | refine ⟨_, _, rfl, rfl, ?_⟩ | refine ⟨rfl, ?_⟩ | refine .inl ⟨_, rfl, ?_⟩ | refine .inr ⟨_, rfl, ?_⟩ | refine ⟨.inr ⟨by decide, by decide⟩, ?_⟩ | refine ⟨⟨by decide, by decide⟩, ?_⟩ | refine ⟨⟨by decide, by decide, by decide⟩, ?_⟩ | refine ⟨.inr ⟨by omega, by omega⟩, ?_⟩ | refine ⟨(by show (0 : Int) < _; first | decide | omega), ?_⟩ | refine ⟨Nat.le_trans (Nat.le_of_ble_eq_true rfl : _ ≤ 50) (by decide), ?_⟩ | refine ⟨_, _, _, _, rfl, rfl, upd_same, rfl, ?_⟩ | refine ⟨_, _, _, _, rfl, rfl, SqL.of upd_same, rfl, ?_⟩ | refine ⟨_, _, _, _, rfl, rfl, SqT.of upd_same, rfl, ?_⟩ | refine ⟨_, _, rfl, .inl (SqL.of upd_same), ?_⟩ | refine ⟨_, _, rfl, .inr (SqT.of upd_same), ?_⟩ | (refine' ⟨_, _, _, _, rfl, rfl, _, _, _⟩; rotate_left 2; (focus (first | assumption | exact SqL.of (by assumption) | exact SqT.of (by assumption) | exact Same.seq (by assumption) (by assumption))); (focus (exact rfl))) | (refine' ⟨_, _, rfl, _, _⟩; rotate_left 1; (focus (first | exact .inl (by assumption) | exact .inl (SqL.of (by assumption)) | exact .inr (by assumption) | exact .inr (SqT.of (by assumption)))))))
        refine ⟨b, _, _, _, rfl, rfl, k2, atI_nat (j := 16) y3, ?_⟩
        (repeat (first | refine ⟨_, rfl, ?_⟩ | refine ⟨_, _, rfl, rfl, ?_⟩ | refine ⟨rfl, ?_⟩ | refine .inl ⟨_, rfl, ?_⟩ | refine .inr ⟨_, rfl, ?_⟩ | refine ⟨.inr ⟨by decide, by decide⟩, ?_⟩ | refine ⟨⟨by decide, by decide⟩, ?_⟩ | refine ⟨⟨by decide, by decide, by decide⟩, ?_⟩ | refine ⟨.inr ⟨by omega, by omega⟩, ?_⟩ | refine ⟨(by show (0 : Int) < _; first | decide | omega), ?_⟩ | refine ⟨Nat.le_trans (Nat.le_of_ble_eq_true rfl : _ ≤ 50) (by decide), ?_⟩ | refine ⟨_, _, _, _, rfl, rfl, upd_same, rfl, ?_⟩ | refine ⟨_, _, _, _, rfl, rfl, SqL.of upd_same, rfl, ?_⟩ | refine ⟨_, _, _, _, rfl, rfl, SqT.of upd_same, rfl, ?_⟩ | refine ⟨_, _, rfl, .inl (SqL.of upd_same), ?_⟩ | refine ⟨_, _, rfl, .inr (SqT.of upd_same), ?_⟩ | (refine' ⟨_, _, _, _, rfl, rfl, _, _, _⟩; rotate_left 2; (focus (first | assumption | exact SqL.of (by assumption) | exact SqT.of (by assumption) | exact Same.seq (by assumption) (by assumption))); (focus (exact rfl))) | (refine' ⟨_, _, rfl, _, _⟩; rotate_left 1; (focus (first | exact .inl (by assumption) | exact .inl (SqL.of (by assumption)) | exact .inr (by assumption) | exact .inr (SqT.of (by assumption)))))))
        rw [fl_sec]
        exact q'
end
end K70

set_option Elab.async false
set_option linter.all false
set_option maxRecDepth 100000
set_option maxHeartbeats 4000000
namespace K70
open PySem PySem.Spec PyProof.Rows L2 Lw GxR WD
theorem cut16 {xs : List V} (h : xs.length = 17) : cutV xs none (some 16) = xs.take 16 := by
  unfold cutV
  have e := HT.sIx_nat xs.length xs.length 16
  rw [show ((16 : Nat) : Int) = 16 from rfl] at e
  rw [HT.sIx_none, e, h]
  rfl
theorem not16 {xs : List V} (h : xs.length = 17) : ¬ (HT.sIx xs.length 0 none = 0 ∧ HT.sIx xs.length xs.length (some 16) = xs.length) := by
  have e := HT.sIx_nat xs.length xs.length 16
  rw [show ((16 : Nat) : Int) = 16 from rfl] at e
  rw [e, h]
  exact fun z => absurd z.2 (by decide)
/-- what a wider fact keeps -/
def fitP (f g : Fa) : Prop := (f.sec = true → g.sec = true) ∧ g.lo ≤ f.lo ∧ f.hi ≤ g.hi ∧ (g.cell = -1 ∨ (f.cell = g.cell ∧ f.plus = g.plus))
theorem fitP.rfl {f : Fa} : fitP f f := ⟨id, Int.le_refl _, Int.le_refl _, .inr ⟨_root_.rfl, _root_.rfl⟩⟩
theorem fitP.trans {f g h : Fa} (a : fitP f g) (b : fitP g h) : fitP f h := by
  obtain ⟨a1, a2, a3, a4⟩ := a
  obtain ⟨b1, b2, b3, b4⟩ := b
  refine ⟨fun z => b1 (a1 z), by omega, by omega, ?_⟩
  rcases b4 with z | ⟨z1, z2⟩
  · exact .inl z
  · rcases a4 with y | ⟨y1, y2⟩
    · exact .inl (z1 ▸ y)
    · exact .inr ⟨y1.trans z1, y2.trans z2⟩
theorem fitP.b {f g : Fa} (a : fitP f g) : faB f g = true := by
  obtain ⟨a1, a2, a3, a4⟩ := a
  unfold faB
  rw [decide_eq_true a2, decide_eq_true a3]
  have h1 : ffB f.sec g.sec = true := by
    unfold ffB
    cases hf : f.sec with
    | false => rfl
    | true => rw [a1 hf]; rfl
  rw [h1]
  rcases a4 with z | ⟨z1, z2⟩
  · rw [decide_eq_true z]
    rfl
  · unfold cellB
    rw [decide_eq_true z1, decide_eq_true z2, Bool.and_self, Bool.or_true]
    rfl
theorem fitP.all : ∀ {fs gs : List Fa}, Paired fitP fs gs → allB fs gs = true
  | _, _, .nil => _root_.rfl
  | _, _, .cons r t => by
    unfold allB
    rw [r.b, fitP.all t]
    rfl
theorem fitP.refls : ∀ fs : List Fa, Paired fitP fs fs
  | [] => .nil
  | _ :: fs => .cons fitP.rfl (fitP.refls fs)
theorem paired_setR {α β : Type} {R : α → β → Prop} {y z : β} (t : ∀ x, R x y → R x z) : ∀ {xs : List α} {ys : List β} {i : Nat}, Paired R xs ys → ys[i]? = some y → Paired R xs (ys.set i z)
  | _, _, 0, .cons r q, e => by
    cases e
    exact .cons (t _ r) q
  | _, _, _ + 1, .cons r q, e => .cons r (paired_setR t q e)
/-! ### wider states, near states -/
def spWf (K : PySem.W.Frag) (P1 P2 : Addr) : Sp := fun vs H Q _ => ∃ H0 p L r f, vs = [.ref p, .ref r] ∧ Wd P1 P2 H0 H p L ∧ TupAt K L r (Fa.row f) ∧ Fa.ok f ∧ ∀ u g H', Fa.ok g → fitP f g → Wd P1 P2 H0 H' p ((u, .tup (Fa.row g)) :: L) → Q (.ref u) H'
def spWs (K : PySem.W.Frag) (P1 P2 : Addr) : Sp := fun vs H Q _ => ∃ H0 p L a fs c, vs = [.ref p, .ref a] ∧ Wd P1 P2 H0 H p L ∧ StAt K L a fs c ∧ (∀ f ∈ fs, Fa.ok f) ∧ ∀ u gs d N H', L <:+ N → Wd P1 P2 H0 H' p N → StAt K N u gs d → (∀ f ∈ gs, Fa.ok f) → ffB c d = true → Paired fitP fs gs → Q (.ref u) H'
def IW (P1 P2 : Addr) (H0 : Hp) (p r : Addr) (L : List (Addr × HO)) (f : Fa) : L2.St → Hp → Prop := fun σ H => ∃ b lo hi ce pl ch, σ = [some (.ref p), some (.ref r), some (.str (fl b)), some (.int lo), some (.int hi), some (.int ce), some (.int pl), some (.int ch)] ∧ (Fa.ok ⟨b, lo, hi, ce, pl⟩ ∧ fitP f ⟨b, lo, hi, ce, pl⟩) ∧ Wd P1 P2 H0 H p L
section
variable {P : Program} {w : World} {K : PySem.W.Frag} {mg : Str → Option Value} {base : Heap} {P1 P2 : Addr}
theorem ok_wf (T : Tx K mg) : FnOk P w K mg base CX0 2 T.a_law_wider_fact T.d_law_wider_fact ["source", "fact"] (spWf K P1 P2) := by
  have G_law_draw : FnOk P w K mg base CX0 1 T.a_law_draw T.d_law_draw ["source", "many"] spDraw := ok_draw T
  refine T.F_law_wider_fact.ok sc_law_wider_fact (fun vs H Q E h => ?_) (fun cdv A outer s H vs Q E hr h => ?_)
  · obtain ⟨H0, p, L, r, f, rfl, _⟩ := h
    rfl
  · obtain ⟨H0, p, L, r, f, rfl, o, hf, hk, q⟩ := h
    have hr_law_draw : Room 1 _ := hr
    refine ⟨_, (pss_cons (ps_asg (pv 1) (pg_tup rfl (pgs_cons (pg_name (i := 2) sc_law_wider_fact.nd rfl (.inl rfl)) (pgs_cons (pg_name (i := 3) sc_law_wider_fact.nd rfl (.inl rfl)) (pgs_cons (pg_name (i := 4) sc_law_wider_fact.nd rfl (.inl rfl)) (pgs_cons (pg_name (i := 5) sc_law_wider_fact.nd rfl (.inl rfl)) (pgs_cons (pg_name (i := 6) sc_law_wider_fact.nd rfl (.inl rfl)) pgs_nil)))))))
        (pss_cons (ps_set (i := 7) sc_law_wider_fact.nd rfl (.inl rfl) (pe_call G_law_draw hr_law_draw (by rfl) T.g_law_draw T.F_law_draw.kp T.b_law_draw .nil pass0 (pa_cons (pv 0) (pa_cons pe_int pa_nil))))
        (C8.pss_cut (ps_if (pt_cmpR op_eq (pv 7) pe_int (nomark _))
        (pss_one (ps_set (i := 2) sc_law_wider_fact.nd rfl (.inl rfl) pe_str))
        pss_nil)
        (C8.pss_cut (ps_if (PW.pt (pw_or (pt_cmpR op_eq (pv 7) pe_int (nomark _)) (pw_or1 (pt_cmpR op_eq (pv 7) pe_int (nomark _)))))
        (pss_one (ps_set (i := 3) sc_law_wider_fact.nd rfl (.inl rfl) (pe_ix ix_list (pe_lst (pa_cons pe_int (pa_cons (pe_callB (call_max2 rfl) (by rfl) T.z_max (by decide +kernel) (pa_cons pe_int (pa_cons (pe_op op_sub (pv 3) pe_int) pa_nil))) (pa_cons (pe_call G_law_draw hr_law_draw (by rfl) T.g_law_draw T.F_law_draw.kp T.b_law_draw .nil pass0 (pa_cons (pv 0) (pa_cons (pe_op op_add (pv 3) pe_int) pa_nil))) pa_nil)))) (pe_call G_law_draw hr_law_draw (by rfl) T.g_law_draw T.F_law_draw.kp T.b_law_draw .nil pass0 (pa_cons (pv 0) (pa_cons pe_int pa_nil))) (fun _ _ => rfl))))
        pss_nil)
        (C8.pss_cut (ps_if (PW.pt (pw_or (pt_cmpR op_eq (pv 7) pe_int (nomark _)) (pw_or1 (pt_cmpR op_eq (pv 7) pe_int (nomark _)))))
        (pss_one (ps_set (i := 4) sc_law_wider_fact.nd rfl (.inl rfl) (pe_ix ix_list (pe_lst (pa_cons pe_int (pa_cons (pe_callB (call_min2 rfl) (by rfl) T.z_min (by decide +kernel) (pa_cons pe_int (pa_cons (pe_op op_add (pv 4) pe_int) pa_nil))) (pa_cons (pe_op op_add (pv 4) (pe_call G_law_draw hr_law_draw (by rfl) T.g_law_draw T.F_law_draw.kp T.b_law_draw .nil pass0 (pa_cons (pv 0) (pa_cons (pe_op op_sub pe_int (pv 4)) pa_nil)))) pa_nil)))) (pe_call G_law_draw hr_law_draw (by rfl) T.g_law_draw T.F_law_draw.kp T.b_law_draw .nil pass0 (pa_cons (pv 0) (pa_cons pe_int pa_nil))) (fun _ _ => rfl))))
        pss_nil)
        (C8.pss_cut (ps_if (pt_cmpR op_eq (pv 7) pe_int (nomark _))
        (pss_cons (ps_set (i := 5) sc_law_wider_fact.nd rfl (.inl rfl) (pe_un un_neg pe_int))
        (pss_one (ps_set (i := 6) sc_law_wider_fact.nd rfl (.inl rfl) pe_int)))
        pss_nil)
        (pss_one (ps_ret (pe_tup (pa_cons (pv 2) (pa_cons (pv 3) (pa_cons (pv 4) (pa_cons (pv 5) (pa_cons (pv 6) pa_nil)))))))))))))), ?_⟩
    have k1 := hf.sq (H := H) fun q hq => o.mem hq
    refine ⟨_, rfl, r, _, rfl, k1, rfl, ?_⟩
    refine ⟨_, _, rfl, _, _, rfl, _, _, rfl, _, _, rfl, _, _, rfl, rfl, ?_⟩
    refine ⟨_, rfl, ?_⟩
    dsimp only [tCons, tC, tNil]
    refine o.draw (by first | decide | omega) (by first | decide | omega) fun ch H1 c0 c1 o1 => ?_
    refine ⟨IW P1 P2 H0 p r L f, ?_, ?_⟩
    · (repeat (first | refine ⟨_, rfl, ?_⟩ | refine ⟨_, _, rfl, rfl, ?_⟩ | refine ⟨rfl, ?_⟩ | refine .inl ⟨_, rfl, ?_⟩ | refine .inr ⟨_, rfl, ?_⟩ | refine ⟨.inr ⟨by decide, by decide⟩, ?_⟩ | refine ⟨⟨by decide, by decide⟩, ?_⟩ | refine ⟨⟨by decide, by decide, by decide⟩, ?_⟩ | refine ⟨.inr ⟨by omega, by omega⟩, ?_⟩ | refine ⟨(by show (0 : Int) < _; first | decide | omega), ?_⟩ | refine ⟨Nat.le_trans (Nat.le_of_ble_eq_true rfl : _ ≤ 50) (by decide), ?_⟩ | refine ⟨_, _, _, _, rfl, rfl, upd_same, rfl, ?_⟩ | refine ⟨_, _, _, _, rfl, rfl, SqL.of upd_same, rfl, ?_⟩ | refine ⟨_, _, _, _, rfl, rfl, SqT.of upd_same, rfl, ?_⟩ | refine ⟨_, _, rfl, .inl (SqL.of upd_same), ?_⟩ | refine ⟨_, _, rfl, .inr (SqT.of upd_same), ?_⟩ | (refine' ⟨_, _, _, _, rfl, rfl, _, _, _⟩; rotate_left 2; (focus (first | assumption | exact SqL.of (by assumption) | exact SqT.of (by assumption) | exact Same.seq (by assumption) (by assumption))); (focus (exact rfl))) | (refine' ⟨_, _, rfl, _, _⟩; rotate_left 1; (focus (first | exact .inl (by assumption) | exact .inl (SqL.of (by assumption)) | exact .inr (by assumption) | exact .inr (SqT.of (by assumption)))))))
      refine ite2 (fun _ => ?_) (fun _ => ?_)
      · (repeat (first | refine ⟨_, rfl, ?_⟩ | refine ⟨_, _, rfl, rfl, ?_⟩ | refine ⟨rfl, ?_⟩ | refine .inl ⟨_, rfl, ?_⟩ | refine .inr ⟨_, rfl, ?_⟩ | refine ⟨.inr ⟨by decide, by decide⟩, ?_⟩ | refine ⟨⟨by decide, by decide⟩, ?_⟩ | refine ⟨⟨by decide, by decide, by decide⟩, ?_⟩ | refine ⟨.inr ⟨by omega, by omega⟩, ?_⟩ | refine ⟨(by show (0 : Int) < _; first | decide | omega), ?_⟩ | refine ⟨Nat.le_trans (Nat.le_of_ble_eq_true rfl : _ ≤ 50) (by decide), ?_⟩ | refine ⟨_, _, _, _, rfl, rfl, upd_same, rfl, ?_⟩ | refine ⟨_, _, _, _, rfl, rfl, SqL.of upd_same, rfl, ?_⟩ | refine ⟨_, _, _, _, rfl, rfl, SqT.of upd_same, rfl, ?_⟩ | refine ⟨_, _, rfl, .inl (SqL.of upd_same), ?_⟩ | refine ⟨_, _, rfl, .inr (SqT.of upd_same), ?_⟩ | (refine' ⟨_, _, _, _, rfl, rfl, _, _, _⟩; rotate_left 2; (focus (first | assumption | exact SqL.of (by assumption) | exact SqT.of (by assumption) | exact Same.seq (by assumption) (by assumption))); (focus (exact rfl))) | (refine' ⟨_, _, rfl, _, _⟩; rotate_left 1; (focus (first | exact .inl (by assumption) | exact .inl (SqL.of (by assumption)) | exact .inr (by assumption) | exact .inr (SqT.of (by assumption)))))))
        exact ⟨true, f.lo, f.hi, f.cell, f.plus, ch, rfl, ⟨hk, fun _ => rfl, Int.le_refl _, Int.le_refl _, .inr ⟨rfl, rfl⟩⟩, o1⟩
      · exact ⟨f.sec, f.lo, f.hi, f.cell, f.plus, ch, rfl, ⟨hk, fitP.rfl⟩, o1⟩
    · clear o o1 hk k1 c0 c1
      rintro σ H ⟨b, lo, hi, ce, pl, ch, rfl, hk, o⟩
      obtain ⟨⟨k1, k2, k3, k4⟩, m1, m2, m3, m4⟩ := hk
      have m2 : lo ≤ f.lo := m2
      have m3 : f.hi ≤ hi := m3
      have k1 : 0 ≤ lo := k1
      have k2 : lo ≤ hi := k2
      have k3 : hi ≤ 65535 := k3
      refine ⟨IW P1 P2 H0 p r L f, ?_, ?_⟩
      · have stay : IW P1 P2 H0 p r L f [some (.ref p), some (.ref r), some (.str (fl b)), some (.int lo), some (.int hi), some (.int ce), some (.int pl), some (.int ch)] H := ⟨b, lo, hi, ce, pl, ch, rfl, ⟨⟨k1, k2, k3, k4⟩, m1, m2, m3, m4⟩, o⟩
        (repeat (first | refine ⟨_, rfl, ?_⟩ | refine ⟨_, _, rfl, rfl, ?_⟩ | refine ⟨rfl, ?_⟩ | refine .inl ⟨_, rfl, ?_⟩ | refine .inr ⟨_, rfl, ?_⟩ | refine ⟨.inr ⟨by decide, by decide⟩, ?_⟩ | refine ⟨⟨by decide, by decide⟩, ?_⟩ | refine ⟨⟨by decide, by decide, by decide⟩, ?_⟩ | refine ⟨.inr ⟨by omega, by omega⟩, ?_⟩ | refine ⟨(by show (0 : Int) < _; first | decide | omega), ?_⟩ | refine ⟨Nat.le_trans (Nat.le_of_ble_eq_true rfl : _ ≤ 50) (by decide), ?_⟩ | refine ⟨_, _, _, _, rfl, rfl, upd_same, rfl, ?_⟩ | refine ⟨_, _, _, _, rfl, rfl, SqL.of upd_same, rfl, ?_⟩ | refine ⟨_, _, _, _, rfl, rfl, SqT.of upd_same, rfl, ?_⟩ | refine ⟨_, _, rfl, .inl (SqL.of upd_same), ?_⟩ | refine ⟨_, _, rfl, .inr (SqT.of upd_same), ?_⟩ | (refine' ⟨_, _, _, _, rfl, rfl, _, _, _⟩; rotate_left 2; (focus (first | assumption | exact SqL.of (by assumption) | exact SqT.of (by assumption) | exact Same.seq (by assumption) (by assumption))); (focus (exact rfl))) | (refine' ⟨_, _, rfl, _, _⟩; rotate_left 1; (focus (first | exact .inl (by assumption) | exact .inl (SqL.of (by assumption)) | exact .inr (by assumption) | exact .inr (SqT.of (by assumption)))))))
        refine ite2 (fun _ => ?_) (fun _ => ?_)
        · (repeat (first | refine ⟨_, rfl, ?_⟩ | refine ⟨_, _, rfl, rfl, ?_⟩ | refine ⟨rfl, ?_⟩ | refine .inl ⟨_, rfl, ?_⟩ | refine .inr ⟨_, rfl, ?_⟩ | refine ⟨.inr ⟨by decide, by decide⟩, ?_⟩ | refine ⟨⟨by decide, by decide⟩, ?_⟩ | refine ⟨⟨by decide, by decide, by decide⟩, ?_⟩ | refine ⟨.inr ⟨by omega, by omega⟩, ?_⟩ | refine ⟨(by show (0 : Int) < _; first | decide | omega), ?_⟩ | refine ⟨Nat.le_trans (Nat.le_of_ble_eq_true rfl : _ ≤ 50) (by decide), ?_⟩ | refine ⟨_, _, _, _, rfl, rfl, upd_same, rfl, ?_⟩ | refine ⟨_, _, _, _, rfl, rfl, SqL.of upd_same, rfl, ?_⟩ | refine ⟨_, _, _, _, rfl, rfl, SqT.of upd_same, rfl, ?_⟩ | refine ⟨_, _, rfl, .inl (SqL.of upd_same), ?_⟩ | refine ⟨_, _, rfl, .inr (SqT.of upd_same), ?_⟩ | (refine' ⟨_, _, _, _, rfl, rfl, _, _, _⟩; rotate_left 2; (focus (first | assumption | exact SqL.of (by assumption) | exact SqT.of (by assumption) | exact Same.seq (by assumption) (by assumption))); (focus (exact rfl))) | (refine' ⟨_, _, rfl, _, _⟩; rotate_left 1; (focus (first | exact .inl (by assumption) | exact .inl (SqL.of (by assumption)) | exact .inr (by assumption) | exact .inr (SqT.of (by assumption)))))))
          refine ⟨_, _, rfl, ?_⟩
          (repeat (first | refine ⟨_, rfl, ?_⟩ | refine ⟨_, _, rfl, rfl, ?_⟩ | refine ⟨rfl, ?_⟩ | refine .inl ⟨_, rfl, ?_⟩ | refine .inr ⟨_, rfl, ?_⟩ | refine ⟨.inr ⟨by decide, by decide⟩, ?_⟩ | refine ⟨⟨by decide, by decide⟩, ?_⟩ | refine ⟨⟨by decide, by decide, by decide⟩, ?_⟩ | refine ⟨.inr ⟨by omega, by omega⟩, ?_⟩ | refine ⟨(by show (0 : Int) < _; first | decide | omega), ?_⟩ | refine ⟨Nat.le_trans (Nat.le_of_ble_eq_true rfl : _ ≤ 50) (by decide), ?_⟩ | refine ⟨_, _, _, _, rfl, rfl, upd_same, rfl, ?_⟩ | refine ⟨_, _, _, _, rfl, rfl, SqL.of upd_same, rfl, ?_⟩ | refine ⟨_, _, _, _, rfl, rfl, SqT.of upd_same, rfl, ?_⟩ | refine ⟨_, _, rfl, .inl (SqL.of upd_same), ?_⟩ | refine ⟨_, _, rfl, .inr (SqT.of upd_same), ?_⟩ | (refine' ⟨_, _, _, _, rfl, rfl, _, _, _⟩; rotate_left 2; (focus (first | assumption | exact SqL.of (by assumption) | exact SqT.of (by assumption) | exact Same.seq (by assumption) (by assumption))); (focus (exact rfl))) | (refine' ⟨_, _, rfl, _, _⟩; rotate_left 1; (focus (first | exact .inl (by assumption) | exact .inl (SqL.of (by assumption)) | exact .inr (by assumption) | exact .inr (SqT.of (by assumption)))))))
          dsimp only [tCons, tC, tNil]
          refine o.draw (by first | decide | omega) (by first | decide | omega) fun x H5 x0 x1 o5 => ?_
          refine ⟨by show 3 ≤ sizeLine; decide, fun l hl => ?_⟩
          have o6 : Wd P1 P2 H0 (upd H5 l (.lst ([0, if lo - 1 > 0 then lo - 1 else 0, x].map V.int))) p ((l, .lst ([0, if lo - 1 > 0 then lo - 1 else 0, x].map V.int)) :: L) := o5.add hl
          refine ⟨_, rfl, ?_⟩
          dsimp only [tCons, tC, tNil]
          refine o6.draw (by first | decide | omega) (by first | decide | omega) fun i H7 i0 i1 o7 => ?_
          refine pick (fun y => 0 ≤ y ∧ y ≤ lo) o7 i0 i1 (forall_cons ⟨by omega, by omega⟩ (forall_cons (by split <;> omega) (forall_cons ⟨x0, by omega⟩ (fun _ h => by cases h)))) fun y hy o8 => ?_
          exact ⟨b, y, hi, ce, pl, ch, rfl, ⟨⟨hy.1, show y ≤ hi by omega, k3, k4⟩, m1, show y ≤ f.lo by omega, m3, m4⟩, o8⟩
        · (repeat (first | refine ⟨_, rfl, ?_⟩ | refine ⟨_, _, rfl, rfl, ?_⟩ | refine ⟨rfl, ?_⟩ | refine .inl ⟨_, rfl, ?_⟩ | refine .inr ⟨_, rfl, ?_⟩ | refine ⟨.inr ⟨by decide, by decide⟩, ?_⟩ | refine ⟨⟨by decide, by decide⟩, ?_⟩ | refine ⟨⟨by decide, by decide, by decide⟩, ?_⟩ | refine ⟨.inr ⟨by omega, by omega⟩, ?_⟩ | refine ⟨(by show (0 : Int) < _; first | decide | omega), ?_⟩ | refine ⟨Nat.le_trans (Nat.le_of_ble_eq_true rfl : _ ≤ 50) (by decide), ?_⟩ | refine ⟨_, _, _, _, rfl, rfl, upd_same, rfl, ?_⟩ | refine ⟨_, _, _, _, rfl, rfl, SqL.of upd_same, rfl, ?_⟩ | refine ⟨_, _, _, _, rfl, rfl, SqT.of upd_same, rfl, ?_⟩ | refine ⟨_, _, rfl, .inl (SqL.of upd_same), ?_⟩ | refine ⟨_, _, rfl, .inr (SqT.of upd_same), ?_⟩ | (refine' ⟨_, _, _, _, rfl, rfl, _, _, _⟩; rotate_left 2; (focus (first | assumption | exact SqL.of (by assumption) | exact SqT.of (by assumption) | exact Same.seq (by assumption) (by assumption))); (focus (exact rfl))) | (refine' ⟨_, _, rfl, _, _⟩; rotate_left 1; (focus (first | exact .inl (by assumption) | exact .inl (SqL.of (by assumption)) | exact .inr (by assumption) | exact .inr (SqT.of (by assumption)))))))
          refine ite2 (fun _ => ?_) (fun _ => ?_)
          · (repeat (first | refine ⟨_, rfl, ?_⟩ | refine ⟨_, _, rfl, rfl, ?_⟩ | refine ⟨rfl, ?_⟩ | refine .inl ⟨_, rfl, ?_⟩ | refine .inr ⟨_, rfl, ?_⟩ | refine ⟨.inr ⟨by decide, by decide⟩, ?_⟩ | refine ⟨⟨by decide, by decide⟩, ?_⟩ | refine ⟨⟨by decide, by decide, by decide⟩, ?_⟩ | refine ⟨.inr ⟨by omega, by omega⟩, ?_⟩ | refine ⟨(by show (0 : Int) < _; first | decide | omega), ?_⟩ | refine ⟨Nat.le_trans (Nat.le_of_ble_eq_true rfl : _ ≤ 50) (by decide), ?_⟩ | refine ⟨_, _, _, _, rfl, rfl, upd_same, rfl, ?_⟩ | refine ⟨_, _, _, _, rfl, rfl, SqL.of upd_same, rfl, ?_⟩ | refine ⟨_, _, _, _, rfl, rfl, SqT.of upd_same, rfl, ?_⟩ | refine ⟨_, _, rfl, .inl (SqL.of upd_same), ?_⟩ | refine ⟨_, _, rfl, .inr (SqT.of upd_same), ?_⟩ | (refine' ⟨_, _, _, _, rfl, rfl, _, _, _⟩; rotate_left 2; (focus (first | assumption | exact SqL.of (by assumption) | exact SqT.of (by assumption) | exact Same.seq (by assumption) (by assumption))); (focus (exact rfl))) | (refine' ⟨_, _, rfl, _, _⟩; rotate_left 1; (focus (first | exact .inl (by assumption) | exact .inl (SqL.of (by assumption)) | exact .inr (by assumption) | exact .inr (SqT.of (by assumption)))))))
            refine ⟨_, _, rfl, ?_⟩
            (repeat (first | refine ⟨_, rfl, ?_⟩ | refine ⟨_, _, rfl, rfl, ?_⟩ | refine ⟨rfl, ?_⟩ | refine .inl ⟨_, rfl, ?_⟩ | refine .inr ⟨_, rfl, ?_⟩ | refine ⟨.inr ⟨by decide, by decide⟩, ?_⟩ | refine ⟨⟨by decide, by decide⟩, ?_⟩ | refine ⟨⟨by decide, by decide, by decide⟩, ?_⟩ | refine ⟨.inr ⟨by omega, by omega⟩, ?_⟩ | refine ⟨(by show (0 : Int) < _; first | decide | omega), ?_⟩ | refine ⟨Nat.le_trans (Nat.le_of_ble_eq_true rfl : _ ≤ 50) (by decide), ?_⟩ | refine ⟨_, _, _, _, rfl, rfl, upd_same, rfl, ?_⟩ | refine ⟨_, _, _, _, rfl, rfl, SqL.of upd_same, rfl, ?_⟩ | refine ⟨_, _, _, _, rfl, rfl, SqT.of upd_same, rfl, ?_⟩ | refine ⟨_, _, rfl, .inl (SqL.of upd_same), ?_⟩ | refine ⟨_, _, rfl, .inr (SqT.of upd_same), ?_⟩ | (refine' ⟨_, _, _, _, rfl, rfl, _, _, _⟩; rotate_left 2; (focus (first | assumption | exact SqL.of (by assumption) | exact SqT.of (by assumption) | exact Same.seq (by assumption) (by assumption))); (focus (exact rfl))) | (refine' ⟨_, _, rfl, _, _⟩; rotate_left 1; (focus (first | exact .inl (by assumption) | exact .inl (SqL.of (by assumption)) | exact .inr (by assumption) | exact .inr (SqT.of (by assumption)))))))
            dsimp only [tCons, tC, tNil]
            refine o.draw (by first | decide | omega) (by first | decide | omega) fun x H5 x0 x1 o5 => ?_
            refine ⟨by show 3 ≤ sizeLine; decide, fun l hl => ?_⟩
            have o6 : Wd P1 P2 H0 (upd H5 l (.lst ([0, if lo - 1 > 0 then lo - 1 else 0, x].map V.int))) p ((l, .lst ([0, if lo - 1 > 0 then lo - 1 else 0, x].map V.int)) :: L) := o5.add hl
            refine ⟨_, rfl, ?_⟩
            dsimp only [tCons, tC, tNil]
            refine o6.draw (by first | decide | omega) (by first | decide | omega) fun i H7 i0 i1 o7 => ?_
            refine pick (fun y => 0 ≤ y ∧ y ≤ lo) o7 i0 i1 (forall_cons ⟨by omega, by omega⟩ (forall_cons (by split <;> omega) (forall_cons ⟨x0, by omega⟩ (fun _ h => by cases h)))) fun y hy o8 => ?_
            exact ⟨b, y, hi, ce, pl, ch, rfl, ⟨⟨hy.1, show y ≤ hi by omega, k3, k4⟩, m1, show y ≤ f.lo by omega, m3, m4⟩, o8⟩
          · exact stay
      · clear o k1 k2 k3 k4 m1 m2 m3 m4
        rintro σ H ⟨b, lo, hi, ce, pl, ch, rfl, hk, o⟩
        obtain ⟨⟨k1, k2, k3, k4⟩, m1, m2, m3, m4⟩ := hk
        have m2 : lo ≤ f.lo := m2
        have m3 : f.hi ≤ hi := m3
        have k1 : 0 ≤ lo := k1
        have k2 : lo ≤ hi := k2
        have k3 : hi ≤ 65535 := k3
        refine ⟨IW P1 P2 H0 p r L f, ?_, ?_⟩
        · have stay : IW P1 P2 H0 p r L f [some (.ref p), some (.ref r), some (.str (fl b)), some (.int lo), some (.int hi), some (.int ce), some (.int pl), some (.int ch)] H := ⟨b, lo, hi, ce, pl, ch, rfl, ⟨⟨k1, k2, k3, k4⟩, m1, m2, m3, m4⟩, o⟩
          (repeat (first | refine ⟨_, rfl, ?_⟩ | refine ⟨_, _, rfl, rfl, ?_⟩ | refine ⟨rfl, ?_⟩ | refine .inl ⟨_, rfl, ?_⟩ | refine .inr ⟨_, rfl, ?_⟩ | refine ⟨.inr ⟨by decide, by decide⟩, ?_⟩ | refine ⟨⟨by decide, by decide⟩, ?_⟩ | refine ⟨⟨by decide, by decide, by decide⟩, ?_⟩ | refine ⟨.inr ⟨by omega, by omega⟩, ?_⟩ | refine ⟨(by show (0 : Int) < _; first | decide | omega), ?_⟩ | refine ⟨Nat.le_trans (Nat.le_of_ble_eq_true rfl : _ ≤ 50) (by decide), ?_⟩ | refine ⟨_, _, _, _, rfl, rfl, upd_same, rfl, ?_⟩ | refine ⟨_, _, _, _, rfl, rfl, SqL.of upd_same, rfl, ?_⟩ | refine ⟨_, _, _, _, rfl, rfl, SqT.of upd_same, rfl, ?_⟩ | refine ⟨_, _, rfl, .inl (SqL.of upd_same), ?_⟩ | refine ⟨_, _, rfl, .inr (SqT.of upd_same), ?_⟩ | (refine' ⟨_, _, _, _, rfl, rfl, _, _, _⟩; rotate_left 2; (focus (first | assumption | exact SqL.of (by assumption) | exact SqT.of (by assumption) | exact Same.seq (by assumption) (by assumption))); (focus (exact rfl))) | (refine' ⟨_, _, rfl, _, _⟩; rotate_left 1; (focus (first | exact .inl (by assumption) | exact .inl (SqL.of (by assumption)) | exact .inr (by assumption) | exact .inr (SqT.of (by assumption)))))))
          refine ite2 (fun _ => ?_) (fun _ => ?_)
          · (repeat (first | refine ⟨_, rfl, ?_⟩ | refine ⟨_, _, rfl, rfl, ?_⟩ | refine ⟨rfl, ?_⟩ | refine .inl ⟨_, rfl, ?_⟩ | refine .inr ⟨_, rfl, ?_⟩ | refine ⟨.inr ⟨by decide, by decide⟩, ?_⟩ | refine ⟨⟨by decide, by decide⟩, ?_⟩ | refine ⟨⟨by decide, by decide, by decide⟩, ?_⟩ | refine ⟨.inr ⟨by omega, by omega⟩, ?_⟩ | refine ⟨(by show (0 : Int) < _; first | decide | omega), ?_⟩ | refine ⟨Nat.le_trans (Nat.le_of_ble_eq_true rfl : _ ≤ 50) (by decide), ?_⟩ | refine ⟨_, _, _, _, rfl, rfl, upd_same, rfl, ?_⟩ | refine ⟨_, _, _, _, rfl, rfl, SqL.of upd_same, rfl, ?_⟩ | refine ⟨_, _, _, _, rfl, rfl, SqT.of upd_same, rfl, ?_⟩ | refine ⟨_, _, rfl, .inl (SqL.of upd_same), ?_⟩ | refine ⟨_, _, rfl, .inr (SqT.of upd_same), ?_⟩ | (refine' ⟨_, _, _, _, rfl, rfl, _, _, _⟩; rotate_left 2; (focus (first | assumption | exact SqL.of (by assumption) | exact SqT.of (by assumption) | exact Same.seq (by assumption) (by assumption))); (focus (exact rfl))) | (refine' ⟨_, _, rfl, _, _⟩; rotate_left 1; (focus (first | exact .inl (by assumption) | exact .inl (SqL.of (by assumption)) | exact .inr (by assumption) | exact .inr (SqT.of (by assumption)))))))
            refine ⟨_, _, rfl, ?_⟩
            (repeat (first | refine ⟨_, rfl, ?_⟩ | refine ⟨_, _, rfl, rfl, ?_⟩ | refine ⟨rfl, ?_⟩ | refine .inl ⟨_, rfl, ?_⟩ | refine .inr ⟨_, rfl, ?_⟩ | refine ⟨.inr ⟨by decide, by decide⟩, ?_⟩ | refine ⟨⟨by decide, by decide⟩, ?_⟩ | refine ⟨⟨by decide, by decide, by decide⟩, ?_⟩ | refine ⟨.inr ⟨by omega, by omega⟩, ?_⟩ | refine ⟨(by show (0 : Int) < _; first | decide | omega), ?_⟩ | refine ⟨Nat.le_trans (Nat.le_of_ble_eq_true rfl : _ ≤ 50) (by decide), ?_⟩ | refine ⟨_, _, _, _, rfl, rfl, upd_same, rfl, ?_⟩ | refine ⟨_, _, _, _, rfl, rfl, SqL.of upd_same, rfl, ?_⟩ | refine ⟨_, _, _, _, rfl, rfl, SqT.of upd_same, rfl, ?_⟩ | refine ⟨_, _, rfl, .inl (SqL.of upd_same), ?_⟩ | refine ⟨_, _, rfl, .inr (SqT.of upd_same), ?_⟩ | (refine' ⟨_, _, _, _, rfl, rfl, _, _, _⟩; rotate_left 2; (focus (first | assumption | exact SqL.of (by assumption) | exact SqT.of (by assumption) | exact Same.seq (by assumption) (by assumption))); (focus (exact rfl))) | (refine' ⟨_, _, rfl, _, _⟩; rotate_left 1; (focus (first | exact .inl (by assumption) | exact .inl (SqL.of (by assumption)) | exact .inr (by assumption) | exact .inr (SqT.of (by assumption)))))))
            dsimp only [tCons, tC, tNil]
            refine o.draw (by first | decide | omega) (by first | decide | omega) fun x H5 x0 x1 o5 => ?_
            (repeat (first | refine ⟨_, rfl, ?_⟩ | refine ⟨_, _, rfl, rfl, ?_⟩ | refine ⟨rfl, ?_⟩ | refine .inl ⟨_, rfl, ?_⟩ | refine .inr ⟨_, rfl, ?_⟩ | refine ⟨.inr ⟨by decide, by decide⟩, ?_⟩ | refine ⟨⟨by decide, by decide⟩, ?_⟩ | refine ⟨⟨by decide, by decide, by decide⟩, ?_⟩ | refine ⟨.inr ⟨by omega, by omega⟩, ?_⟩ | refine ⟨(by show (0 : Int) < _; first | decide | omega), ?_⟩ | refine ⟨Nat.le_trans (Nat.le_of_ble_eq_true rfl : _ ≤ 50) (by decide), ?_⟩ | refine ⟨_, _, _, _, rfl, rfl, upd_same, rfl, ?_⟩ | refine ⟨_, _, _, _, rfl, rfl, SqL.of upd_same, rfl, ?_⟩ | refine ⟨_, _, _, _, rfl, rfl, SqT.of upd_same, rfl, ?_⟩ | refine ⟨_, _, rfl, .inl (SqL.of upd_same), ?_⟩ | refine ⟨_, _, rfl, .inr (SqT.of upd_same), ?_⟩ | (refine' ⟨_, _, _, _, rfl, rfl, _, _, _⟩; rotate_left 2; (focus (first | assumption | exact SqL.of (by assumption) | exact SqT.of (by assumption) | exact Same.seq (by assumption) (by assumption))); (focus (exact rfl))) | (refine' ⟨_, _, rfl, _, _⟩; rotate_left 1; (focus (first | exact .inl (by assumption) | exact .inl (SqL.of (by assumption)) | exact .inr (by assumption) | exact .inr (SqT.of (by assumption)))))))
            refine fun l hl => ?_
            have o6 : Wd P1 P2 H0 (upd H5 l (.lst ([65535, if hi + 1 < 65535 then hi + 1 else 65535, hi + x].map V.int))) p ((l, .lst ([65535, if hi + 1 < 65535 then hi + 1 else 65535, hi + x].map V.int)) :: L) := o5.add hl
            refine ⟨_, rfl, ?_⟩
            dsimp only [tCons, tC, tNil]
            refine o6.draw (by first | decide | omega) (by first | decide | omega) fun i H7 i0 i1 o7 => ?_
            refine pick (fun y => hi ≤ y ∧ y ≤ 65535) o7 i0 i1 (forall_cons ⟨by omega, by omega⟩ (forall_cons (by split <;> omega) (forall_cons ⟨by omega, by omega⟩ (fun _ h => by cases h)))) fun y hy o8 => ?_
            exact ⟨b, lo, y, ce, pl, ch, rfl, ⟨⟨k1, show lo ≤ y by omega, hy.2, k4⟩, m1, m2, show f.hi ≤ y by omega, m4⟩, o8⟩
          · (repeat (first | refine ⟨_, rfl, ?_⟩ | refine ⟨_, _, rfl, rfl, ?_⟩ | refine ⟨rfl, ?_⟩ | refine .inl ⟨_, rfl, ?_⟩ | refine .inr ⟨_, rfl, ?_⟩ | refine ⟨.inr ⟨by decide, by decide⟩, ?_⟩ | refine ⟨⟨by decide, by decide⟩, ?_⟩ | refine ⟨⟨by decide, by decide, by decide⟩, ?_⟩ | refine ⟨.inr ⟨by omega, by omega⟩, ?_⟩ | refine ⟨(by show (0 : Int) < _; first | decide | omega), ?_⟩ | refine ⟨Nat.le_trans (Nat.le_of_ble_eq_true rfl : _ ≤ 50) (by decide), ?_⟩ | refine ⟨_, _, _, _, rfl, rfl, upd_same, rfl, ?_⟩ | refine ⟨_, _, _, _, rfl, rfl, SqL.of upd_same, rfl, ?_⟩ | refine ⟨_, _, _, _, rfl, rfl, SqT.of upd_same, rfl, ?_⟩ | refine ⟨_, _, rfl, .inl (SqL.of upd_same), ?_⟩ | refine ⟨_, _, rfl, .inr (SqT.of upd_same), ?_⟩ | (refine' ⟨_, _, _, _, rfl, rfl, _, _, _⟩; rotate_left 2; (focus (first | assumption | exact SqL.of (by assumption) | exact SqT.of (by assumption) | exact Same.seq (by assumption) (by assumption))); (focus (exact rfl))) | (refine' ⟨_, _, rfl, _, _⟩; rotate_left 1; (focus (first | exact .inl (by assumption) | exact .inl (SqL.of (by assumption)) | exact .inr (by assumption) | exact .inr (SqT.of (by assumption)))))))
            refine ite2 (fun _ => ?_) (fun _ => ?_)
            · (repeat (first | refine ⟨_, rfl, ?_⟩ | refine ⟨_, _, rfl, rfl, ?_⟩ | refine ⟨rfl, ?_⟩ | refine .inl ⟨_, rfl, ?_⟩ | refine .inr ⟨_, rfl, ?_⟩ | refine ⟨.inr ⟨by decide, by decide⟩, ?_⟩ | refine ⟨⟨by decide, by decide⟩, ?_⟩ | refine ⟨⟨by decide, by decide, by decide⟩, ?_⟩ | refine ⟨.inr ⟨by omega, by omega⟩, ?_⟩ | refine ⟨(by show (0 : Int) < _; first | decide | omega), ?_⟩ | refine ⟨Nat.le_trans (Nat.le_of_ble_eq_true rfl : _ ≤ 50) (by decide), ?_⟩ | refine ⟨_, _, _, _, rfl, rfl, upd_same, rfl, ?_⟩ | refine ⟨_, _, _, _, rfl, rfl, SqL.of upd_same, rfl, ?_⟩ | refine ⟨_, _, _, _, rfl, rfl, SqT.of upd_same, rfl, ?_⟩ | refine ⟨_, _, rfl, .inl (SqL.of upd_same), ?_⟩ | refine ⟨_, _, rfl, .inr (SqT.of upd_same), ?_⟩ | (refine' ⟨_, _, _, _, rfl, rfl, _, _, _⟩; rotate_left 2; (focus (first | assumption | exact SqL.of (by assumption) | exact SqT.of (by assumption) | exact Same.seq (by assumption) (by assumption))); (focus (exact rfl))) | (refine' ⟨_, _, rfl, _, _⟩; rotate_left 1; (focus (first | exact .inl (by assumption) | exact .inl (SqL.of (by assumption)) | exact .inr (by assumption) | exact .inr (SqT.of (by assumption)))))))
              refine ⟨_, _, rfl, ?_⟩
              (repeat (first | refine ⟨_, rfl, ?_⟩ | refine ⟨_, _, rfl, rfl, ?_⟩ | refine ⟨rfl, ?_⟩ | refine .inl ⟨_, rfl, ?_⟩ | refine .inr ⟨_, rfl, ?_⟩ | refine ⟨.inr ⟨by decide, by decide⟩, ?_⟩ | refine ⟨⟨by decide, by decide⟩, ?_⟩ | refine ⟨⟨by decide, by decide, by decide⟩, ?_⟩ | refine ⟨.inr ⟨by omega, by omega⟩, ?_⟩ | refine ⟨(by show (0 : Int) < _; first | decide | omega), ?_⟩ | refine ⟨Nat.le_trans (Nat.le_of_ble_eq_true rfl : _ ≤ 50) (by decide), ?_⟩ | refine ⟨_, _, _, _, rfl, rfl, upd_same, rfl, ?_⟩ | refine ⟨_, _, _, _, rfl, rfl, SqL.of upd_same, rfl, ?_⟩ | refine ⟨_, _, _, _, rfl, rfl, SqT.of upd_same, rfl, ?_⟩ | refine ⟨_, _, rfl, .inl (SqL.of upd_same), ?_⟩ | refine ⟨_, _, rfl, .inr (SqT.of upd_same), ?_⟩ | (refine' ⟨_, _, _, _, rfl, rfl, _, _, _⟩; rotate_left 2; (focus (first | assumption | exact SqL.of (by assumption) | exact SqT.of (by assumption) | exact Same.seq (by assumption) (by assumption))); (focus (exact rfl))) | (refine' ⟨_, _, rfl, _, _⟩; rotate_left 1; (focus (first | exact .inl (by assumption) | exact .inl (SqL.of (by assumption)) | exact .inr (by assumption) | exact .inr (SqT.of (by assumption)))))))
              dsimp only [tCons, tC, tNil]
              refine o.draw (by first | decide | omega) (by first | decide | omega) fun x H5 x0 x1 o5 => ?_
              (repeat (first | refine ⟨_, rfl, ?_⟩ | refine ⟨_, _, rfl, rfl, ?_⟩ | refine ⟨rfl, ?_⟩ | refine .inl ⟨_, rfl, ?_⟩ | refine .inr ⟨_, rfl, ?_⟩ | refine ⟨.inr ⟨by decide, by decide⟩, ?_⟩ | refine ⟨⟨by decide, by decide⟩, ?_⟩ | refine ⟨⟨by decide, by decide, by decide⟩, ?_⟩ | refine ⟨.inr ⟨by omega, by omega⟩, ?_⟩ | refine ⟨(by show (0 : Int) < _; first | decide | omega), ?_⟩ | refine ⟨Nat.le_trans (Nat.le_of_ble_eq_true rfl : _ ≤ 50) (by decide), ?_⟩ | refine ⟨_, _, _, _, rfl, rfl, upd_same, rfl, ?_⟩ | refine ⟨_, _, _, _, rfl, rfl, SqL.of upd_same, rfl, ?_⟩ | refine ⟨_, _, _, _, rfl, rfl, SqT.of upd_same, rfl, ?_⟩ | refine ⟨_, _, rfl, .inl (SqL.of upd_same), ?_⟩ | refine ⟨_, _, rfl, .inr (SqT.of upd_same), ?_⟩ | (refine' ⟨_, _, _, _, rfl, rfl, _, _, _⟩; rotate_left 2; (focus (first | assumption | exact SqL.of (by assumption) | exact SqT.of (by assumption) | exact Same.seq (by assumption) (by assumption))); (focus (exact rfl))) | (refine' ⟨_, _, rfl, _, _⟩; rotate_left 1; (focus (first | exact .inl (by assumption) | exact .inl (SqL.of (by assumption)) | exact .inr (by assumption) | exact .inr (SqT.of (by assumption)))))))
              refine fun l hl => ?_
              have o6 : Wd P1 P2 H0 (upd H5 l (.lst ([65535, if hi + 1 < 65535 then hi + 1 else 65535, hi + x].map V.int))) p ((l, .lst ([65535, if hi + 1 < 65535 then hi + 1 else 65535, hi + x].map V.int)) :: L) := o5.add hl
              refine ⟨_, rfl, ?_⟩
              dsimp only [tCons, tC, tNil]
              refine o6.draw (by first | decide | omega) (by first | decide | omega) fun i H7 i0 i1 o7 => ?_
              refine pick (fun y => hi ≤ y ∧ y ≤ 65535) o7 i0 i1 (forall_cons ⟨by omega, by omega⟩ (forall_cons (by split <;> omega) (forall_cons ⟨by omega, by omega⟩ (fun _ h => by cases h)))) fun y hy o8 => ?_
              exact ⟨b, lo, y, ce, pl, ch, rfl, ⟨⟨k1, show lo ≤ y by omega, hy.2, k4⟩, m1, m2, show f.hi ≤ y by omega, m4⟩, o8⟩
            · exact stay
        · clear o k1 k2 k3 k4 m1 m2 m3 m4
          rintro σ H ⟨b, lo, hi, ce, pl, ch, rfl, hk, o⟩
          refine ⟨IW P1 P2 H0 p r L f, ?_, ?_⟩
          · (repeat (first | refine ⟨_, rfl, ?_⟩ | refine ⟨_, _, rfl, rfl, ?_⟩ | refine ⟨rfl, ?_⟩ | refine .inl ⟨_, rfl, ?_⟩ | refine .inr ⟨_, rfl, ?_⟩ | refine ⟨.inr ⟨by decide, by decide⟩, ?_⟩ | refine ⟨⟨by decide, by decide⟩, ?_⟩ | refine ⟨⟨by decide, by decide, by decide⟩, ?_⟩ | refine ⟨.inr ⟨by omega, by omega⟩, ?_⟩ | refine ⟨(by show (0 : Int) < _; first | decide | omega), ?_⟩ | refine ⟨Nat.le_trans (Nat.le_of_ble_eq_true rfl : _ ≤ 50) (by decide), ?_⟩ | refine ⟨_, _, _, _, rfl, rfl, upd_same, rfl, ?_⟩ | refine ⟨_, _, _, _, rfl, rfl, SqL.of upd_same, rfl, ?_⟩ | refine ⟨_, _, _, _, rfl, rfl, SqT.of upd_same, rfl, ?_⟩ | refine ⟨_, _, rfl, .inl (SqL.of upd_same), ?_⟩ | refine ⟨_, _, rfl, .inr (SqT.of upd_same), ?_⟩ | (refine' ⟨_, _, _, _, rfl, rfl, _, _, _⟩; rotate_left 2; (focus (first | assumption | exact SqL.of (by assumption) | exact SqT.of (by assumption) | exact Same.seq (by assumption) (by assumption))); (focus (exact rfl))) | (refine' ⟨_, _, rfl, _, _⟩; rotate_left 1; (focus (first | exact .inl (by assumption) | exact .inl (SqL.of (by assumption)) | exact .inr (by assumption) | exact .inr (SqT.of (by assumption)))))))
            refine ite2 (fun _ => ?_) (fun _ => ?_)
            · (repeat (first | refine ⟨_, rfl, ?_⟩ | refine ⟨_, _, rfl, rfl, ?_⟩ | refine ⟨rfl, ?_⟩ | refine .inl ⟨_, rfl, ?_⟩ | refine .inr ⟨_, rfl, ?_⟩ | refine ⟨.inr ⟨by decide, by decide⟩, ?_⟩ | refine ⟨⟨by decide, by decide⟩, ?_⟩ | refine ⟨⟨by decide, by decide, by decide⟩, ?_⟩ | refine ⟨.inr ⟨by omega, by omega⟩, ?_⟩ | refine ⟨(by show (0 : Int) < _; first | decide | omega), ?_⟩ | refine ⟨Nat.le_trans (Nat.le_of_ble_eq_true rfl : _ ≤ 50) (by decide), ?_⟩ | refine ⟨_, _, _, _, rfl, rfl, upd_same, rfl, ?_⟩ | refine ⟨_, _, _, _, rfl, rfl, SqL.of upd_same, rfl, ?_⟩ | refine ⟨_, _, _, _, rfl, rfl, SqT.of upd_same, rfl, ?_⟩ | refine ⟨_, _, rfl, .inl (SqL.of upd_same), ?_⟩ | refine ⟨_, _, rfl, .inr (SqT.of upd_same), ?_⟩ | (refine' ⟨_, _, _, _, rfl, rfl, _, _, _⟩; rotate_left 2; (focus (first | assumption | exact SqL.of (by assumption) | exact SqT.of (by assumption) | exact Same.seq (by assumption) (by assumption))); (focus (exact rfl))) | (refine' ⟨_, _, rfl, _, _⟩; rotate_left 1; (focus (first | exact .inl (by assumption) | exact .inl (SqL.of (by assumption)) | exact .inr (by assumption) | exact .inr (SqT.of (by assumption)))))))
              exact ⟨b, lo, hi, -1, 0, ch, rfl, ⟨⟨hk.1.1, hk.1.2.1, hk.1.2.2.1, .inl ⟨rfl, rfl⟩⟩, hk.2.1, hk.2.2.1, hk.2.2.2.1, .inl rfl⟩, o⟩
            · exact ⟨b, lo, hi, ce, pl, ch, rfl, hk, o⟩
          · clear o hk
            rintro σ H ⟨b, lo, hi, ce, pl, ch, rfl, hk, o⟩
            (repeat (first | refine ⟨_, rfl, ?_⟩ | refine ⟨_, _, rfl, rfl, ?_⟩ | refine ⟨rfl, ?_⟩ | refine .inl ⟨_, rfl, ?_⟩ | refine .inr ⟨_, rfl, ?_⟩ | refine ⟨.inr ⟨by decide, by decide⟩, ?_⟩ | refine ⟨⟨by decide, by decide⟩, ?_⟩ | refine ⟨⟨by decide, by decide, by decide⟩, ?_⟩ | refine ⟨.inr ⟨by omega, by omega⟩, ?_⟩ | refine ⟨(by show (0 : Int) < _; first | decide | omega), ?_⟩ | refine ⟨Nat.le_trans (Nat.le_of_ble_eq_true rfl : _ ≤ 50) (by decide), ?_⟩ | refine ⟨_, _, _, _, rfl, rfl, upd_same, rfl, ?_⟩ | refine ⟨_, _, _, _, rfl, rfl, SqL.of upd_same, rfl, ?_⟩ | refine ⟨_, _, _, _, rfl, rfl, SqT.of upd_same, rfl, ?_⟩ | refine ⟨_, _, rfl, .inl (SqL.of upd_same), ?_⟩ | refine ⟨_, _, rfl, .inr (SqT.of upd_same), ?_⟩ | (refine' ⟨_, _, _, _, rfl, rfl, _, _, _⟩; rotate_left 2; (focus (first | assumption | exact SqL.of (by assumption) | exact SqT.of (by assumption) | exact Same.seq (by assumption) (by assumption))); (focus (exact rfl))) | (refine' ⟨_, _, rfl, _, _⟩; rotate_left 1; (focus (first | exact .inl (by assumption) | exact .inl (SqL.of (by assumption)) | exact .inr (by assumption) | exact .inr (SqT.of (by assumption)))))))
            exact fun u hu => q u ⟨b, lo, hi, ce, pl⟩ _ hk.1 hk.2 (o.add hu)
end

/-- a list of facts at D, the rest N -/
def FL (K : PySem.W.Frag) (P1 P2 : Addr) (H0 H : Hp) (p D : Addr) (N : List (Addr × HO)) (rs : List Addr) (fs : List Fa) : Prop :=
  Wd P1 P2 H0 H p ((D, HO.lst (rs.map V.ref)) :: N) ∧ Paired (fun r f => TupAt K N r (Fa.row f)) rs fs ∧ fs.length = 16 ∧ ∀ f ∈ fs, Fa.ok f
section
variable {K : PySem.W.Frag} {P1 P2 : Addr} {H0 H : Hp} {p D : Addr} {N : List (Addr × HO)} {rs : List Addr} {fs : List Fa}
theorem FL.len (h : FL K P1 P2 H0 H p D N rs fs) : rs.length = 16 := by rw [h.2.1.length]; exact h.2.2.1
theorem FL.get (h : FL K P1 P2 H0 H p D N rs fs) {i : Nat} (hi : i < 16) : ∃ r f, (rs.map V.ref)[i]? = some (.ref r) ∧ fs[i]? = some f ∧ TupAt K N r (Fa.row f) ∧ Fa.ok f := by
  have hr : rs[i]? = some (rs[i]'(by rw [h.len]; exact hi)) := List.getElem?_eq_getElem _
  obtain ⟨f, hf, ht⟩ := pr_get h.2.1 hr
  exact ⟨_, f, by rw [List.getElem?_map, hr]; rfl, hf, ht, h.2.2.2 f (List.mem_of_getElem? hf)⟩
theorem FL.set {u : Addr} {g : Fa} {H' : Hp} (h : FL K P1 P2 H0 H p D N rs fs) (o : Wd P1 P2 H0 H' p ((u, HO.tup (Fa.row g)) :: (D, HO.lst (rs.map V.ref)) :: N)) (hg : Fa.ok g) (i : Nat) :
    FL K P1 P2 H0 (upd H' D (.lst ((rs.map V.ref).set i (.ref u)))) p D ((u, .tup (Fa.row g)) :: N) (rs.set i u) (fs.set i g) := by
  obtain ⟨_, h2, h3, h4⟩ := h
  refine ⟨?_, paired_set (.inl (List.mem_cons_self ..)) i (paired_imp (fun _ _ z => z.mono fun q hq => List.mem_cons_of_mem _ hq) h2), by rw [List.length_set]; exact h3, fun f hf => ?_⟩
  · have o1 := o.put (u' := .lst ((rs.map V.ref).set i (.ref u))) 1 rfl
    rw [List.map_set]
    exact o1.perm (.swap _ _ _)
  · rcases List.mem_or_eq_of_mem_set hf with z | z
    · exact h4 f z
    · rw [z]; exact hg
/-- facts and a flow make a state -/
theorem FL.done {t s1 : Addr} {c : Bool} {H' : Hp} {Q : VK} (h : FL K P1 P2 H0 H p D N rs fs) (o : Wd P1 P2 H0 H' p ((s1, HO.tup [.str (fl c)]) :: (t, HO.tup (rs.map V.ref)) :: (D, HO.lst (rs.map V.ref)) :: N))
    (q : ∀ u N' H2, N <:+ N' → Wd P1 P2 H0 H2 p N' → StAt K N' u fs c → (∀ f ∈ fs, Fa.ok f) → Q (.ref u) H2) : rCatT K (.ref t) (.ref s1) H' Q := by
  refine ⟨t, s1, _, _, rfl, rfl, SqT.of (o.mem (q := (t, .tup (rs.map V.ref))) (by simp)), SqT.of (o.mem (List.mem_cons_self ..)), fun z => ?_, Nat.le_trans (show (rs.map V.ref).length + 1 ≤ 17 by rw [List.length_map, h.len]; exact Nat.le_refl _) (by show 17 ≤ sizeLine; decide), (fun z => by cases z), fun _ u hu => ?_⟩
  · have := congrArg List.length z
    rw [List.length_map, h.len] at this
    cases this
  · have o1 := o.add (u := .tup (rs.map V.ref ++ [.str (fl c)])) hu
    exact q u _ _ (suf [_, _, _, _] N) o1 ⟨rs, .inl (List.mem_cons_self ..), paired_imp (fun _ _ z => z.mono fun q hq => by simp [hq]) h.2.1, h.2.2.1⟩ h.2.2.2
end
section
variable {P : Program} {w : World} {K : PySem.W.Frag} {mg : Str → Option Value} {base : Heap} {P1 P2 : Addr}
theorem ok_ws (T : Tx K mg) : FnOk P w K mg base CX0 3 T.a_law_wider T.d_law_wider ["source", "state"] (spWs K P1 P2) := by
  have G_law_draw : FnOk P w K mg base CX0 1 T.a_law_draw T.d_law_draw ["source", "many"] spDraw := ok_draw T
  have G_law_wider_fact : FnOk P w K mg base CX0 2 T.a_law_wider_fact T.d_law_wider_fact ["source", "fact"] (spWf K P1 P2) := ok_wf T
  refine T.F_law_wider.ok sc_law_wider (fun vs H Q E h => ?_) (fun cdv A outer s H vs Q E hr h => ?_)
  · obtain ⟨H0, p, L, a, fs, c, rfl, _⟩ := h
    rfl
  · obtain ⟨H0, p, L, a, fs, c, rfl, o, hst, hok, q⟩ := h
    have hr_law_draw : Room 1 _ := hr.mono (by decide)
    have hr_law_wider_fact : Room 2 _ := hr
    refine ⟨_, (pss_cons (ps_set (i := 2) sc_law_wider.nd rfl (.inl rfl) (pe_callTy call_list_of (by rfl) T.z_list (by decide +kernel) (pa_cons (pe_slice sl_tup (pv 1) po_none (po_some pe_int)) pa_nil)))
        (pss_cons (ps_for PassesOwn.never rfl (pi_range1 rfl T.z_range (pa_cons pe_int pa_nil)) (pg_name (i := 3) sc_law_wider.nd rfl (.inl rfl))
        (pss_one (ps_if (pt_cmpR op_eq (pe_call G_law_draw hr_law_draw (by rfl) T.g_law_draw T.F_law_draw.kp T.b_law_draw .nil pass0 (pa_cons (pv 0) (pa_cons pe_int pa_nil))) pe_int (nomark _))
        (pss_one (ps_asg (pe_call G_law_wider_fact hr_law_wider_fact (by rfl) T.g_law_wider_fact T.F_law_wider_fact.kp T.b_law_wider_fact .nil pass0 (pa_cons (pv 0) (pa_cons (pe_ix ix_list (pv 2) (pv 3) (fun _ _ => rfl)) pa_nil))) (pg_sub (pv 2) (pv 3) set_list)))
        pss_nil)))
        (pss_cons (ps_set (i := 4) sc_law_wider.nd rfl (.inl rfl) (pe_ix ix_tup (pv 1) pe_int (fun _ _ => rfl)))
        (C8.pss_cut (ps_if (pt_cmpR op_eq (pe_call G_law_draw hr_law_draw (by rfl) T.g_law_draw T.F_law_draw.kp T.b_law_draw .nil pass0 (pa_cons (pv 0) (pa_cons pe_int pa_nil))) pe_int (nomark _))
        (pss_one (ps_set (i := 4) sc_law_wider.nd rfl (.inl rfl) pe_str))
        pss_nil)
        (pss_one (ps_ret (pe_op op_catT (pe_callTy call_tuple_of (by rfl) T.z_tuple (by decide +kernel) (pa_cons (pv 2) pa_nil)) (pe_tup (pa_cons (pv 4) pa_nil))))))))), ?_⟩
    obtain ⟨rs, h1, h2, h3⟩ := hst
    have hl : rs.length = 16 := by rw [h2.length]; exact h3
    have hx17 : (rs.map V.ref ++ [V.str (fl c)]).length = 17 := by rw [List.length_append, List.length_map, hl]; rfl
    have h16 : (rs.map V.ref ++ [V.str (fl c)])[16]? = some (.str (fl c)) := by
      rw [List.getElem?_append_right (by rw [List.length_map, hl]; exact Nat.le_refl _), List.length_map, hl]
      rfl
    have ht16 : (rs.map V.ref ++ [V.str (fl c)]).take 16 = rs.map V.ref := by
      rw [List.take_append_of_le_length (by rw [List.length_map, hl]; exact Nat.le_refl _), List.take_of_length_le (by rw [List.length_map, hl]; exact Nat.le_refl _)]
    (repeat (first | refine ⟨_, rfl, ?_⟩ | refine ⟨_, _, rfl, rfl, ?_⟩ | refine ⟨rfl, ?_⟩ | refine .inl ⟨_, rfl, ?_⟩ | refine .inr ⟨_, rfl, ?_⟩ | refine ⟨.inr ⟨by decide, by decide⟩, ?_⟩ | refine ⟨⟨by decide, by decide⟩, ?_⟩ | refine ⟨⟨by decide, by decide, by decide⟩, ?_⟩ | refine ⟨.inr ⟨by omega, by omega⟩, ?_⟩ | refine ⟨(by show (0 : Int) < _; first | decide | omega), ?_⟩ | refine ⟨Nat.le_trans (Nat.le_of_ble_eq_true rfl : _ ≤ 50) (by decide), ?_⟩ | refine ⟨_, _, _, _, rfl, rfl, upd_same, rfl, ?_⟩ | refine ⟨_, _, _, _, rfl, rfl, SqL.of upd_same, rfl, ?_⟩ | refine ⟨_, _, _, _, rfl, rfl, SqT.of upd_same, rfl, ?_⟩ | refine ⟨_, _, rfl, .inl (SqL.of upd_same), ?_⟩ | refine ⟨_, _, rfl, .inr (SqT.of upd_same), ?_⟩ | (refine' ⟨_, _, _, _, rfl, rfl, _, _, _⟩; rotate_left 2; (focus (first | assumption | exact SqL.of (by assumption) | exact SqT.of (by assumption) | exact Same.seq (by assumption) (by assumption))); (focus (exact rfl))) | (refine' ⟨_, _, rfl, _, _⟩; rotate_left 1; (focus (first | exact .inl (by assumption) | exact .inl (SqL.of (by assumption)) | exact .inr (by assumption) | exact .inr (SqT.of (by assumption)))))))
    refine ⟨a, _, rfl, h1.sq fun q hq => o.mem hq, not16 hx17, fun t ht => ?_⟩
    rw [cut16 hx17, ht16]
    have o1 := o.add (u := .tup (rs.map V.ref)) ht
    (repeat (first | refine ⟨_, rfl, ?_⟩ | refine ⟨_, _, rfl, rfl, ?_⟩ | refine ⟨rfl, ?_⟩ | refine .inl ⟨_, rfl, ?_⟩ | refine .inr ⟨_, rfl, ?_⟩ | refine ⟨.inr ⟨by decide, by decide⟩, ?_⟩ | refine ⟨⟨by decide, by decide⟩, ?_⟩ | refine ⟨⟨by decide, by decide, by decide⟩, ?_⟩ | refine ⟨.inr ⟨by omega, by omega⟩, ?_⟩ | refine ⟨(by show (0 : Int) < _; first | decide | omega), ?_⟩ | refine ⟨Nat.le_trans (Nat.le_of_ble_eq_true rfl : _ ≤ 50) (by decide), ?_⟩ | refine ⟨_, _, _, _, rfl, rfl, upd_same, rfl, ?_⟩ | refine ⟨_, _, _, _, rfl, rfl, SqL.of upd_same, rfl, ?_⟩ | refine ⟨_, _, _, _, rfl, rfl, SqT.of upd_same, rfl, ?_⟩ | refine ⟨_, _, rfl, .inl (SqL.of upd_same), ?_⟩ | refine ⟨_, _, rfl, .inr (SqT.of upd_same), ?_⟩ | (refine' ⟨_, _, _, _, rfl, rfl, _, _, _⟩; rotate_left 2; (focus (first | assumption | exact SqL.of (by assumption) | exact SqT.of (by assumption) | exact Same.seq (by assumption) (by assumption))); (focus (exact rfl))) | (refine' ⟨_, _, rfl, _, _⟩; rotate_left 1; (focus (first | exact .inl (by assumption) | exact .inl (SqL.of (by assumption)) | exact .inr (by assumption) | exact .inr (SqT.of (by assumption)))))))
    refine fun D hD => ?_
    have o2 := o1.add (u := .lst (rs.map V.ref)) hD
    have fl0 : FL K P1 P2 H0 _ p D ((t, .tup (rs.map V.ref)) :: L) rs fs := ⟨o2, paired_imp (fun _ _ z => z.mono fun q hq => List.mem_cons_of_mem _ hq) h2, h3, hok⟩
    refine ⟨_, rfl, by decide, by decide, for_range (lo := 0) (n := 16) (fun i σ H' => ∃ v3 N rs hs, σ = [some (.ref p), some (.ref a), some (.ref D), v3, none] ∧ L <:+ N ∧ FL K P1 P2 H0 H' p D N rs hs ∧ Paired fitP fs hs) ⟨none, _, rs, fs, rfl, suf [_] L, fl0, fitP.refls fs⟩ ?_ ?_⟩
    · clear o1 o2 fl0 h1 h2 h3 hl hx17 h16 ht16 hok
      rintro i σ H' hi ⟨v3, N, rs, hs, rfl, sf, fl, hpf⟩
      have o := fl.1
      refine ⟨_, rfl, ?_⟩
      dsimp only [tCons, tC, tNil]
      refine o.draw (by first | decide | omega) (by first | decide | omega) fun d H3 d0 d1 o3 => ?_
      (repeat (first | refine ⟨_, rfl, ?_⟩ | refine ⟨_, _, rfl, rfl, ?_⟩ | refine ⟨rfl, ?_⟩ | refine .inl ⟨_, rfl, ?_⟩ | refine .inr ⟨_, rfl, ?_⟩ | refine ⟨.inr ⟨by decide, by decide⟩, ?_⟩ | refine ⟨⟨by decide, by decide⟩, ?_⟩ | refine ⟨⟨by decide, by decide, by decide⟩, ?_⟩ | refine ⟨.inr ⟨by omega, by omega⟩, ?_⟩ | refine ⟨(by show (0 : Int) < _; first | decide | omega), ?_⟩ | refine ⟨Nat.le_trans (Nat.le_of_ble_eq_true rfl : _ ≤ 50) (by decide), ?_⟩ | refine ⟨_, _, _, _, rfl, rfl, upd_same, rfl, ?_⟩ | refine ⟨_, _, _, _, rfl, rfl, SqL.of upd_same, rfl, ?_⟩ | refine ⟨_, _, _, _, rfl, rfl, SqT.of upd_same, rfl, ?_⟩ | refine ⟨_, _, rfl, .inl (SqL.of upd_same), ?_⟩ | refine ⟨_, _, rfl, .inr (SqT.of upd_same), ?_⟩ | (refine' ⟨_, _, _, _, rfl, rfl, _, _, _⟩; rotate_left 2; (focus (first | assumption | exact SqL.of (by assumption) | exact SqT.of (by assumption) | exact Same.seq (by assumption) (by assumption))); (focus (exact rfl))) | (refine' ⟨_, _, rfl, _, _⟩; rotate_left 1; (focus (first | exact .inl (by assumption) | exact .inl (SqL.of (by assumption)) | exact .inr (by assumption) | exact .inr (SqT.of (by assumption)))))))
      refine ite2 (fun _ => ?_) (fun _ => ?_)
      · have fl3 : FL K P1 P2 H0 H3 p D N rs hs := ⟨o3, fl.2⟩
        obtain ⟨r, f, hr1, hf1, ht1, hk1⟩ := fl3.get hi
        have hi0 : atI (rs.map V.ref) (0 + (i : Int)) = some (.ref r) := by
          rw [Int.zero_add]
          exact atI_nat hr1
        (repeat (first | refine ⟨_, rfl, ?_⟩ | refine ⟨_, _, rfl, rfl, ?_⟩ | refine ⟨rfl, ?_⟩ | refine .inl ⟨_, rfl, ?_⟩ | refine .inr ⟨_, rfl, ?_⟩ | refine ⟨.inr ⟨by decide, by decide⟩, ?_⟩ | refine ⟨⟨by decide, by decide⟩, ?_⟩ | refine ⟨⟨by decide, by decide, by decide⟩, ?_⟩ | refine ⟨.inr ⟨by omega, by omega⟩, ?_⟩ | refine ⟨(by show (0 : Int) < _; first | decide | omega), ?_⟩ | refine ⟨Nat.le_trans (Nat.le_of_ble_eq_true rfl : _ ≤ 50) (by decide), ?_⟩ | refine ⟨_, _, _, _, rfl, rfl, upd_same, rfl, ?_⟩ | refine ⟨_, _, _, _, rfl, rfl, SqL.of upd_same, rfl, ?_⟩ | refine ⟨_, _, _, _, rfl, rfl, SqT.of upd_same, rfl, ?_⟩ | refine ⟨_, _, rfl, .inl (SqL.of upd_same), ?_⟩ | refine ⟨_, _, rfl, .inr (SqT.of upd_same), ?_⟩ | (refine' ⟨_, _, _, _, rfl, rfl, _, _, _⟩; rotate_left 2; (focus (first | assumption | exact SqL.of (by assumption) | exact SqT.of (by assumption) | exact Same.seq (by assumption) (by assumption))); (focus (exact rfl))) | (refine' ⟨_, _, rfl, _, _⟩; rotate_left 1; (focus (first | exact .inl (by assumption) | exact .inl (SqL.of (by assumption)) | exact .inr (by assumption) | exact .inr (SqT.of (by assumption)))))))
        refine ⟨D, _, _, _, rfl, rfl, SqL.of (fl3.1.mem (List.mem_cons_self ..)), hi0, ?_⟩
        dsimp only [tCons, tC, tNil]
        refine ⟨H0, p, _, r, f, rfl, o3, ht1.mono fun q hq => List.mem_cons_of_mem _ hq, hk1, fun u g H5 hg hfg o5 => ?_⟩
        (repeat (first | refine ⟨_, rfl, ?_⟩ | refine ⟨_, _, rfl, rfl, ?_⟩ | refine ⟨rfl, ?_⟩ | refine .inl ⟨_, rfl, ?_⟩ | refine .inr ⟨_, rfl, ?_⟩ | refine ⟨.inr ⟨by decide, by decide⟩, ?_⟩ | refine ⟨⟨by decide, by decide⟩, ?_⟩ | refine ⟨⟨by decide, by decide, by decide⟩, ?_⟩ | refine ⟨.inr ⟨by omega, by omega⟩, ?_⟩ | refine ⟨(by show (0 : Int) < _; first | decide | omega), ?_⟩ | refine ⟨Nat.le_trans (Nat.le_of_ble_eq_true rfl : _ ≤ 50) (by decide), ?_⟩ | refine ⟨_, _, _, _, rfl, rfl, upd_same, rfl, ?_⟩ | refine ⟨_, _, _, _, rfl, rfl, SqL.of upd_same, rfl, ?_⟩ | refine ⟨_, _, _, _, rfl, rfl, SqT.of upd_same, rfl, ?_⟩ | refine ⟨_, _, rfl, .inl (SqL.of upd_same), ?_⟩ | refine ⟨_, _, rfl, .inr (SqT.of upd_same), ?_⟩ | (refine' ⟨_, _, _, _, rfl, rfl, _, _, _⟩; rotate_left 2; (focus (first | assumption | exact SqL.of (by assumption) | exact SqT.of (by assumption) | exact Same.seq (by assumption) (by assumption))); (focus (exact rfl))) | (refine' ⟨_, _, rfl, _, _⟩; rotate_left 1; (focus (first | exact .inl (by assumption) | exact .inl (SqL.of (by assumption)) | exact .inr (by assumption) | exact .inr (SqT.of (by assumption)))))))
        refine ⟨D, _, _, i, rfl, rfl, o5.mem (q := (D, .lst (rs.map V.ref))) (by simp), ?_, ?_⟩
        · rw [List.length_map, fl3.len]
          exact (ixN_of (by omega) (by omega)).trans (by congr 1; omega)
        exact ⟨_, _, _, _, rfl, sf.trans (suf [_] N), fl3.set o5 hg i, paired_setR (fun x hx => hx.trans hfg) hpf hf1⟩
      · exact ⟨_, N, rs, hs, rfl, sf, ⟨o3, fl.2⟩, hpf⟩
    · rintro σ H' ⟨v3, N, rs2, fs2, rfl, sf, fl, hpf⟩
      refine ⟨_, rfl, a, _, _, _, rfl, rfl, (h1.mono fun q hq => sf.subset hq).sq fun q hq => fl.1.mem (List.mem_cons_of_mem _ hq), atI_nat (j := 16) h16, ?_⟩
      refine ⟨fun σ H => ∃ e, σ = [some (.ref p), some (.ref a), some (.ref D), v3, some (.str (K70.fl e))] ∧ ffB c e = true ∧ FL K P1 P2 H0 H p D N rs2 fs2, ?_, ?_⟩
      · have o := fl.1
        refine ⟨_, rfl, ?_⟩
        dsimp only [tCons, tC, tNil]
        refine o.draw (by first | decide | omega) (by first | decide | omega) fun d H3 d0 d1 o3 => ?_
        (repeat (first | refine ⟨_, rfl, ?_⟩ | refine ⟨_, _, rfl, rfl, ?_⟩ | refine ⟨rfl, ?_⟩ | refine .inl ⟨_, rfl, ?_⟩ | refine .inr ⟨_, rfl, ?_⟩ | refine ⟨.inr ⟨by decide, by decide⟩, ?_⟩ | refine ⟨⟨by decide, by decide⟩, ?_⟩ | refine ⟨⟨by decide, by decide, by decide⟩, ?_⟩ | refine ⟨.inr ⟨by omega, by omega⟩, ?_⟩ | refine ⟨(by show (0 : Int) < _; first | decide | omega), ?_⟩ | refine ⟨Nat.le_trans (Nat.le_of_ble_eq_true rfl : _ ≤ 50) (by decide), ?_⟩ | refine ⟨_, _, _, _, rfl, rfl, upd_same, rfl, ?_⟩ | refine ⟨_, _, _, _, rfl, rfl, SqL.of upd_same, rfl, ?_⟩ | refine ⟨_, _, _, _, rfl, rfl, SqT.of upd_same, rfl, ?_⟩ | refine ⟨_, _, rfl, .inl (SqL.of upd_same), ?_⟩ | refine ⟨_, _, rfl, .inr (SqT.of upd_same), ?_⟩ | (refine' ⟨_, _, _, _, rfl, rfl, _, _, _⟩; rotate_left 2; (focus (first | assumption | exact SqL.of (by assumption) | exact SqT.of (by assumption) | exact Same.seq (by assumption) (by assumption))); (focus (exact rfl))) | (refine' ⟨_, _, rfl, _, _⟩; rotate_left 1; (focus (first | exact .inl (by assumption) | exact .inl (SqL.of (by assumption)) | exact .inr (by assumption) | exact .inr (SqT.of (by assumption)))))))
        refine ite2 (fun _ => ?_) (fun _ => ?_)
        · exact ⟨true, rfl, (by cases c <;> rfl), o3, fl.2⟩
        · exact ⟨c, rfl, (by cases c <;> rfl), o3, fl.2⟩
      · clear fl
        rintro σ H ⟨e, rfl, he, fl⟩
        have o := fl.1
        (repeat (first | refine ⟨_, rfl, ?_⟩ | refine ⟨_, _, rfl, rfl, ?_⟩ | refine ⟨rfl, ?_⟩ | refine .inl ⟨_, rfl, ?_⟩ | refine .inr ⟨_, rfl, ?_⟩ | refine ⟨.inr ⟨by decide, by decide⟩, ?_⟩ | refine ⟨⟨by decide, by decide⟩, ?_⟩ | refine ⟨⟨by decide, by decide, by decide⟩, ?_⟩ | refine ⟨.inr ⟨by omega, by omega⟩, ?_⟩ | refine ⟨(by show (0 : Int) < _; first | decide | omega), ?_⟩ | refine ⟨Nat.le_trans (Nat.le_of_ble_eq_true rfl : _ ≤ 50) (by decide), ?_⟩ | refine ⟨_, _, _, _, rfl, rfl, upd_same, rfl, ?_⟩ | refine ⟨_, _, _, _, rfl, rfl, SqL.of upd_same, rfl, ?_⟩ | refine ⟨_, _, _, _, rfl, rfl, SqT.of upd_same, rfl, ?_⟩ | refine ⟨_, _, rfl, .inl (SqL.of upd_same), ?_⟩ | refine ⟨_, _, rfl, .inr (SqT.of upd_same), ?_⟩ | (refine' ⟨_, _, _, _, rfl, rfl, _, _, _⟩; rotate_left 2; (focus (first | assumption | exact SqL.of (by assumption) | exact SqT.of (by assumption) | exact Same.seq (by assumption) (by assumption))); (focus (exact rfl))) | (refine' ⟨_, _, rfl, _, _⟩; rotate_left 1; (focus (first | exact .inl (by assumption) | exact .inl (SqL.of (by assumption)) | exact .inr (by assumption) | exact .inr (SqT.of (by assumption)))))))
        refine ⟨D, _, rfl, .inl ⟨SqL.of (o.mem (List.mem_cons_self ..)), fun t2 ht2 => ?_⟩⟩
        have o1 := o.add (u := .tup (rs2.map V.ref)) ht2
        (repeat (first | refine ⟨_, rfl, ?_⟩ | refine ⟨_, _, rfl, rfl, ?_⟩ | refine ⟨rfl, ?_⟩ | refine .inl ⟨_, rfl, ?_⟩ | refine .inr ⟨_, rfl, ?_⟩ | refine ⟨.inr ⟨by decide, by decide⟩, ?_⟩ | refine ⟨⟨by decide, by decide⟩, ?_⟩ | refine ⟨⟨by decide, by decide, by decide⟩, ?_⟩ | refine ⟨.inr ⟨by omega, by omega⟩, ?_⟩ | refine ⟨(by show (0 : Int) < _; first | decide | omega), ?_⟩ | refine ⟨Nat.le_trans (Nat.le_of_ble_eq_true rfl : _ ≤ 50) (by decide), ?_⟩ | refine ⟨_, _, _, _, rfl, rfl, upd_same, rfl, ?_⟩ | refine ⟨_, _, _, _, rfl, rfl, SqL.of upd_same, rfl, ?_⟩ | refine ⟨_, _, _, _, rfl, rfl, SqT.of upd_same, rfl, ?_⟩ | refine ⟨_, _, rfl, .inl (SqL.of upd_same), ?_⟩ | refine ⟨_, _, rfl, .inr (SqT.of upd_same), ?_⟩ | (refine' ⟨_, _, _, _, rfl, rfl, _, _, _⟩; rotate_left 2; (focus (first | assumption | exact SqL.of (by assumption) | exact SqT.of (by assumption) | exact Same.seq (by assumption) (by assumption))); (focus (exact rfl))) | (refine' ⟨_, _, rfl, _, _⟩; rotate_left 1; (focus (first | exact .inl (by assumption) | exact .inl (SqL.of (by assumption)) | exact .inr (by assumption) | exact .inr (SqT.of (by assumption)))))))
        refine fun s1 hs1 => ?_
        have o2 := o1.add (u := .tup [.str (K70.fl e)]) hs1
        refine fl.done o2 fun u N' H2 sN o4 hs hk => ?_
        exact q u fs2 e N' H2 (sf.trans sN) o4 hs hk he hpf
end
end K70

set_option Elab.async false
set_option linter.all false
set_option maxRecDepth 100000
set_option maxHeartbeats 4000000
namespace K70
open PySem PySem.Spec PyProof.Rows L2 Lw GxR WD
/-! ### regions, words, the operations' bounds -/
theorem dstr (x y : Str) : eqV (V.str x) (V.str y) = decide (x = y) := rfl
theorem inV_str (n : Str) (l : List Str) : inV (V.str n) (l.map V.str) = decide (n ∈ l) := by
  induction l with
  | nil => rfl
  | cons x xs ih =>
    have h : inV (V.str n) ((x :: xs).map V.str) = (eqV (V.str x) (V.str n) || inV (V.str n) (xs.map V.str)) := rfl
    rw [h, ih, dstr]
    by_cases e : x = n
    · rw [decide_eq_true e, decide_eq_true (show n ∈ x :: xs from e ▸ List.mem_cons_self ..), Bool.true_or]
    · rw [decide_eq_false e, Bool.false_or]
      exact decide_eq_decide.mpr ⟨fun z => List.mem_cons_of_mem _ z, fun z => (List.mem_cons.mp z).elim (fun y => absurd y.symm e) id⟩
theorem bits_mono {a b : Int} (h0 : 0 ≤ a) (h : a ≤ b) : Builtin.Int.intBits a ≤ Builtin.Int.intBits b := by
  unfold Builtin.Int.intBits
  by_cases ha : a = 0
  · rw [if_pos (by rw [ha]; rfl)]
    exact Nat.zero_le _
  · rw [if_neg (by simpa using ha), if_neg (by simpa using (show b ≠ 0 by omega))]
    refine Nat.succ_le_succ ((Nat.le_log2 (by omega)).mpr (Nat.le_trans (Nat.log2_self_le (by omega)) (by omega)))
theorem bits_le {x : Int} (h0 : 0 ≤ x) (h1 : x ≤ 65535) : Builtin.Int.intBits x ≤ 16 :=
  Nat.le_trans (bits_mono h0 h1) (by decide +kernel)
structure Rg where
  start : Int
  size : Int
  sec : Bool
  most : Int
def Rg.row (g : Rg) : List V := [.int g.start, .int g.size, .str (fl g.sec), .int g.most]
def Rg.has (g : Rg) (x : Int) : Prop := g.start ≤ x ∧ x < g.start + g.size
def LayAt (K : PySem.W.Frag) (L : List (Addr × HO)) (a : Addr) (gs : List Rg) : Prop := ∃ rs : List Addr, TupAt K L a (rs.map V.ref) ∧ Paired (fun r g => TupAt K L r (Rg.row g)) rs gs
theorem LayAt.mono {K : PySem.W.Frag} {L M : List (Addr × HO)} {a : Addr} {gs : List Rg} (h : LayAt K L a gs) (s : ∀ q ∈ L, q ∈ M) : LayAt K M a gs := by
  obtain ⟨rs, h1, h2⟩ := h
  exact ⟨rs, h1.mono s, paired_imp (fun _ _ z => z.mono s) h2⟩
theorem LayAt.get {K : PySem.W.Frag} {L : List (Addr × HO)} {a : Addr} {gs : List Rg} (h : LayAt K L a gs) : ∃ xs, TupAt K L a xs ∧ xs.length = gs.length ∧ ∀ (i : Nat) (g : Rg), gs[i]? = some g → ∃ r : Addr, xs[i]? = some (.ref r) ∧ TupAt K L r g.row := by
  obtain ⟨rs, h1, h2⟩ := h
  refine ⟨_, h1, by rw [List.length_map, h2.length], fun i g hg => ?_⟩
  obtain ⟨r, hr, ht⟩ := WD.paired_at h2 hg
  exact ⟨r, by rw [List.getElem?_map, hr]; rfl, ht⟩
structure LayOk (gs : List Rg) : Prop where
  sorted : ∀ (i j : Nat) (g h : Rg), i < j → gs[i]? = some g → gs[j]? = some h → g.start + g.size ≤ h.start
  sized : ∀ g ∈ gs, 1 ≤ g.size
  most : ∀ g ∈ gs, 0 ≤ g.most ∧ g.most ≤ 65535
  few : gs.length ≤ 1000
/-- which region holds an address -/
def regZ (gs : List Rg) (x z : Int) : Prop := (z = -1 ∧ ∀ g ∈ gs, ¬ g.has x) ∨ ∃ (j : Nat) (g : Rg), z = j ∧ gs[j]? = some g ∧ g.has x
def safeZ (gs : List Rg) (lo hi : Int) (g : Rg) : Prop := g ∈ gs ∧ g.has lo ∧ hi < g.start + g.size
def asW (l h : Int) : Int × Int := if l < 0 ∨ h > 65535 then (0, 65535) else (l, h)
def shM (n : Str) (l h k : Int) : Int × Int := if n = "down" then (l / 2 ^ k.toNat, h / 2 ^ k.toNat) else asW (l * 2 ^ k.toNat) (h * 2 ^ k.toNat)
def maskM (k : Int) : Int := 1 * 2 ^ k.toNat - 1
def topM (n : Str) (h g : Int) : Int := if n = "and" then min h g else if n = "or" ∨ n = "xor" then maskM ((Builtin.Int.intBits (max h g) : Nat) : Int) else if n = "less" then 1 else h
def moreM (n : Str) : Int := if n = "addc" ∨ n = "subc" then 1 else 0
def opM (n : Str) (f g : Fa) : Int × Int :=
  if n = "add" ∨ n = "addc" then asW (f.lo + g.lo) (f.hi + g.hi + moreM n)
  else if n = "sub" ∨ n = "subc" then asW (f.lo - g.hi - moreM n) (f.hi - g.lo)
  else if n = "mul" then asW (f.lo * g.lo) (f.hi * g.hi)
  else if n = "high" then (f.lo * g.lo / 65536, f.hi * g.hi / 65536)
  else if n = "div" then (if 1 ≤ g.lo then (f.lo / g.hi, f.hi / g.lo) else (0, 65535))
  else (0, topM n f.hi g.hi)
/-- a new pair of integers -/
def new2 (H : Hp) (Q : VK) (x : Int × Int) : Prop := ∀ u H', Same H H' → H u = none → H' u = some (.tup [.int x.1, .int x.2]) → Q (.ref u) H'
def spMask : Sp := fun vs H Q _ => ∃ k : Int, vs = [.int k] ∧ 0 ≤ k ∧ k ≤ 1000 ∧ Q (.int (maskM k)) H
def spGiven (K : PySem.W.Frag) : Sp := fun vs H Q _ => ∃ (a : Addr) (n : Str) (xs : List V), vs = [.ref a] ∧ SqT K H a (.str n :: xs) ∧ (n ∈ (["clear", "store", "jump", "below", "call", "ret", "halt"] : List Str) → Q (.int (-1)) H) ∧ (n ∉ (["clear", "store", "jump", "below", "call", "ret", "halt"] : List Str) → ∃ (r : Int) (ys : List V), xs = .int r :: ys ∧ Q (.int r) H)
def spEnd (K : PySem.W.Frag) : Sp := fun vs H Q _ => ∃ (a : Addr) (g : Rg), vs = [.ref a] ∧ SqT K H a g.row ∧ Q (.int (g.start + g.size)) H
def spRegAt (K : PySem.W.Frag) : Sp := fun vs H Q _ => ∃ L a gs x, vs = [.ref a, .int x] ∧ (∀ q ∈ L, H q.1 = some q.2) ∧ LayAt K L a gs ∧ LayOk gs ∧ ∀ z, regZ gs x z → Q (.int z) H
def spAddrs (K : PySem.W.Frag) : Sp := fun vs H Q _ => ∃ (L : List (Addr × HO)) (a : Addr) (fs : List Fa) (c : Bool) (ia : Addr) (n : Str) (r s d : Int) (f : Fa), vs = [.ref a, .ref ia] ∧ (∀ q ∈ L, H q.1 = some q.2) ∧ StAt K L a fs c ∧ SqT K H ia [.str n, .int r, .int s, .int d] ∧ 0 ≤ s ∧ fs[s.toNat]? = some f ∧ new2 H Q (f.lo + d, f.hi + d)
def spSafe (K : PySem.W.Frag) : Sp := fun vs H Q _ => ∃ L a gs lo hi, vs = [.ref a, .int lo, .int hi] ∧ (∀ q ∈ L, H q.1 = some q.2) ∧ LayAt K L a gs ∧ LayOk gs ∧ ((∀ g, ¬ safeZ gs lo hi g) → Q .non H) ∧ ∀ r g, safeZ gs lo hi g → SqT K H r g.row → Q (.ref r) H
def spWo (K : PySem.W.Frag) : Sp := fun vs H Q _ => ∃ r f, vs = [.ref r] ∧ SqT K H r (Fa.row f) ∧ ∀ u H', Same H H' → H u = none → H' u = some (.tup (Fa.row ⟨f.sec, f.lo, f.hi, -1, 0⟩)) → Q (.ref u) H'
def spAsW : Sp := fun vs H Q _ => ∃ l h, vs = [.int l, .int h] ∧ new2 H Q (asW l h)
def spSh : Sp := fun vs H Q _ => ∃ n l h k, vs = [.str n, .int l, .int h, .int k] ∧ 0 ≤ l ∧ l ≤ 65535 ∧ 0 ≤ h ∧ h ≤ 65535 ∧ 0 ≤ k ∧ k ≤ 15 ∧ new2 H Q (shM n l h k)
def spTop : Sp := fun vs H Q _ => ∃ n h g, vs = [.str n, .int h, .int g] ∧ 0 ≤ h ∧ h ≤ 65535 ∧ 0 ≤ g ∧ g ≤ 65535 ∧ ∀ H', Same H H' → Q (.int (topM n h g)) H'
def RA (a : Addr) (x : Int) (gs : List Rg) (H : Hp) : Nat → L2.St → Hp → Prop := fun m σ H' => ∃ (lo hi : Nat) (v4 : Option V), σ = [some (.ref a), some (.int x), some (.int lo), some (.int hi), v4] ∧ H' = H ∧ m = hi - lo ∧ lo ≤ hi ∧ hi ≤ gs.length ∧ (∀ (i : Nat) (g : Rg), i < lo → gs[i]? = some g → g.start ≤ x) ∧ (∀ (i : Nat) (g : Rg), hi ≤ i → gs[i]? = some g → x < g.start)
theorem has_uni {gs : List Rg} (ok : LayOk gs) {i j : Nat} {g h : Rg} {x : Int} (hi : gs[i]? = some g) (hj : gs[j]? = some h) (a : g.has x) (b : h.has x) : i = j := by
  obtain ⟨a1, a2⟩ := a
  obtain ⟨b1, b2⟩ := b
  rcases Nat.lt_trichotomy i j with z | z | z
  · have := ok.sorted _ _ _ _ z hi hj
    omega
  · exact z
  · have := ok.sorted _ _ _ _ z hj hi
    omega
section
variable {P : Program} {w : World} {K : PySem.W.Frag} {mg : Str → Option Value} {base : Heap}
theorem ok_mask (T : Tx K mg) : FnOk P w K mg base CX0 1 T.a_mask T.d_mask ["count"] spMask := by
  refine T.F_mask.ok sc_mask (fun vs H Q E h => ?_) (fun cdv A outer s H vs Q E hr h => ?_)
  · obtain ⟨k, rfl, _⟩ := h
    rfl
  · obtain ⟨k, rfl, k0, k1, q⟩ := h
    refine ⟨_, (pss_one (ps_ret (pe_op op_sub (pe_op op_shl pe_int (pv 0)) pe_int))), ?_⟩
    (repeat (first | refine ⟨_, rfl, ?_⟩ | refine ⟨_, _, rfl, rfl, ?_⟩ | refine ⟨rfl, ?_⟩ | refine .inl ⟨_, rfl, ?_⟩ | refine .inr ⟨_, rfl, ?_⟩ | refine ⟨.inr ⟨by decide, by decide⟩, ?_⟩ | refine ⟨⟨by decide, by decide⟩, ?_⟩ | refine ⟨⟨by decide, by decide, by decide⟩, ?_⟩ | refine ⟨.inr ⟨by omega, by omega⟩, ?_⟩ | refine ⟨(by show (0 : Int) < _; first | decide | omega), ?_⟩ | refine ⟨Nat.le_trans (Nat.le_of_ble_eq_true rfl : _ ≤ 50) (by decide), ?_⟩ | refine ⟨_, _, _, _, rfl, rfl, upd_same, rfl, ?_⟩ | refine ⟨_, _, _, _, rfl, rfl, SqL.of upd_same, rfl, ?_⟩ | refine ⟨_, _, _, _, rfl, rfl, SqT.of upd_same, rfl, ?_⟩ | refine ⟨_, _, rfl, .inl (SqL.of upd_same), ?_⟩ | refine ⟨_, _, rfl, .inr (SqT.of upd_same), ?_⟩ | (refine' ⟨_, _, _, _, rfl, rfl, _, _, _⟩; rotate_left 2; (focus (first | assumption | exact SqL.of (by assumption) | exact SqT.of (by assumption) | exact Same.seq (by assumption) (by assumption))); (focus (exact rfl))) | (refine' ⟨_, _, rfl, _, _⟩; rotate_left 1; (focus (first | exact .inl (by assumption) | exact .inl (SqL.of (by assumption)) | exact .inr (by assumption) | exact .inr (SqT.of (by assumption)))))))
    refine ⟨⟨k0, by omega, by decide⟩, ?_⟩
    (repeat (first | refine ⟨_, rfl, ?_⟩ | refine ⟨_, _, rfl, rfl, ?_⟩ | refine ⟨rfl, ?_⟩ | refine .inl ⟨_, rfl, ?_⟩ | refine .inr ⟨_, rfl, ?_⟩ | refine ⟨.inr ⟨by decide, by decide⟩, ?_⟩ | refine ⟨⟨by decide, by decide⟩, ?_⟩ | refine ⟨⟨by decide, by decide, by decide⟩, ?_⟩ | refine ⟨.inr ⟨by omega, by omega⟩, ?_⟩ | refine ⟨(by show (0 : Int) < _; first | decide | omega), ?_⟩ | refine ⟨Nat.le_trans (Nat.le_of_ble_eq_true rfl : _ ≤ 50) (by decide), ?_⟩ | refine ⟨_, _, _, _, rfl, rfl, upd_same, rfl, ?_⟩ | refine ⟨_, _, _, _, rfl, rfl, SqL.of upd_same, rfl, ?_⟩ | refine ⟨_, _, _, _, rfl, rfl, SqT.of upd_same, rfl, ?_⟩ | refine ⟨_, _, rfl, .inl (SqL.of upd_same), ?_⟩ | refine ⟨_, _, rfl, .inr (SqT.of upd_same), ?_⟩ | (refine' ⟨_, _, _, _, rfl, rfl, _, _, _⟩; rotate_left 2; (focus (first | assumption | exact SqL.of (by assumption) | exact SqT.of (by assumption) | exact Same.seq (by assumption) (by assumption))); (focus (exact rfl))) | (refine' ⟨_, _, rfl, _, _⟩; rotate_left 1; (focus (first | exact .inl (by assumption) | exact .inl (SqL.of (by assumption)) | exact .inr (by assumption) | exact .inr (SqT.of (by assumption)))))))
    exact q
theorem ok_given (T : Tx K mg) : FnOk P w K mg base CX0 1 T.a_given_register T.d_given_register ["instruction"] (spGiven K) := by
  refine T.F_given_register.ok sc_given_register (fun vs H Q E h => ?_) (fun cdv A outer s H vs Q E hr h => ?_)
  · obtain ⟨a, n, xs, rfl, _⟩ := h
    rfl
  · obtain ⟨a, n, xs, rfl, hT, q1, q2⟩ := h
    refine ⟨_, (pss_cons (ps_if (pt_cmpR op_in_seq (pe_ix ix_tup (pv 0) pe_int (fun _ _ => rfl)) (pe_glob rfl T.g_GIVES_NOTHING T.r_GIVES_NOTHING) (by rfl))
        (pss_one (ps_ret (pe_un un_neg pe_int)))
        pss_nil)
        (pss_one (ps_ret (pe_ix ix_tup (pv 0) pe_int (fun _ _ => rfl))))), ?_⟩
    (repeat (first | refine ⟨_, rfl, ?_⟩ | refine ⟨_, _, rfl, rfl, ?_⟩ | refine ⟨rfl, ?_⟩ | refine .inl ⟨_, rfl, ?_⟩ | refine .inr ⟨_, rfl, ?_⟩ | refine ⟨.inr ⟨by decide, by decide⟩, ?_⟩ | refine ⟨⟨by decide, by decide⟩, ?_⟩ | refine ⟨⟨by decide, by decide, by decide⟩, ?_⟩ | refine ⟨.inr ⟨by omega, by omega⟩, ?_⟩ | refine ⟨(by show (0 : Int) < _; first | decide | omega), ?_⟩ | refine ⟨Nat.le_trans (Nat.le_of_ble_eq_true rfl : _ ≤ 50) (by decide), ?_⟩ | refine ⟨_, _, _, _, rfl, rfl, upd_same, rfl, ?_⟩ | refine ⟨_, _, _, _, rfl, rfl, SqL.of upd_same, rfl, ?_⟩ | refine ⟨_, _, _, _, rfl, rfl, SqT.of upd_same, rfl, ?_⟩ | refine ⟨_, _, rfl, .inl (SqL.of upd_same), ?_⟩ | refine ⟨_, _, rfl, .inr (SqT.of upd_same), ?_⟩ | (refine' ⟨_, _, _, _, rfl, rfl, _, _, _⟩; rotate_left 2; (focus (first | assumption | exact SqL.of (by assumption) | exact SqT.of (by assumption) | exact Same.seq (by assumption) (by assumption))); (focus (exact rfl))) | (refine' ⟨_, _, rfl, _, _⟩; rotate_left 1; (focus (first | exact .inl (by assumption) | exact .inl (SqL.of (by assumption)) | exact .inr (by assumption) | exact .inr (SqT.of (by assumption)))))))
    refine ⟨a, _, _, _, rfl, rfl, hT, at0 _ _, ?_⟩
    dsimp only [tC]
    have hc := KDx.tupB_ok (H := H) T.kitgn (by decide)
    refine ⟨_, _, rfl, .inr hc, rfl, by decide +kernel, ?_⟩
    rw [if_neg Bool.false_ne_true, inV_str]
    refine ⟨_, rfl, ?_⟩
    refine ite2 (fun e => ?_) (fun e => ?_)
    · have e := of_decide_eq_true e
      (repeat (first | refine ⟨_, rfl, ?_⟩ | refine ⟨_, _, rfl, rfl, ?_⟩ | refine ⟨rfl, ?_⟩ | refine .inl ⟨_, rfl, ?_⟩ | refine .inr ⟨_, rfl, ?_⟩ | refine ⟨.inr ⟨by decide, by decide⟩, ?_⟩ | refine ⟨⟨by decide, by decide⟩, ?_⟩ | refine ⟨⟨by decide, by decide, by decide⟩, ?_⟩ | refine ⟨.inr ⟨by omega, by omega⟩, ?_⟩ | refine ⟨(by show (0 : Int) < _; first | decide | omega), ?_⟩ | refine ⟨Nat.le_trans (Nat.le_of_ble_eq_true rfl : _ ≤ 50) (by decide), ?_⟩ | refine ⟨_, _, _, _, rfl, rfl, upd_same, rfl, ?_⟩ | refine ⟨_, _, _, _, rfl, rfl, SqL.of upd_same, rfl, ?_⟩ | refine ⟨_, _, _, _, rfl, rfl, SqT.of upd_same, rfl, ?_⟩ | refine ⟨_, _, rfl, .inl (SqL.of upd_same), ?_⟩ | refine ⟨_, _, rfl, .inr (SqT.of upd_same), ?_⟩ | (refine' ⟨_, _, _, _, rfl, rfl, _, _, _⟩; rotate_left 2; (focus (first | assumption | exact SqL.of (by assumption) | exact SqT.of (by assumption) | exact Same.seq (by assumption) (by assumption))); (focus (exact rfl))) | (refine' ⟨_, _, rfl, _, _⟩; rotate_left 1; (focus (first | exact .inl (by assumption) | exact .inl (SqL.of (by assumption)) | exact .inr (by assumption) | exact .inr (SqT.of (by assumption)))))))
      exact q1 e
    · have e : ¬ _ := fun z => e (decide_eq_true z)
      obtain ⟨r, ys, rfl, q⟩ := q2 e
      refine ⟨_, rfl, a, _, _, _, rfl, rfl, hT, atI_nat (j := 1) rfl, ?_⟩
      exact q
theorem ok_end (T : Tx K mg) : FnOk P w K mg base CX0 1 T.a_region_end T.d_region_end ["region"] (spEnd K) := by
  refine T.F_region_end.ok sc_region_end (fun vs H Q E h => ?_) (fun cdv A outer s H vs Q E hr h => ?_)
  · obtain ⟨a, g, rfl, _⟩ := h
    rfl
  · obtain ⟨a, g, rfl, hT, q⟩ := h
    refine ⟨_, (pss_one (ps_ret (pe_op op_add (pe_ix ix_tup (pv 0) pe_int (fun _ _ => rfl)) (pe_ix ix_tup (pv 0) pe_int (fun _ _ => rfl))))), ?_⟩
    refine ⟨_, rfl, a, _, _, _, rfl, rfl, hT, rfl, _, rfl, a, _, _, _, rfl, rfl, hT, rfl, ?_⟩
    (repeat (first | refine ⟨_, rfl, ?_⟩ | refine ⟨_, _, rfl, rfl, ?_⟩ | refine ⟨rfl, ?_⟩ | refine .inl ⟨_, rfl, ?_⟩ | refine .inr ⟨_, rfl, ?_⟩ | refine ⟨.inr ⟨by decide, by decide⟩, ?_⟩ | refine ⟨⟨by decide, by decide⟩, ?_⟩ | refine ⟨⟨by decide, by decide, by decide⟩, ?_⟩ | refine ⟨.inr ⟨by omega, by omega⟩, ?_⟩ | refine ⟨(by show (0 : Int) < _; first | decide | omega), ?_⟩ | refine ⟨Nat.le_trans (Nat.le_of_ble_eq_true rfl : _ ≤ 50) (by decide), ?_⟩ | refine ⟨_, _, _, _, rfl, rfl, upd_same, rfl, ?_⟩ | refine ⟨_, _, _, _, rfl, rfl, SqL.of upd_same, rfl, ?_⟩ | refine ⟨_, _, _, _, rfl, rfl, SqT.of upd_same, rfl, ?_⟩ | refine ⟨_, _, rfl, .inl (SqL.of upd_same), ?_⟩ | refine ⟨_, _, rfl, .inr (SqT.of upd_same), ?_⟩ | (refine' ⟨_, _, _, _, rfl, rfl, _, _, _⟩; rotate_left 2; (focus (first | assumption | exact SqL.of (by assumption) | exact SqT.of (by assumption) | exact Same.seq (by assumption) (by assumption))); (focus (exact rfl))) | (refine' ⟨_, _, rfl, _, _⟩; rotate_left 1; (focus (first | exact .inl (by assumption) | exact .inl (SqL.of (by assumption)) | exact .inr (by assumption) | exact .inr (SqT.of (by assumption)))))))
    exact q
theorem ok_addrs (T : Tx K mg) : FnOk P w K mg base CX0 1 T.a_addresses T.d_addresses ["state", "instruction"] (spAddrs K) := by
  refine T.F_addresses.ok sc_addresses (fun vs H Q E h => ?_) (fun cdv A outer s H vs Q E hr h => ?_)
  · obtain ⟨L, a, fs, c, ia, n, r, sv, d, f, rfl, _⟩ := h
    rfl
  · obtain ⟨L, a, fs, c, ia, n, r, sv, d, f, rfl, hL, hS, hI, s0, hf, q⟩ := h
    refine ⟨_, (pss_cons (ps_asg (pe_ix ix_tup (pv 0) (pe_ix ix_tup (pv 1) pe_int (fun _ _ => rfl)) (fun _ _ => rfl)) (pg_tup rfl (pgs_cons (pg_name (i := 2) sc_addresses.nd rfl (.inl rfl)) (pgs_cons (pg_name (i := 3) sc_addresses.nd rfl (.inl rfl)) (pgs_cons (pg_name (i := 4) sc_addresses.nd rfl (.inl rfl)) (pgs_cons (pg_name (i := 2) sc_addresses.nd rfl (.inl rfl)) (pgs_cons (pg_name (i := 2) sc_addresses.nd rfl (.inl rfl)) pgs_nil)))))))
        (pss_cons (ps_set (i := 5) sc_addresses.nd rfl (.inl rfl) (pe_ix ix_tup (pv 1) pe_int (fun _ _ => rfl)))
        (pss_one (ps_ret (pe_tup (pa_cons (pe_op op_add (pv 3) (pv 5)) (pa_cons (pe_op op_add (pv 4) (pv 5)) pa_nil))))))), ?_⟩
    obtain ⟨xs, x1, x2, x3, x4⟩ := hS.at_
    obtain ⟨j, rfl⟩ := Int.eq_ofNat_of_zero_le s0
    obtain ⟨r1, hr1, t1⟩ := x2 j f hf
    have k1 := x1.sq hL
    have k2 := t1.sq hL
    refine ⟨_, rfl, _, rfl, ia, _, _, _, rfl, rfl, hI, rfl, a, _, _, _, rfl, rfl, k1, atI_nat hr1, ?_⟩
    refine ⟨r1, _, rfl, k2, rfl, ?_⟩
    refine ⟨_, _, rfl, _, _, rfl, _, _, rfl, _, _, rfl, _, _, rfl, rfl, ?_⟩
    refine ⟨_, rfl, ia, _, _, _, rfl, rfl, hI, atI_nat (j := 3) rfl, ?_⟩
    (repeat (first | refine ⟨_, rfl, ?_⟩ | refine ⟨_, _, rfl, rfl, ?_⟩ | refine ⟨rfl, ?_⟩ | refine .inl ⟨_, rfl, ?_⟩ | refine .inr ⟨_, rfl, ?_⟩ | refine ⟨.inr ⟨by decide, by decide⟩, ?_⟩ | refine ⟨⟨by decide, by decide⟩, ?_⟩ | refine ⟨⟨by decide, by decide, by decide⟩, ?_⟩ | refine ⟨.inr ⟨by omega, by omega⟩, ?_⟩ | refine ⟨(by show (0 : Int) < _; first | decide | omega), ?_⟩ | refine ⟨Nat.le_trans (Nat.le_of_ble_eq_true rfl : _ ≤ 50) (by decide), ?_⟩ | refine ⟨_, _, _, _, rfl, rfl, upd_same, rfl, ?_⟩ | refine ⟨_, _, _, _, rfl, rfl, SqL.of upd_same, rfl, ?_⟩ | refine ⟨_, _, _, _, rfl, rfl, SqT.of upd_same, rfl, ?_⟩ | refine ⟨_, _, rfl, .inl (SqL.of upd_same), ?_⟩ | refine ⟨_, _, rfl, .inr (SqT.of upd_same), ?_⟩ | (refine' ⟨_, _, _, _, rfl, rfl, _, _, _⟩; rotate_left 2; (focus (first | assumption | exact SqL.of (by assumption) | exact SqT.of (by assumption) | exact Same.seq (by assumption) (by assumption))); (focus (exact rfl))) | (refine' ⟨_, _, rfl, _, _⟩; rotate_left 1; (focus (first | exact .inl (by assumption) | exact .inl (SqL.of (by assumption)) | exact .inr (by assumption) | exact .inr (SqT.of (by assumption)))))))
    exact fun u hu => q u _ (same_upd hu) hu upd_same
theorem nocell {T : Tx K mg} {H : Hp} : SqT K H T.c_NO_CELL [.int (-1), .int 0] := by
  obtain ⟨xs, tx, px⟩ := WD.datB_at (L := []) T.kitnc
  cases px with
  | @cons x0 _ _ _ a0 px =>
    cases px with
    | @cons x1 _ _ _ a1 px =>
      cases px
      have e0 : x0 = .int (-1) := by cases x0 <;> first | exact False.elim a0 | (cases (show _ = _ from a0); rfl)
      have e1 : x1 = .int 0 := by cases x1 <;> first | exact False.elim a1 | (cases (show _ = _ from a1); rfl)
      rw [e0, e1] at tx
      exact tx.sq (H := H) fun q hq => by cases hq
theorem ok_wo (T : Tx K mg) : FnOk P w K mg base CX0 1 T.a_without_cell T.d_without_cell ["fact"] (spWo K) := by
  refine T.F_without_cell.ok sc_without_cell (fun vs H Q E h => ?_) (fun cdv A outer s H vs Q E hr h => ?_)
  · obtain ⟨r, f, rfl, _⟩ := h
    rfl
  · obtain ⟨r, f, rfl, hT, q⟩ := h
    refine ⟨_, (pss_one (ps_ret (pe_tup (StX.pa_star (pe_slice sl_tup (pv 0) po_none (po_some pe_int)) (StX.pa_star (pe_glob rfl T.g_NO_CELL T.r_NO_CELL) pa_nil))))), ?_⟩
    have kn : SqT K H T.c_NO_CELL [.int (-1), .int 0] := nocell (T := T)
    refine ⟨_, rfl, ?_⟩
    dsimp only [tNoPart]
    refine ⟨_, rfl, r, _, rfl, hT, fun z => absurd z.2 (by show ¬ (3 = 5); decide), fun y hy => ?_⟩
    rw [show cutV (Fa.row f) none (some 3) = [.str (fl f.sec), .int f.lo, .int f.hi] from rfl]
    have sy := same_upd (o := .tup [.str (fl f.sec), .int f.lo, .int f.hi]) hy
    have kn : SqT K (upd H y (.tup [.str (fl f.sec), .int f.lo, .int f.hi])) T.c_NO_CELL [.int (-1), .int 0] := nocell (T := T)
    refine ⟨y, _, rfl, .inl (SqT.of upd_same), ?_⟩
    refine ⟨_, _, rfl, .inl kn, ?_⟩
    refine ⟨by show 5 ≤ sizeLine; decide, fun u hu => ?_⟩
    exact q u _ (sy.trans (same_upd hu)) (sy.free hu) upd_same
theorem ok_asw (T : Tx K mg) : FnOk P w K mg base CX0 1 T.a_as_words T.d_as_words ["least", "greatest"] spAsW := by
  refine T.F_as_words.ok sc_as_words (fun vs H Q E h => ?_) (fun cdv A outer s H vs Q E hr h => ?_)
  · obtain ⟨l, h, rfl, _⟩ := h
    rfl
  · obtain ⟨l, h, rfl, q⟩ := h
    refine ⟨_, (pss_cons (ps_if (PW.pt (pw_or (pt_cmpR op_lt (pv 0) pe_int (nomark _)) (pw_or1 (pt_cmpR op_gt (pv 1) (pe_glob rfl T.g_GREATEST_WORD T.r_GREATEST_WORD) (nomark _)))))
        (pss_one (ps_ret (pe_tup (pa_cons pe_int (pa_cons (pe_glob rfl T.g_GREATEST_WORD T.r_GREATEST_WORD) pa_nil)))))
        pss_nil)
        (pss_one (ps_ret (pe_tup (pa_cons (pv 0) (pa_cons (pv 1) pa_nil)))))), ?_⟩
    (repeat (first | refine ⟨_, rfl, ?_⟩ | refine ⟨_, _, rfl, rfl, ?_⟩ | refine ⟨rfl, ?_⟩ | refine .inl ⟨_, rfl, ?_⟩ | refine .inr ⟨_, rfl, ?_⟩ | refine ⟨.inr ⟨by decide, by decide⟩, ?_⟩ | refine ⟨⟨by decide, by decide⟩, ?_⟩ | refine ⟨⟨by decide, by decide, by decide⟩, ?_⟩ | refine ⟨.inr ⟨by omega, by omega⟩, ?_⟩ | refine ⟨(by show (0 : Int) < _; first | decide | omega), ?_⟩ | refine ⟨Nat.le_trans (Nat.le_of_ble_eq_true rfl : _ ≤ 50) (by decide), ?_⟩ | refine ⟨_, _, _, _, rfl, rfl, upd_same, rfl, ?_⟩ | refine ⟨_, _, _, _, rfl, rfl, SqL.of upd_same, rfl, ?_⟩ | refine ⟨_, _, _, _, rfl, rfl, SqT.of upd_same, rfl, ?_⟩ | refine ⟨_, _, rfl, .inl (SqL.of upd_same), ?_⟩ | refine ⟨_, _, rfl, .inr (SqT.of upd_same), ?_⟩ | (refine' ⟨_, _, _, _, rfl, rfl, _, _, _⟩; rotate_left 2; (focus (first | assumption | exact SqL.of (by assumption) | exact SqT.of (by assumption) | exact Same.seq (by assumption) (by assumption))); (focus (exact rfl))) | (refine' ⟨_, _, rfl, _, _⟩; rotate_left 1; (focus (first | exact .inl (by assumption) | exact .inl (SqL.of (by assumption)) | exact .inr (by assumption) | exact .inr (SqT.of (by assumption)))))))
    have qq : ∀ x, asW l h = x → new2 H Q x := fun x e => e ▸ q
    unfold asW at qq
    refine ite2 (fun e => ?_) (fun e => ?_)
    · have e := of_decide_eq_true e
      (repeat (first | refine ⟨_, rfl, ?_⟩ | refine ⟨_, _, rfl, rfl, ?_⟩ | refine ⟨rfl, ?_⟩ | refine .inl ⟨_, rfl, ?_⟩ | refine .inr ⟨_, rfl, ?_⟩ | refine ⟨.inr ⟨by decide, by decide⟩, ?_⟩ | refine ⟨⟨by decide, by decide⟩, ?_⟩ | refine ⟨⟨by decide, by decide, by decide⟩, ?_⟩ | refine ⟨.inr ⟨by omega, by omega⟩, ?_⟩ | refine ⟨(by show (0 : Int) < _; first | decide | omega), ?_⟩ | refine ⟨Nat.le_trans (Nat.le_of_ble_eq_true rfl : _ ≤ 50) (by decide), ?_⟩ | refine ⟨_, _, _, _, rfl, rfl, upd_same, rfl, ?_⟩ | refine ⟨_, _, _, _, rfl, rfl, SqL.of upd_same, rfl, ?_⟩ | refine ⟨_, _, _, _, rfl, rfl, SqT.of upd_same, rfl, ?_⟩ | refine ⟨_, _, rfl, .inl (SqL.of upd_same), ?_⟩ | refine ⟨_, _, rfl, .inr (SqT.of upd_same), ?_⟩ | (refine' ⟨_, _, _, _, rfl, rfl, _, _, _⟩; rotate_left 2; (focus (first | assumption | exact SqL.of (by assumption) | exact SqT.of (by assumption) | exact Same.seq (by assumption) (by assumption))); (focus (exact rfl))) | (refine' ⟨_, _, rfl, _, _⟩; rotate_left 1; (focus (first | exact .inl (by assumption) | exact .inl (SqL.of (by assumption)) | exact .inr (by assumption) | exact .inr (SqT.of (by assumption)))))))
      exact fun u hu => qq _ (if_pos (.inl e)) u _ (same_upd hu) hu upd_same
    · have e : ¬ l < 0 := fun z => e (decide_eq_true z)
      (repeat (first | refine ⟨_, rfl, ?_⟩ | refine ⟨_, _, rfl, rfl, ?_⟩ | refine ⟨rfl, ?_⟩ | refine .inl ⟨_, rfl, ?_⟩ | refine .inr ⟨_, rfl, ?_⟩ | refine ⟨.inr ⟨by decide, by decide⟩, ?_⟩ | refine ⟨⟨by decide, by decide⟩, ?_⟩ | refine ⟨⟨by decide, by decide, by decide⟩, ?_⟩ | refine ⟨.inr ⟨by omega, by omega⟩, ?_⟩ | refine ⟨(by show (0 : Int) < _; first | decide | omega), ?_⟩ | refine ⟨Nat.le_trans (Nat.le_of_ble_eq_true rfl : _ ≤ 50) (by decide), ?_⟩ | refine ⟨_, _, _, _, rfl, rfl, upd_same, rfl, ?_⟩ | refine ⟨_, _, _, _, rfl, rfl, SqL.of upd_same, rfl, ?_⟩ | refine ⟨_, _, _, _, rfl, rfl, SqT.of upd_same, rfl, ?_⟩ | refine ⟨_, _, rfl, .inl (SqL.of upd_same), ?_⟩ | refine ⟨_, _, rfl, .inr (SqT.of upd_same), ?_⟩ | (refine' ⟨_, _, _, _, rfl, rfl, _, _, _⟩; rotate_left 2; (focus (first | assumption | exact SqL.of (by assumption) | exact SqT.of (by assumption) | exact Same.seq (by assumption) (by assumption))); (focus (exact rfl))) | (refine' ⟨_, _, rfl, _, _⟩; rotate_left 1; (focus (first | exact .inl (by assumption) | exact .inl (SqL.of (by assumption)) | exact .inr (by assumption) | exact .inr (SqT.of (by assumption)))))))
      refine ite2 (fun e2 => ?_) (fun e2 => ?_)
      · have e2 : 65535 < h := of_decide_eq_true e2
        (repeat (first | refine ⟨_, rfl, ?_⟩ | refine ⟨_, _, rfl, rfl, ?_⟩ | refine ⟨rfl, ?_⟩ | refine .inl ⟨_, rfl, ?_⟩ | refine .inr ⟨_, rfl, ?_⟩ | refine ⟨.inr ⟨by decide, by decide⟩, ?_⟩ | refine ⟨⟨by decide, by decide⟩, ?_⟩ | refine ⟨⟨by decide, by decide, by decide⟩, ?_⟩ | refine ⟨.inr ⟨by omega, by omega⟩, ?_⟩ | refine ⟨(by show (0 : Int) < _; first | decide | omega), ?_⟩ | refine ⟨Nat.le_trans (Nat.le_of_ble_eq_true rfl : _ ≤ 50) (by decide), ?_⟩ | refine ⟨_, _, _, _, rfl, rfl, upd_same, rfl, ?_⟩ | refine ⟨_, _, _, _, rfl, rfl, SqL.of upd_same, rfl, ?_⟩ | refine ⟨_, _, _, _, rfl, rfl, SqT.of upd_same, rfl, ?_⟩ | refine ⟨_, _, rfl, .inl (SqL.of upd_same), ?_⟩ | refine ⟨_, _, rfl, .inr (SqT.of upd_same), ?_⟩ | (refine' ⟨_, _, _, _, rfl, rfl, _, _, _⟩; rotate_left 2; (focus (first | assumption | exact SqL.of (by assumption) | exact SqT.of (by assumption) | exact Same.seq (by assumption) (by assumption))); (focus (exact rfl))) | (refine' ⟨_, _, rfl, _, _⟩; rotate_left 1; (focus (first | exact .inl (by assumption) | exact .inl (SqL.of (by assumption)) | exact .inr (by assumption) | exact .inr (SqT.of (by assumption)))))))
        exact fun u hu => qq _ (if_pos (.inr e2)) u _ (same_upd hu) hu upd_same
      · have e2 : ¬ 65535 < h := fun z => e2 (decide_eq_true z)
        (repeat (first | refine ⟨_, rfl, ?_⟩ | refine ⟨_, _, rfl, rfl, ?_⟩ | refine ⟨rfl, ?_⟩ | refine .inl ⟨_, rfl, ?_⟩ | refine .inr ⟨_, rfl, ?_⟩ | refine ⟨.inr ⟨by decide, by decide⟩, ?_⟩ | refine ⟨⟨by decide, by decide⟩, ?_⟩ | refine ⟨⟨by decide, by decide, by decide⟩, ?_⟩ | refine ⟨.inr ⟨by omega, by omega⟩, ?_⟩ | refine ⟨(by show (0 : Int) < _; first | decide | omega), ?_⟩ | refine ⟨Nat.le_trans (Nat.le_of_ble_eq_true rfl : _ ≤ 50) (by decide), ?_⟩ | refine ⟨_, _, _, _, rfl, rfl, upd_same, rfl, ?_⟩ | refine ⟨_, _, _, _, rfl, rfl, SqL.of upd_same, rfl, ?_⟩ | refine ⟨_, _, _, _, rfl, rfl, SqT.of upd_same, rfl, ?_⟩ | refine ⟨_, _, rfl, .inl (SqL.of upd_same), ?_⟩ | refine ⟨_, _, rfl, .inr (SqT.of upd_same), ?_⟩ | (refine' ⟨_, _, _, _, rfl, rfl, _, _, _⟩; rotate_left 2; (focus (first | assumption | exact SqL.of (by assumption) | exact SqT.of (by assumption) | exact Same.seq (by assumption) (by assumption))); (focus (exact rfl))) | (refine' ⟨_, _, rfl, _, _⟩; rotate_left 1; (focus (first | exact .inl (by assumption) | exact .inl (SqL.of (by assumption)) | exact .inr (by assumption) | exact .inr (SqT.of (by assumption)))))))
        exact fun u hu => qq _ (if_neg (fun z => z.elim e e2)) u _ (same_upd hu) hu upd_same
theorem ok_sh (T : Tx K mg) : FnOk P w K mg base CX0 2 T.a_shifted T.d_shifted ["name", "least", "greatest", "count"] spSh := by
  have G_as_words : FnOk P w K mg base CX0 1 T.a_as_words T.d_as_words ["least", "greatest"] spAsW := ok_asw T
  refine T.F_shifted.ok sc_shifted (fun vs H Q E h => ?_) (fun cdv A outer s H vs Q E hr h => ?_)
  · obtain ⟨n, l, h, k, rfl, _⟩ := h
    rfl
  · obtain ⟨n, l, h, k, rfl, l0, l1, h0, h1, k0, k1, q⟩ := h
    have hr_as_words : Room 1 _ := hr
    refine ⟨_, (pss_cons (ps_if (pt_cmpR op_eq (pv 0) pe_str (nomark _))
        (pss_one (ps_ret (pe_tup (pa_cons (pe_op op_shr (pv 1) (pv 3)) (pa_cons (pe_op op_shr (pv 2) (pv 3)) pa_nil)))))
        pss_nil)
        (pss_one (ps_ret (pe_call G_as_words hr_as_words (by rfl) T.g_as_words T.F_as_words.kp T.b_as_words .nil pass0 (pa_cons (pe_op op_shl (pv 1) (pv 3)) (pa_cons (pe_op op_shl (pv 2) (pv 3)) pa_nil)))))), ?_⟩
    (repeat (first | refine ⟨_, rfl, ?_⟩ | refine ⟨_, _, rfl, rfl, ?_⟩ | refine ⟨rfl, ?_⟩ | refine .inl ⟨_, rfl, ?_⟩ | refine .inr ⟨_, rfl, ?_⟩ | refine ⟨.inr ⟨by decide, by decide⟩, ?_⟩ | refine ⟨⟨by decide, by decide⟩, ?_⟩ | refine ⟨⟨by decide, by decide, by decide⟩, ?_⟩ | refine ⟨.inr ⟨by omega, by omega⟩, ?_⟩ | refine ⟨(by show (0 : Int) < _; first | decide | omega), ?_⟩ | refine ⟨Nat.le_trans (Nat.le_of_ble_eq_true rfl : _ ≤ 50) (by decide), ?_⟩ | refine ⟨_, _, _, _, rfl, rfl, upd_same, rfl, ?_⟩ | refine ⟨_, _, _, _, rfl, rfl, SqL.of upd_same, rfl, ?_⟩ | refine ⟨_, _, _, _, rfl, rfl, SqT.of upd_same, rfl, ?_⟩ | refine ⟨_, _, rfl, .inl (SqL.of upd_same), ?_⟩ | refine ⟨_, _, rfl, .inr (SqT.of upd_same), ?_⟩ | (refine' ⟨_, _, _, _, rfl, rfl, _, _, _⟩; rotate_left 2; (focus (first | assumption | exact SqL.of (by assumption) | exact SqT.of (by assumption) | exact Same.seq (by assumption) (by assumption))); (focus (exact rfl))) | (refine' ⟨_, _, rfl, _, _⟩; rotate_left 1; (focus (first | exact .inl (by assumption) | exact .inl (SqL.of (by assumption)) | exact .inr (by assumption) | exact .inr (SqT.of (by assumption)))))))
    have qq : ∀ x, shM n l h k = x → new2 H Q x := fun x e => e ▸ q
    unfold shM at qq
    refine ite2 (fun e => ?_) (fun e => ?_)
    · have e : n = "down" := V.str.inj (of_decide_eq_true e)
      (repeat (first | refine ⟨_, rfl, ?_⟩ | refine ⟨_, _, rfl, rfl, ?_⟩ | refine ⟨rfl, ?_⟩ | refine .inl ⟨_, rfl, ?_⟩ | refine .inr ⟨_, rfl, ?_⟩ | refine ⟨.inr ⟨by decide, by decide⟩, ?_⟩ | refine ⟨⟨by decide, by decide⟩, ?_⟩ | refine ⟨⟨by decide, by decide, by decide⟩, ?_⟩ | refine ⟨.inr ⟨by omega, by omega⟩, ?_⟩ | refine ⟨(by show (0 : Int) < _; first | decide | omega), ?_⟩ | refine ⟨Nat.le_trans (Nat.le_of_ble_eq_true rfl : _ ≤ 50) (by decide), ?_⟩ | refine ⟨_, _, _, _, rfl, rfl, upd_same, rfl, ?_⟩ | refine ⟨_, _, _, _, rfl, rfl, SqL.of upd_same, rfl, ?_⟩ | refine ⟨_, _, _, _, rfl, rfl, SqT.of upd_same, rfl, ?_⟩ | refine ⟨_, _, rfl, .inl (SqL.of upd_same), ?_⟩ | refine ⟨_, _, rfl, .inr (SqT.of upd_same), ?_⟩ | (refine' ⟨_, _, _, _, rfl, rfl, _, _, _⟩; rotate_left 2; (focus (first | assumption | exact SqL.of (by assumption) | exact SqT.of (by assumption) | exact Same.seq (by assumption) (by assumption))); (focus (exact rfl))) | (refine' ⟨_, _, rfl, _, _⟩; rotate_left 1; (focus (first | exact .inl (by assumption) | exact .inl (SqL.of (by assumption)) | exact .inr (by assumption) | exact .inr (SqT.of (by assumption)))))))
      refine ⟨k0, ?_⟩
      (repeat (first | refine ⟨_, rfl, ?_⟩ | refine ⟨_, _, rfl, rfl, ?_⟩ | refine ⟨rfl, ?_⟩ | refine .inl ⟨_, rfl, ?_⟩ | refine .inr ⟨_, rfl, ?_⟩ | refine ⟨.inr ⟨by decide, by decide⟩, ?_⟩ | refine ⟨⟨by decide, by decide⟩, ?_⟩ | refine ⟨⟨by decide, by decide, by decide⟩, ?_⟩ | refine ⟨.inr ⟨by omega, by omega⟩, ?_⟩ | refine ⟨(by show (0 : Int) < _; first | decide | omega), ?_⟩ | refine ⟨Nat.le_trans (Nat.le_of_ble_eq_true rfl : _ ≤ 50) (by decide), ?_⟩ | refine ⟨_, _, _, _, rfl, rfl, upd_same, rfl, ?_⟩ | refine ⟨_, _, _, _, rfl, rfl, SqL.of upd_same, rfl, ?_⟩ | refine ⟨_, _, _, _, rfl, rfl, SqT.of upd_same, rfl, ?_⟩ | refine ⟨_, _, rfl, .inl (SqL.of upd_same), ?_⟩ | refine ⟨_, _, rfl, .inr (SqT.of upd_same), ?_⟩ | (refine' ⟨_, _, _, _, rfl, rfl, _, _, _⟩; rotate_left 2; (focus (first | assumption | exact SqL.of (by assumption) | exact SqT.of (by assumption) | exact Same.seq (by assumption) (by assumption))); (focus (exact rfl))) | (refine' ⟨_, _, rfl, _, _⟩; rotate_left 1; (focus (first | exact .inl (by assumption) | exact .inl (SqL.of (by assumption)) | exact .inr (by assumption) | exact .inr (SqT.of (by assumption)))))))
      refine ⟨k0, ?_⟩
      (repeat (first | refine ⟨_, rfl, ?_⟩ | refine ⟨_, _, rfl, rfl, ?_⟩ | refine ⟨rfl, ?_⟩ | refine .inl ⟨_, rfl, ?_⟩ | refine .inr ⟨_, rfl, ?_⟩ | refine ⟨.inr ⟨by decide, by decide⟩, ?_⟩ | refine ⟨⟨by decide, by decide⟩, ?_⟩ | refine ⟨⟨by decide, by decide, by decide⟩, ?_⟩ | refine ⟨.inr ⟨by omega, by omega⟩, ?_⟩ | refine ⟨(by show (0 : Int) < _; first | decide | omega), ?_⟩ | refine ⟨Nat.le_trans (Nat.le_of_ble_eq_true rfl : _ ≤ 50) (by decide), ?_⟩ | refine ⟨_, _, _, _, rfl, rfl, upd_same, rfl, ?_⟩ | refine ⟨_, _, _, _, rfl, rfl, SqL.of upd_same, rfl, ?_⟩ | refine ⟨_, _, _, _, rfl, rfl, SqT.of upd_same, rfl, ?_⟩ | refine ⟨_, _, rfl, .inl (SqL.of upd_same), ?_⟩ | refine ⟨_, _, rfl, .inr (SqT.of upd_same), ?_⟩ | (refine' ⟨_, _, _, _, rfl, rfl, _, _, _⟩; rotate_left 2; (focus (first | assumption | exact SqL.of (by assumption) | exact SqT.of (by assumption) | exact Same.seq (by assumption) (by assumption))); (focus (exact rfl))) | (refine' ⟨_, _, rfl, _, _⟩; rotate_left 1; (focus (first | exact .inl (by assumption) | exact .inl (SqL.of (by assumption)) | exact .inr (by assumption) | exact .inr (SqT.of (by assumption)))))))
      exact fun u hu => qq _ (if_pos e) u _ (same_upd hu) hu upd_same
    · have e : ¬ n = "down" := fun z => e (decide_eq_true (by rw [z]))
      (repeat (first | refine ⟨_, rfl, ?_⟩ | refine ⟨_, _, rfl, rfl, ?_⟩ | refine ⟨rfl, ?_⟩ | refine .inl ⟨_, rfl, ?_⟩ | refine .inr ⟨_, rfl, ?_⟩ | refine ⟨.inr ⟨by decide, by decide⟩, ?_⟩ | refine ⟨⟨by decide, by decide⟩, ?_⟩ | refine ⟨⟨by decide, by decide, by decide⟩, ?_⟩ | refine ⟨.inr ⟨by omega, by omega⟩, ?_⟩ | refine ⟨(by show (0 : Int) < _; first | decide | omega), ?_⟩ | refine ⟨Nat.le_trans (Nat.le_of_ble_eq_true rfl : _ ≤ 50) (by decide), ?_⟩ | refine ⟨_, _, _, _, rfl, rfl, upd_same, rfl, ?_⟩ | refine ⟨_, _, _, _, rfl, rfl, SqL.of upd_same, rfl, ?_⟩ | refine ⟨_, _, _, _, rfl, rfl, SqT.of upd_same, rfl, ?_⟩ | refine ⟨_, _, rfl, .inl (SqL.of upd_same), ?_⟩ | refine ⟨_, _, rfl, .inr (SqT.of upd_same), ?_⟩ | (refine' ⟨_, _, _, _, rfl, rfl, _, _, _⟩; rotate_left 2; (focus (first | assumption | exact SqL.of (by assumption) | exact SqT.of (by assumption) | exact Same.seq (by assumption) (by assumption))); (focus (exact rfl))) | (refine' ⟨_, _, rfl, _, _⟩; rotate_left 1; (focus (first | exact .inl (by assumption) | exact .inl (SqL.of (by assumption)) | exact .inr (by assumption) | exact .inr (SqT.of (by assumption)))))))
      refine ⟨⟨k0, by omega, by omega⟩, ?_⟩
      (repeat (first | refine ⟨_, rfl, ?_⟩ | refine ⟨_, _, rfl, rfl, ?_⟩ | refine ⟨rfl, ?_⟩ | refine .inl ⟨_, rfl, ?_⟩ | refine .inr ⟨_, rfl, ?_⟩ | refine ⟨.inr ⟨by decide, by decide⟩, ?_⟩ | refine ⟨⟨by decide, by decide⟩, ?_⟩ | refine ⟨⟨by decide, by decide, by decide⟩, ?_⟩ | refine ⟨.inr ⟨by omega, by omega⟩, ?_⟩ | refine ⟨(by show (0 : Int) < _; first | decide | omega), ?_⟩ | refine ⟨Nat.le_trans (Nat.le_of_ble_eq_true rfl : _ ≤ 50) (by decide), ?_⟩ | refine ⟨_, _, _, _, rfl, rfl, upd_same, rfl, ?_⟩ | refine ⟨_, _, _, _, rfl, rfl, SqL.of upd_same, rfl, ?_⟩ | refine ⟨_, _, _, _, rfl, rfl, SqT.of upd_same, rfl, ?_⟩ | refine ⟨_, _, rfl, .inl (SqL.of upd_same), ?_⟩ | refine ⟨_, _, rfl, .inr (SqT.of upd_same), ?_⟩ | (refine' ⟨_, _, _, _, rfl, rfl, _, _, _⟩; rotate_left 2; (focus (first | assumption | exact SqL.of (by assumption) | exact SqT.of (by assumption) | exact Same.seq (by assumption) (by assumption))); (focus (exact rfl))) | (refine' ⟨_, _, rfl, _, _⟩; rotate_left 1; (focus (first | exact .inl (by assumption) | exact .inl (SqL.of (by assumption)) | exact .inr (by assumption) | exact .inr (SqT.of (by assumption)))))))
      refine ⟨⟨k0, by omega, by omega⟩, ?_⟩
      dsimp only [tCons, tC, tNil]
      exact ⟨_, _, rfl, qq _ (if_neg e)⟩
theorem ok_top (T : Tx K mg) : FnOk P w K mg base CX0 2 T.a_top_of_bits T.d_top_of_bits ["name", "high", "greatest"] spTop := by
  have G_mask : FnOk P w K mg base CX0 1 T.a_mask T.d_mask ["count"] spMask := ok_mask T
  refine T.F_top_of_bits.ok sc_top_of_bits (fun vs H Q E h => ?_) (fun cdv A outer s H vs Q E hr h => ?_)
  · obtain ⟨n, h, g, rfl, _⟩ := h
    rfl
  · obtain ⟨n, h, g, rfl, h0, h1, g0, g1, q⟩ := h
    have hr_mask : Room 1 _ := hr
    refine ⟨_, (pss_cons (ps_if (pt_cmpR op_eq (pv 0) pe_str (nomark _))
        (pss_one (ps_ret (pe_callB (call_min2 rfl) (by rfl) T.z_min (by decide +kernel) (pa_cons (pv 1) (pa_cons (pv 2) pa_nil)))))
        pss_nil)
        (pss_cons (ps_if (pt_cmpR op_in_seq (pv 0) (pe_tup (pa_cons pe_str (pa_cons pe_str pa_nil))) (by rfl))
        (pss_one (ps_ret (pe_call G_mask hr_mask (by rfl) T.g_mask T.F_mask.kp T.b_mask .nil pass0 (pa_cons (pe_bits (pe_callB (call_max2 rfl) (by rfl) T.z_max (by decide +kernel) (pa_cons (pv 1) (pa_cons (pv 2) pa_nil)))) pa_nil))))
        pss_nil)
        (pss_cons (ps_if (pt_cmpR op_eq (pv 0) pe_str (nomark _))
        (pss_one (ps_ret pe_int))
        pss_nil)
        (pss_one (ps_ret (pv 1)))))), ?_⟩
    (repeat (first | refine ⟨_, rfl, ?_⟩ | refine ⟨_, _, rfl, rfl, ?_⟩ | refine ⟨rfl, ?_⟩ | refine .inl ⟨_, rfl, ?_⟩ | refine .inr ⟨_, rfl, ?_⟩ | refine ⟨.inr ⟨by decide, by decide⟩, ?_⟩ | refine ⟨⟨by decide, by decide⟩, ?_⟩ | refine ⟨⟨by decide, by decide, by decide⟩, ?_⟩ | refine ⟨.inr ⟨by omega, by omega⟩, ?_⟩ | refine ⟨(by show (0 : Int) < _; first | decide | omega), ?_⟩ | refine ⟨Nat.le_trans (Nat.le_of_ble_eq_true rfl : _ ≤ 50) (by decide), ?_⟩ | refine ⟨_, _, _, _, rfl, rfl, upd_same, rfl, ?_⟩ | refine ⟨_, _, _, _, rfl, rfl, SqL.of upd_same, rfl, ?_⟩ | refine ⟨_, _, _, _, rfl, rfl, SqT.of upd_same, rfl, ?_⟩ | refine ⟨_, _, rfl, .inl (SqL.of upd_same), ?_⟩ | refine ⟨_, _, rfl, .inr (SqT.of upd_same), ?_⟩ | (refine' ⟨_, _, _, _, rfl, rfl, _, _, _⟩; rotate_left 2; (focus (first | assumption | exact SqL.of (by assumption) | exact SqT.of (by assumption) | exact Same.seq (by assumption) (by assumption))); (focus (exact rfl))) | (refine' ⟨_, _, rfl, _, _⟩; rotate_left 1; (focus (first | exact .inl (by assumption) | exact .inl (SqL.of (by assumption)) | exact .inr (by assumption) | exact .inr (SqT.of (by assumption)))))))
    have qq : ∀ x, topM n h g = x → ∀ H', Same H H' → Q (.int x) H' := fun x e => e ▸ q
    unfold topM at qq
    refine ite2 (fun e => ?_) (fun e => ?_)
    · have e : n = "and" := V.str.inj (of_decide_eq_true e)
      refine ⟨_, rfl, _, rfl, ?_⟩
      dsimp only [tCons, tC, tNil]
      refine ⟨_, _, rfl, ?_⟩
      rw [mn]
      exact qq _ (if_pos e) _ (Same.refl H)
    · have e : ¬ n = "and" := fun z => e (decide_eq_true (by rw [z]))
      rw [if_neg e] at qq
      refine ⟨_, rfl, ?_⟩
      refine ⟨by show 2 ≤ sizeLine; decide, fun t ht => ?_⟩
      have h2 : (n ∈ (["or", "xor"] : List Str)) ↔ (n = "or" ∨ n = "xor") := by simp
      refine ⟨t, (["or", "xor"] : List Str).map V.str, rfl, .inr (SqT.of upd_same), rfl, by decide +kernel, ?_⟩
      rw [if_neg Bool.false_ne_true, inV_str]
      refine ⟨_, rfl, ?_⟩
      have st := same_upd (o := .tup [.str "or", .str "xor"]) ht
      generalize upd H t _ = H1 at st ⊢
      refine ite2 (fun e2 => ?_) (fun e2 => ?_)
      · have e2 := h2.mp (of_decide_eq_true e2)
        refine ⟨_, rfl, _, rfl, ?_⟩
        dsimp only [tCons, tC, tNil]
        refine ⟨_, _, rfl, _, rfl, ?_⟩
        rw [mx]
        have hb := bits_le (x := max h g) (by omega) (by omega)
        exact ⟨_, rfl, by omega, by omega, qq _ (if_pos e2) _ st⟩
      · have e2 : ¬ (n = "or" ∨ n = "xor") := fun z => e2 (decide_eq_true (h2.mpr z))
        rw [if_neg e2] at qq
        refine ⟨_, rfl, ?_⟩
        refine ⟨rfl, ?_⟩
        refine ⟨_, rfl, ?_⟩
        refine ite2 (fun e3 => ?_) (fun e3 => ?_)
        · exact qq _ (if_pos (V.str.inj (of_decide_eq_true e3))) _ st
        · exact ⟨_, rfl, qq _ (if_neg fun z => e3 (decide_eq_true (by rw [z]))) _ st⟩
theorem ok_regat (T : Tx K mg) : FnOk P w K mg base CX0 2 T.a_region_at T.d_region_at ["layout", "address"] (spRegAt K) := by
  have G_region_end : FnOk P w K mg base CX0 1 T.a_region_end T.d_region_end ["region"] (spEnd K) := ok_end T
  refine T.F_region_at.ok sc_region_at (fun vs H Q E h => ?_) (fun cdv A outer s H vs Q E hr h => ?_)
  · obtain ⟨L, a, gs, x, rfl, _⟩ := h
    rfl
  · obtain ⟨L, a, gs, x, rfl, hL, hS, ok, q⟩ := h
    have hr_region_end : Room 1 _ := hr
    refine ⟨_, (pss_cons (ps_set (i := 2) sc_region_at.nd rfl (.inl rfl) pe_int)
        (pss_cons (ps_set (i := 3) sc_region_at.nd rfl (.inl rfl) (pe_callB call_len_seq (by rfl) T.z_len (by decide +kernel) (pa_cons (pv 0) pa_nil)))
        (pss_cons (ps_while PassesOwn.never (pt_cmpR op_lt (pv 2) (pv 3) (nomark _))
        (pss_cons (ps_set (i := 4) sc_region_at.nd rfl (.inl rfl) (pe_op op_fdiv (pe_op op_add (pv 2) (pv 3)) pe_int))
        (pss_one (ps_if (pt_cmpR op_le (pe_ix ix_tup (pe_ix ix_tup (pv 0) (pv 4) (fun _ _ => rfl)) pe_int (fun _ _ => rfl)) (pv 1) (nomark _))
        (pss_one (ps_set (i := 2) sc_region_at.nd rfl (.inl rfl) (pe_op op_add (pv 4) pe_int)))
        (pss_one (ps_set (i := 3) sc_region_at.nd rfl (.inl rfl) (pv 4)))))))
        (pss_cons (ps_if (PW.pt (pw_or (pt_cmpR op_eq (pv 2) pe_int (nomark _)) (pw_or1 (pt_cmpR op_ge (pv 1) (pe_call G_region_end hr_region_end (by rfl) T.g_region_end T.F_region_end.kp T.b_region_end .nil pass0 (pa_cons (pe_ix ix_tup (pv 0) (pe_op op_sub (pv 2) pe_int) (fun _ _ => rfl)) pa_nil)) (nomark _)))))
        (pss_one (ps_ret (pe_un un_neg pe_int)))
        pss_nil)
        (pss_one (ps_ret (pe_op op_sub (pv 2) pe_int))))))), ?_⟩
    obtain ⟨xs, x1, xl, x2⟩ := hS.get
    have k1 := x1.sq hL
    refine ⟨_, rfl, a, _, rfl, .inr k1, ?_⟩
    refine ⟨RA a x gs H, ⟨_, 0, gs.length, none, by rw [xl]; rfl, rfl, rfl, Nat.zero_le _, Nat.le_refl _, fun i g h => absurd h (Nat.not_lt_zero _), fun i g h e => by rw [List.getElem?_eq_none h] at e; cases e⟩, ?_⟩
    rintro m σ H' ⟨lo, hi, v4, rfl, rfl, rfl, h1, h2, h3, h4⟩
    (repeat (first | refine ⟨_, rfl, ?_⟩ | refine ⟨_, _, rfl, rfl, ?_⟩ | refine ⟨rfl, ?_⟩ | refine .inl ⟨_, rfl, ?_⟩ | refine .inr ⟨_, rfl, ?_⟩ | refine ⟨.inr ⟨by decide, by decide⟩, ?_⟩ | refine ⟨⟨by decide, by decide⟩, ?_⟩ | refine ⟨⟨by decide, by decide, by decide⟩, ?_⟩ | refine ⟨.inr ⟨by omega, by omega⟩, ?_⟩ | refine ⟨(by show (0 : Int) < _; first | decide | omega), ?_⟩ | refine ⟨Nat.le_trans (Nat.le_of_ble_eq_true rfl : _ ≤ 50) (by decide), ?_⟩ | refine ⟨_, _, _, _, rfl, rfl, upd_same, rfl, ?_⟩ | refine ⟨_, _, _, _, rfl, rfl, SqL.of upd_same, rfl, ?_⟩ | refine ⟨_, _, _, _, rfl, rfl, SqT.of upd_same, rfl, ?_⟩ | refine ⟨_, _, rfl, .inl (SqL.of upd_same), ?_⟩ | refine ⟨_, _, rfl, .inr (SqT.of upd_same), ?_⟩ | (refine' ⟨_, _, _, _, rfl, rfl, _, _, _⟩; rotate_left 2; (focus (first | assumption | exact SqL.of (by assumption) | exact SqT.of (by assumption) | exact Same.seq (by assumption) (by assumption))); (focus (exact rfl))) | (refine' ⟨_, _, rfl, _, _⟩; rotate_left 1; (focus (first | exact .inl (by assumption) | exact .inl (SqL.of (by assumption)) | exact .inr (by assumption) | exact .inr (SqT.of (by assumption)))))))
    refine ite2 (fun e => ?_) (fun e => ?_)
    · have e : (lo : Int) < hi := of_decide_eq_true e
      refine ⟨fun σ' H2 => ∃ m', m' < hi - lo ∧ RA a x gs H' m' σ' H2, fun _ _ z => z, ?_⟩
      have em : ((lo : Int) + (hi : Int)) / 2 = (((lo + hi) / 2 : Nat) : Int) := by omega
      have hm : (lo + hi) / 2 < gs.length := by omega
      obtain ⟨r, hr1, t1⟩ := x2 _ _ (List.getElem?_eq_getElem hm)
      have kr := t1.sq hL
      (repeat (first | refine ⟨_, rfl, ?_⟩ | refine ⟨_, _, rfl, rfl, ?_⟩ | refine ⟨rfl, ?_⟩ | refine .inl ⟨_, rfl, ?_⟩ | refine .inr ⟨_, rfl, ?_⟩ | refine ⟨.inr ⟨by decide, by decide⟩, ?_⟩ | refine ⟨⟨by decide, by decide⟩, ?_⟩ | refine ⟨⟨by decide, by decide, by decide⟩, ?_⟩ | refine ⟨.inr ⟨by omega, by omega⟩, ?_⟩ | refine ⟨(by show (0 : Int) < _; first | decide | omega), ?_⟩ | refine ⟨Nat.le_trans (Nat.le_of_ble_eq_true rfl : _ ≤ 50) (by decide), ?_⟩ | refine ⟨_, _, _, _, rfl, rfl, upd_same, rfl, ?_⟩ | refine ⟨_, _, _, _, rfl, rfl, SqL.of upd_same, rfl, ?_⟩ | refine ⟨_, _, _, _, rfl, rfl, SqT.of upd_same, rfl, ?_⟩ | refine ⟨_, _, rfl, .inl (SqL.of upd_same), ?_⟩ | refine ⟨_, _, rfl, .inr (SqT.of upd_same), ?_⟩ | (refine' ⟨_, _, _, _, rfl, rfl, _, _, _⟩; rotate_left 2; (focus (first | assumption | exact SqL.of (by assumption) | exact SqT.of (by assumption) | exact Same.seq (by assumption) (by assumption))); (focus (exact rfl))) | (refine' ⟨_, _, rfl, _, _⟩; rotate_left 1; (focus (first | exact .inl (by assumption) | exact .inl (SqL.of (by assumption)) | exact .inr (by assumption) | exact .inr (SqT.of (by assumption)))))))
      have k0 : atI xs (((lo : Int) + (hi : Int)) / 2) = some (.ref r) := by
        rw [em]
        exact atI_nat hr1
      refine ⟨a, _, _, _, rfl, rfl, k1, k0, ?_⟩
      refine ⟨r, _, _, _, rfl, rfl, kr, at0 _ _, ?_⟩
      refine ⟨_, rfl, ?_⟩
      refine ⟨_, _, rfl, rfl, ?_⟩
      refine ⟨_, rfl, ?_⟩
      refine ite2 (fun e2 => ?_) (fun e2 => ?_)
      · have e2 : (gs[(lo + hi) / 2]'hm).start ≤ x := of_decide_eq_true e2
        (repeat (first | refine ⟨_, rfl, ?_⟩ | refine ⟨_, _, rfl, rfl, ?_⟩ | refine ⟨rfl, ?_⟩ | refine .inl ⟨_, rfl, ?_⟩ | refine .inr ⟨_, rfl, ?_⟩ | refine ⟨.inr ⟨by decide, by decide⟩, ?_⟩ | refine ⟨⟨by decide, by decide⟩, ?_⟩ | refine ⟨⟨by decide, by decide, by decide⟩, ?_⟩ | refine ⟨.inr ⟨by omega, by omega⟩, ?_⟩ | refine ⟨(by show (0 : Int) < _; first | decide | omega), ?_⟩ | refine ⟨Nat.le_trans (Nat.le_of_ble_eq_true rfl : _ ≤ 50) (by decide), ?_⟩ | refine ⟨_, _, _, _, rfl, rfl, upd_same, rfl, ?_⟩ | refine ⟨_, _, _, _, rfl, rfl, SqL.of upd_same, rfl, ?_⟩ | refine ⟨_, _, _, _, rfl, rfl, SqT.of upd_same, rfl, ?_⟩ | refine ⟨_, _, rfl, .inl (SqL.of upd_same), ?_⟩ | refine ⟨_, _, rfl, .inr (SqT.of upd_same), ?_⟩ | (refine' ⟨_, _, _, _, rfl, rfl, _, _, _⟩; rotate_left 2; (focus (first | assumption | exact SqL.of (by assumption) | exact SqT.of (by assumption) | exact Same.seq (by assumption) (by assumption))); (focus (exact rfl))) | (refine' ⟨_, _, rfl, _, _⟩; rotate_left 1; (focus (first | exact .inl (by assumption) | exact .inl (SqL.of (by assumption)) | exact .inr (by assumption) | exact .inr (SqT.of (by assumption)))))))
        refine ⟨hi - ((lo + hi) / 2 + 1), by omega, (lo + hi) / 2 + 1, hi, some (.int (((lo : Int) + (hi : Int)) / 2)), ?_, rfl, rfl, by omega, h2, fun i g hi2 hg => ?_, h4⟩
        · show [some (V.ref a), some (.int x), some (.int (((lo : Int) + (hi : Int)) / 2 + 1)), some (.int (hi : Int)), _] = _
          rw [em]
          rfl
        · rcases Nat.lt_or_ge i ((lo + hi) / 2) with z | z
          · have := ok.sorted i _ _ _ z hg (List.getElem?_eq_getElem hm)
            have := ok.sized g (List.mem_of_getElem? hg)
            omega
          · have : i = (lo + hi) / 2 := by omega
            subst this
            rw [List.getElem?_eq_getElem hm] at hg
            cases hg
            exact e2
      · have e2 : ¬ (gs[(lo + hi) / 2]'hm).start ≤ x := fun z => e2 (decide_eq_true z)
        (repeat (first | refine ⟨_, rfl, ?_⟩ | refine ⟨_, _, rfl, rfl, ?_⟩ | refine ⟨rfl, ?_⟩ | refine .inl ⟨_, rfl, ?_⟩ | refine .inr ⟨_, rfl, ?_⟩ | refine ⟨.inr ⟨by decide, by decide⟩, ?_⟩ | refine ⟨⟨by decide, by decide⟩, ?_⟩ | refine ⟨⟨by decide, by decide, by decide⟩, ?_⟩ | refine ⟨.inr ⟨by omega, by omega⟩, ?_⟩ | refine ⟨(by show (0 : Int) < _; first | decide | omega), ?_⟩ | refine ⟨Nat.le_trans (Nat.le_of_ble_eq_true rfl : _ ≤ 50) (by decide), ?_⟩ | refine ⟨_, _, _, _, rfl, rfl, upd_same, rfl, ?_⟩ | refine ⟨_, _, _, _, rfl, rfl, SqL.of upd_same, rfl, ?_⟩ | refine ⟨_, _, _, _, rfl, rfl, SqT.of upd_same, rfl, ?_⟩ | refine ⟨_, _, rfl, .inl (SqL.of upd_same), ?_⟩ | refine ⟨_, _, rfl, .inr (SqT.of upd_same), ?_⟩ | (refine' ⟨_, _, _, _, rfl, rfl, _, _, _⟩; rotate_left 2; (focus (first | assumption | exact SqL.of (by assumption) | exact SqT.of (by assumption) | exact Same.seq (by assumption) (by assumption))); (focus (exact rfl))) | (refine' ⟨_, _, rfl, _, _⟩; rotate_left 1; (focus (first | exact .inl (by assumption) | exact .inl (SqL.of (by assumption)) | exact .inr (by assumption) | exact .inr (SqT.of (by assumption)))))))
        refine ⟨(lo + hi) / 2 - lo, by omega, lo, (lo + hi) / 2, some (.int (((lo : Int) + (hi : Int)) / 2)), ?_, rfl, rfl, by omega, by omega, h3, fun i g hi2 hg => ?_⟩
        · show [some (V.ref a), some (.int x), some (.int (lo : Int)), some (.int (((lo : Int) + (hi : Int)) / 2)), _] = _
          rw [em]
          rfl
        · rcases Nat.lt_or_ge ((lo + hi) / 2) i with z | z
          · have := ok.sorted _ i _ _ z (List.getElem?_eq_getElem hm) hg
            have := ok.sized _ (List.getElem_mem hm)
            omega
          · have : i = (lo + hi) / 2 := by omega
            subst this
            rw [List.getElem?_eq_getElem hm] at hg
            cases hg
            omega
    · have e : ¬ (lo : Int) < hi := fun z => e (decide_eq_true z)
      have elh : lo = hi := by omega
      subst elh
      have qn : (∀ g ∈ gs, ¬ g.has x) → Q (.int (-1)) H' := fun z => q _ (.inl ⟨rfl, z⟩)
      (repeat (first | refine ⟨_, rfl, ?_⟩ | refine ⟨_, _, rfl, rfl, ?_⟩ | refine ⟨rfl, ?_⟩ | refine .inl ⟨_, rfl, ?_⟩ | refine .inr ⟨_, rfl, ?_⟩ | refine ⟨.inr ⟨by decide, by decide⟩, ?_⟩ | refine ⟨⟨by decide, by decide⟩, ?_⟩ | refine ⟨⟨by decide, by decide, by decide⟩, ?_⟩ | refine ⟨.inr ⟨by omega, by omega⟩, ?_⟩ | refine ⟨(by show (0 : Int) < _; first | decide | omega), ?_⟩ | refine ⟨Nat.le_trans (Nat.le_of_ble_eq_true rfl : _ ≤ 50) (by decide), ?_⟩ | refine ⟨_, _, _, _, rfl, rfl, upd_same, rfl, ?_⟩ | refine ⟨_, _, _, _, rfl, rfl, SqL.of upd_same, rfl, ?_⟩ | refine ⟨_, _, _, _, rfl, rfl, SqT.of upd_same, rfl, ?_⟩ | refine ⟨_, _, rfl, .inl (SqL.of upd_same), ?_⟩ | refine ⟨_, _, rfl, .inr (SqT.of upd_same), ?_⟩ | (refine' ⟨_, _, _, _, rfl, rfl, _, _, _⟩; rotate_left 2; (focus (first | assumption | exact SqL.of (by assumption) | exact SqT.of (by assumption) | exact Same.seq (by assumption) (by assumption))); (focus (exact rfl))) | (refine' ⟨_, _, rfl, _, _⟩; rotate_left 1; (focus (first | exact .inl (by assumption) | exact .inl (SqL.of (by assumption)) | exact .inr (by assumption) | exact .inr (SqT.of (by assumption)))))))
      refine ite2 (fun e2 => ?_) (fun e2 => ?_)
      · have e2 : (lo : Int) = 0 := V.int.inj (of_decide_eq_true e2)
        (repeat (first | refine ⟨_, rfl, ?_⟩ | refine ⟨_, _, rfl, rfl, ?_⟩ | refine ⟨rfl, ?_⟩ | refine .inl ⟨_, rfl, ?_⟩ | refine .inr ⟨_, rfl, ?_⟩ | refine ⟨.inr ⟨by decide, by decide⟩, ?_⟩ | refine ⟨⟨by decide, by decide⟩, ?_⟩ | refine ⟨⟨by decide, by decide, by decide⟩, ?_⟩ | refine ⟨.inr ⟨by omega, by omega⟩, ?_⟩ | refine ⟨(by show (0 : Int) < _; first | decide | omega), ?_⟩ | refine ⟨Nat.le_trans (Nat.le_of_ble_eq_true rfl : _ ≤ 50) (by decide), ?_⟩ | refine ⟨_, _, _, _, rfl, rfl, upd_same, rfl, ?_⟩ | refine ⟨_, _, _, _, rfl, rfl, SqL.of upd_same, rfl, ?_⟩ | refine ⟨_, _, _, _, rfl, rfl, SqT.of upd_same, rfl, ?_⟩ | refine ⟨_, _, rfl, .inl (SqL.of upd_same), ?_⟩ | refine ⟨_, _, rfl, .inr (SqT.of upd_same), ?_⟩ | (refine' ⟨_, _, _, _, rfl, rfl, _, _, _⟩; rotate_left 2; (focus (first | assumption | exact SqL.of (by assumption) | exact SqT.of (by assumption) | exact Same.seq (by assumption) (by assumption))); (focus (exact rfl))) | (refine' ⟨_, _, rfl, _, _⟩; rotate_left 1; (focus (first | exact .inl (by assumption) | exact .inl (SqL.of (by assumption)) | exact .inr (by assumption) | exact .inr (SqT.of (by assumption)))))))
        refine qn fun g hg hs => ?_
        obtain ⟨i, hi⟩ := List.mem_iff_getElem?.mp hg
        have := h4 i g (by omega) hi
        have := hs.1
        omega
      · have e2 : ¬ (lo : Int) = 0 := fun z => e2 (decide_eq_true (by rw [z]))
        have hm : lo - 1 < gs.length := by omega
        have hg := List.getElem?_eq_getElem hm
        obtain ⟨r, hr1, t1⟩ := x2 _ _ hg
        have kr := t1.sq hL
        have k0 : atI xs ((lo : Int) - 1) = some (.ref r) := by
          have : ((lo : Int) - 1) = ((lo - 1 : Nat) : Int) := by omega
          rw [this]
          exact atI_nat hr1
        have hst := h3 _ _ (show lo - 1 < lo by omega) hg
        (repeat (first | refine ⟨_, rfl, ?_⟩ | refine ⟨_, _, rfl, rfl, ?_⟩ | refine ⟨rfl, ?_⟩ | refine .inl ⟨_, rfl, ?_⟩ | refine .inr ⟨_, rfl, ?_⟩ | refine ⟨.inr ⟨by decide, by decide⟩, ?_⟩ | refine ⟨⟨by decide, by decide⟩, ?_⟩ | refine ⟨⟨by decide, by decide, by decide⟩, ?_⟩ | refine ⟨.inr ⟨by omega, by omega⟩, ?_⟩ | refine ⟨(by show (0 : Int) < _; first | decide | omega), ?_⟩ | refine ⟨Nat.le_trans (Nat.le_of_ble_eq_true rfl : _ ≤ 50) (by decide), ?_⟩ | refine ⟨_, _, _, _, rfl, rfl, upd_same, rfl, ?_⟩ | refine ⟨_, _, _, _, rfl, rfl, SqL.of upd_same, rfl, ?_⟩ | refine ⟨_, _, _, _, rfl, rfl, SqT.of upd_same, rfl, ?_⟩ | refine ⟨_, _, rfl, .inl (SqL.of upd_same), ?_⟩ | refine ⟨_, _, rfl, .inr (SqT.of upd_same), ?_⟩ | (refine' ⟨_, _, _, _, rfl, rfl, _, _, _⟩; rotate_left 2; (focus (first | assumption | exact SqL.of (by assumption) | exact SqT.of (by assumption) | exact Same.seq (by assumption) (by assumption))); (focus (exact rfl))) | (refine' ⟨_, _, rfl, _, _⟩; rotate_left 1; (focus (first | exact .inl (by assumption) | exact .inl (SqL.of (by assumption)) | exact .inr (by assumption) | exact .inr (SqT.of (by assumption)))))))
        refine ⟨a, _, _, _, rfl, rfl, k1, k0, ?_⟩
        dsimp only [tNil]
        refine ⟨r, _, rfl, kr, ?_⟩
        refine ⟨_, _, rfl, rfl, ?_⟩
        refine ⟨_, rfl, ?_⟩
        refine ite2 (fun e3 => ?_) (fun e3 => ?_)
        · have e3 : (gs[lo - 1]'hm).start + (gs[lo - 1]'hm).size ≤ x := of_decide_eq_true e3
          (repeat (first | refine ⟨_, rfl, ?_⟩ | refine ⟨_, _, rfl, rfl, ?_⟩ | refine ⟨rfl, ?_⟩ | refine .inl ⟨_, rfl, ?_⟩ | refine .inr ⟨_, rfl, ?_⟩ | refine ⟨.inr ⟨by decide, by decide⟩, ?_⟩ | refine ⟨⟨by decide, by decide⟩, ?_⟩ | refine ⟨⟨by decide, by decide, by decide⟩, ?_⟩ | refine ⟨.inr ⟨by omega, by omega⟩, ?_⟩ | refine ⟨(by show (0 : Int) < _; first | decide | omega), ?_⟩ | refine ⟨Nat.le_trans (Nat.le_of_ble_eq_true rfl : _ ≤ 50) (by decide), ?_⟩ | refine ⟨_, _, _, _, rfl, rfl, upd_same, rfl, ?_⟩ | refine ⟨_, _, _, _, rfl, rfl, SqL.of upd_same, rfl, ?_⟩ | refine ⟨_, _, _, _, rfl, rfl, SqT.of upd_same, rfl, ?_⟩ | refine ⟨_, _, rfl, .inl (SqL.of upd_same), ?_⟩ | refine ⟨_, _, rfl, .inr (SqT.of upd_same), ?_⟩ | (refine' ⟨_, _, _, _, rfl, rfl, _, _, _⟩; rotate_left 2; (focus (first | assumption | exact SqL.of (by assumption) | exact SqT.of (by assumption) | exact Same.seq (by assumption) (by assumption))); (focus (exact rfl))) | (refine' ⟨_, _, rfl, _, _⟩; rotate_left 1; (focus (first | exact .inl (by assumption) | exact .inl (SqL.of (by assumption)) | exact .inr (by assumption) | exact .inr (SqT.of (by assumption)))))))
          refine qn fun g hgm hs => ?_
          obtain ⟨i, hi⟩ := List.mem_iff_getElem?.mp hgm
          obtain ⟨hs1, hs2⟩ := hs
          rcases Nat.lt_trichotomy i (lo - 1) with z | z | z
          · have := ok.sorted _ _ _ _ z hi hg
            omega
          · subst z
            rw [hg] at hi
            cases hi
            omega
          · have := h4 i g (by omega) hi
            omega
        · have e3 : ¬ (gs[lo - 1]'hm).start + (gs[lo - 1]'hm).size ≤ x := fun z => e3 (decide_eq_true z)
          (repeat (first | refine ⟨_, rfl, ?_⟩ | refine ⟨_, _, rfl, rfl, ?_⟩ | refine ⟨rfl, ?_⟩ | refine .inl ⟨_, rfl, ?_⟩ | refine .inr ⟨_, rfl, ?_⟩ | refine ⟨.inr ⟨by decide, by decide⟩, ?_⟩ | refine ⟨⟨by decide, by decide⟩, ?_⟩ | refine ⟨⟨by decide, by decide, by decide⟩, ?_⟩ | refine ⟨.inr ⟨by omega, by omega⟩, ?_⟩ | refine ⟨(by show (0 : Int) < _; first | decide | omega), ?_⟩ | refine ⟨Nat.le_trans (Nat.le_of_ble_eq_true rfl : _ ≤ 50) (by decide), ?_⟩ | refine ⟨_, _, _, _, rfl, rfl, upd_same, rfl, ?_⟩ | refine ⟨_, _, _, _, rfl, rfl, SqL.of upd_same, rfl, ?_⟩ | refine ⟨_, _, _, _, rfl, rfl, SqT.of upd_same, rfl, ?_⟩ | refine ⟨_, _, rfl, .inl (SqL.of upd_same), ?_⟩ | refine ⟨_, _, rfl, .inr (SqT.of upd_same), ?_⟩ | (refine' ⟨_, _, _, _, rfl, rfl, _, _, _⟩; rotate_left 2; (focus (first | assumption | exact SqL.of (by assumption) | exact SqT.of (by assumption) | exact Same.seq (by assumption) (by assumption))); (focus (exact rfl))) | (refine' ⟨_, _, rfl, _, _⟩; rotate_left 1; (focus (first | exact .inl (by assumption) | exact .inl (SqL.of (by assumption)) | exact .inr (by assumption) | exact .inr (SqT.of (by assumption)))))))
          exact q _ (.inr ⟨lo - 1, _, by omega, hg, hst, by omega⟩)
theorem ok_safe (T : Tx K mg) : FnOk P w K mg base CX0 3 T.a_safe_region T.d_safe_region ["layout", "least", "greatest"] (spSafe K) := by
  have G_region_end : FnOk P w K mg base CX0 1 T.a_region_end T.d_region_end ["region"] (spEnd K) := ok_end T
  have G_region_at : FnOk P w K mg base CX0 2 T.a_region_at T.d_region_at ["layout", "address"] (spRegAt K) := ok_regat T
  refine T.F_safe_region.ok sc_safe_region (fun vs H Q E h => ?_) (fun cdv A outer s H vs Q E hr h => ?_)
  · obtain ⟨L, a, gs, lo, hi, rfl, _⟩ := h
    rfl
  · obtain ⟨L, a, gs, lo, hi, rfl, hL, hS, ok, q1, q2⟩ := h
    have hr_region_end : Room 1 _ := hr.mono (by decide)
    have hr_region_at : Room 2 _ := hr
    refine ⟨_, (pss_cons (ps_set (i := 3) sc_safe_region.nd rfl (.inl rfl) (pe_call G_region_at hr_region_at (by rfl) T.g_region_at T.F_region_at.kp T.b_region_at .nil pass0 (pa_cons (pv 0) (pa_cons (pv 1) pa_nil))))
        (pss_cons (ps_if (PW.pt (pw_or (pt_cmpR op_eq (pv 3) (pe_un un_neg pe_int) (nomark _)) (pw_or1 (pt_cmpR op_ge (pv 2) (pe_call G_region_end hr_region_end (by rfl) T.g_region_end T.F_region_end.kp T.b_region_end .nil pass0 (pa_cons (pe_ix ix_tup (pv 0) (pv 3) (fun _ _ => rfl)) pa_nil)) (nomark _)))))
        (pss_one (ps_ret pe_non))
        pss_nil)
        (pss_one (ps_ret (pe_ix ix_tup (pv 0) (pv 3) (fun _ _ => rfl)))))), ?_⟩
    obtain ⟨xs, x1, xl, x2⟩ := hS.get
    have k1 := x1.sq hL
    refine ⟨_, rfl, _, rfl, ?_⟩
    dsimp only [tCons, tC, tNil]
    refine ⟨L, a, gs, lo, rfl, hL, hS, ok, fun z hz => ?_⟩
    rcases hz with ⟨rfl, hz⟩ | ⟨j, g, rfl, hg, hs⟩
    · (repeat (first | refine ⟨_, rfl, ?_⟩ | refine ⟨_, _, rfl, rfl, ?_⟩ | refine ⟨rfl, ?_⟩ | refine .inl ⟨_, rfl, ?_⟩ | refine .inr ⟨_, rfl, ?_⟩ | refine ⟨.inr ⟨by decide, by decide⟩, ?_⟩ | refine ⟨⟨by decide, by decide⟩, ?_⟩ | refine ⟨⟨by decide, by decide, by decide⟩, ?_⟩ | refine ⟨.inr ⟨by omega, by omega⟩, ?_⟩ | refine ⟨(by show (0 : Int) < _; first | decide | omega), ?_⟩ | refine ⟨Nat.le_trans (Nat.le_of_ble_eq_true rfl : _ ≤ 50) (by decide), ?_⟩ | refine ⟨_, _, _, _, rfl, rfl, upd_same, rfl, ?_⟩ | refine ⟨_, _, _, _, rfl, rfl, SqL.of upd_same, rfl, ?_⟩ | refine ⟨_, _, _, _, rfl, rfl, SqT.of upd_same, rfl, ?_⟩ | refine ⟨_, _, rfl, .inl (SqL.of upd_same), ?_⟩ | refine ⟨_, _, rfl, .inr (SqT.of upd_same), ?_⟩ | (refine' ⟨_, _, _, _, rfl, rfl, _, _, _⟩; rotate_left 2; (focus (first | assumption | exact SqL.of (by assumption) | exact SqT.of (by assumption) | exact Same.seq (by assumption) (by assumption))); (focus (exact rfl))) | (refine' ⟨_, _, rfl, _, _⟩; rotate_left 1; (focus (first | exact .inl (by assumption) | exact .inl (SqL.of (by assumption)) | exact .inr (by assumption) | exact .inr (SqT.of (by assumption)))))))
      exact q1 fun g hg => hz g hg.1 hg.2.1
    · obtain ⟨r, hr1, t1⟩ := x2 _ _ hg
      have kr := t1.sq hL
      have k0 : atI xs (j : Int) = some (.ref r) := atI_nat hr1
      (repeat (first | refine ⟨_, rfl, ?_⟩ | refine ⟨_, _, rfl, rfl, ?_⟩ | refine ⟨rfl, ?_⟩ | refine .inl ⟨_, rfl, ?_⟩ | refine .inr ⟨_, rfl, ?_⟩ | refine ⟨.inr ⟨by decide, by decide⟩, ?_⟩ | refine ⟨⟨by decide, by decide⟩, ?_⟩ | refine ⟨⟨by decide, by decide, by decide⟩, ?_⟩ | refine ⟨.inr ⟨by omega, by omega⟩, ?_⟩ | refine ⟨(by show (0 : Int) < _; first | decide | omega), ?_⟩ | refine ⟨Nat.le_trans (Nat.le_of_ble_eq_true rfl : _ ≤ 50) (by decide), ?_⟩ | refine ⟨_, _, _, _, rfl, rfl, upd_same, rfl, ?_⟩ | refine ⟨_, _, _, _, rfl, rfl, SqL.of upd_same, rfl, ?_⟩ | refine ⟨_, _, _, _, rfl, rfl, SqT.of upd_same, rfl, ?_⟩ | refine ⟨_, _, rfl, .inl (SqL.of upd_same), ?_⟩ | refine ⟨_, _, rfl, .inr (SqT.of upd_same), ?_⟩ | (refine' ⟨_, _, _, _, rfl, rfl, _, _, _⟩; rotate_left 2; (focus (first | assumption | exact SqL.of (by assumption) | exact SqT.of (by assumption) | exact Same.seq (by assumption) (by assumption))); (focus (exact rfl))) | (refine' ⟨_, _, rfl, _, _⟩; rotate_left 1; (focus (first | exact .inl (by assumption) | exact .inl (SqL.of (by assumption)) | exact .inr (by assumption) | exact .inr (SqT.of (by assumption)))))))
      refine ⟨a, _, _, _, rfl, rfl, k1, k0, ?_⟩
      dsimp only [tNil]
      refine ⟨r, _, rfl, kr, ?_⟩
      refine ⟨_, _, rfl, rfl, ?_⟩
      refine ⟨_, rfl, ?_⟩
      refine ite2 (fun e3 => ?_) (fun e3 => ?_)
      · have e3 : g.start + g.size ≤ hi := of_decide_eq_true e3
        (repeat (first | refine ⟨_, rfl, ?_⟩ | refine ⟨_, _, rfl, rfl, ?_⟩ | refine ⟨rfl, ?_⟩ | refine .inl ⟨_, rfl, ?_⟩ | refine .inr ⟨_, rfl, ?_⟩ | refine ⟨.inr ⟨by decide, by decide⟩, ?_⟩ | refine ⟨⟨by decide, by decide⟩, ?_⟩ | refine ⟨⟨by decide, by decide, by decide⟩, ?_⟩ | refine ⟨.inr ⟨by omega, by omega⟩, ?_⟩ | refine ⟨(by show (0 : Int) < _; first | decide | omega), ?_⟩ | refine ⟨Nat.le_trans (Nat.le_of_ble_eq_true rfl : _ ≤ 50) (by decide), ?_⟩ | refine ⟨_, _, _, _, rfl, rfl, upd_same, rfl, ?_⟩ | refine ⟨_, _, _, _, rfl, rfl, SqL.of upd_same, rfl, ?_⟩ | refine ⟨_, _, _, _, rfl, rfl, SqT.of upd_same, rfl, ?_⟩ | refine ⟨_, _, rfl, .inl (SqL.of upd_same), ?_⟩ | refine ⟨_, _, rfl, .inr (SqT.of upd_same), ?_⟩ | (refine' ⟨_, _, _, _, rfl, rfl, _, _, _⟩; rotate_left 2; (focus (first | assumption | exact SqL.of (by assumption) | exact SqT.of (by assumption) | exact Same.seq (by assumption) (by assumption))); (focus (exact rfl))) | (refine' ⟨_, _, rfl, _, _⟩; rotate_left 1; (focus (first | exact .inl (by assumption) | exact .inl (SqL.of (by assumption)) | exact .inr (by assumption) | exact .inr (SqT.of (by assumption)))))))
        refine q1 fun h hh => ?_
        obtain ⟨i, hi⟩ := List.mem_iff_getElem?.mp hh.1
        have := has_uni ok hi hg hh.2.1 hs
        subst this
        rw [hg] at hi
        cases hi
        have := hh.2.2
        omega
      · have e3 : ¬ g.start + g.size ≤ hi := fun z => e3 (decide_eq_true z)
        refine ⟨_, rfl, _, rfl, a, _, _, _, rfl, rfl, k1, k0, ?_⟩
        exact q2 r g ⟨List.mem_of_getElem? hg, hs, by omega⟩ kr
end
end K70

set_option Elab.async false
set_option linter.all false
set_option maxRecDepth 100000
set_option maxHeartbeats 4000000
namespace K70
open PySem PySem.Spec PyProof.Rows L2 Lw GxR WD
/-! ### what an instruction makes of facts -/
def okR (f : Fa) : Prop := 0 ≤ f.lo ∧ f.lo ≤ f.hi ∧ f.hi ≤ 65535
def ar12 : List Str := ["add", "addc", "sub", "subc", "mul", "high", "div", "and", "or", "xor", "less", "downby"]
inductive Ins
  | set (r w : Int)
  | move (r s : Int)
  | carry (r : Int)
  | load (r s d : Int)
  | store (r s d : Int)
  | clear
  | sh (n : Str) (r s k : Int)
  | ar (n : Str) (r s t : Int)
  | other (n : Str) (xs : List V)
def Ins.row : Ins → List V
  | .set r w => [.str "set", .int r, .int w]
  | .move r s => [.str "move", .int r, .int s]
  | .carry r => [.str "carry", .int r]
  | .load r s d => [.str "load", .int r, .int s, .int d]
  | .store r s d => [.str "store", .int r, .int s, .int d]
  | .clear => [.str "clear"]
  | .sh n r s k => [.str n, .int r, .int s, .int k]
  | .ar n r s t => [.str n, .int r, .int s, .int t]
  | .other n xs => .str n :: xs
def rg (r : Int) : Prop := 0 ≤ r ∧ r < 16
def Ins.ok : Ins → Prop
  | .set r w => rg r ∧ 0 ≤ w ∧ w ≤ 65535
  | .move r s => rg r ∧ rg s
  | .carry r => rg r
  | .load r s _ => rg r ∧ rg s
  | .store r s _ => rg r ∧ rg s
  | .clear => True
  | .sh n r s k => (n = "down" ∨ n = "up") ∧ rg r ∧ rg s ∧ rg k
  | .ar n r s t => n ∈ ar12 ∧ rg r ∧ rg s ∧ rg t
  | .other n _ => n ∈ (["jump", "below", "call", "ret", "halt"] : List Str)
def Ins.given : Ins → Int
  | .set r _ => r
  | .move r _ => r
  | .carry r => r
  | .load r _ _ => r
  | .sh _ r _ _ => r
  | .ar _ r _ _ => r
  | _ => -1
def cellM (f g : Fa) : Int × Int := if f.cell = -1 ∨ g.lo ≠ g.hi ∨ f.hi + g.hi > 65535 ∨ f.plus + g.lo > 65535 then (-1, 0) else (f.cell, f.plus + g.lo)
def ldZ (gs : List Rg) (lo hi : Int) (f : Fa) : Prop := ((∀ g, ¬ safeZ gs lo hi g) ∧ f = ⟨true, 0, 65535, -1, 0⟩) ∨ ∃ g, safeZ gs lo hi g ∧ f = (if lo = hi then ⟨g.sec, 0, g.most, lo, 0⟩ else ⟨g.sec, 0, g.most, -1, 0⟩)
def chB (n : Str) : Bool := decide (n = "addc" ∨ n = "subc")
def caB (n : Str) : Bool := decide (n ∈ (["add", "addc", "sub", "subc"] : List Str))
def arM (n : Str) (g h : Fa) (c : Bool) : Fa := ⟨g.sec || h.sec || (chB n && c), (opM n g h).1, (opM n g h).2, if n = "add" then (cellM g h).1 else -1, if n = "add" then (cellM g h).2 else 0⟩
def resZ (gs : List Rg) (fs : List Fa) (c : Bool) : Ins → Fa → Prop
  | .set _ w, f => f = ⟨false, w, w, -1, 0⟩
  | .move _ s, f => fs[s.toNat]? = some f
  | .carry _, f => f = ⟨c, 0, 1, -1, 0⟩
  | .load _ s d, f => ∃ g, fs[s.toNat]? = some g ∧ ldZ gs (g.lo + d) (g.hi + d) f
  | .sh n _ s k, f => ∃ g, fs[s.toNat]? = some g ∧ f = ⟨g.sec, (shM n g.lo g.hi k).1, (shM n g.lo g.hi k).2, -1, 0⟩
  | .ar n _ s t, f => ∃ g h, fs[s.toNat]? = some g ∧ fs[t.toNat]? = some h ∧ f = arM n g h c
  | _, _ => False
def Ins.carries : Ins → Bool
  | .ar n _ _ _ => caB n
  | _ => false
def cutF (lo hi : Int) (f : Fa) : Fa := if lo ≤ f.cell ∧ f.cell ≤ hi then ⟨f.sec, f.lo, f.hi, -1, 0⟩ else f
def nxZ (gs : List Rg) (fs : List Fa) (c : Bool) : Ins → List Fa → Bool → Prop
  | .clear, hs, d => hs = fs ∧ d = false
  | .store _ s e, hs, d => (∃ g, fs[s.toNat]? = some g ∧ hs = fs.map (cutF (g.lo + e) (g.hi + e))) ∧ d = c
  | .other _ _, hs, d => hs = fs ∧ d = c
  | i, hs, d => ∃ f, resZ gs fs c i f ∧ hs = fs.set i.given.toNat f ∧ d = if i.carries = true then f.sec else c
theorem new2.mono {H H1 : Hp} {Q : VK} {x : Int × Int} (q : new2 H Q x) (s : Same H H1) : new2 H1 Q x := fun u H' s' n e => q u H' (s.trans s') (s.free n) e
theorem iteT {b : Bool} {A B : Prop} (e : b = true) (h : A) : if b = true then A else B := by
  rw [e]
  exact h
def spOp (K : PySem.W.Frag) : Sp := fun vs H Q _ => ∃ n r s f g, vs = [.str n, .ref r, .ref s] ∧ SqT K H r (Fa.row f) ∧ SqT K H s (Fa.row g) ∧ okR f ∧ okR g ∧ new2 H Q (opM n f g)
def spCell (K : PySem.W.Frag) : Sp := fun vs H Q _ => ∃ r s f g, vs = [.ref r, .ref s] ∧ SqT K H r (Fa.row f) ∧ SqT K H s (Fa.row g) ∧ ∀ u H', Same H H' → SqT K H' u [.int (cellM f g).1, .int (cellM f g).2] → Q (.ref u) H'
def spLd (K : PySem.W.Frag) : Sp := fun vs H Q _ => ∃ L a gs lo hi, vs = [.ref a, .int lo, .int hi] ∧ (∀ q ∈ L, H q.1 = some q.2) ∧ LayAt K L a gs ∧ LayOk gs ∧ ∀ u f H', ldZ gs lo hi f → Same H H' → H u = none → H' u = some (.tup (Fa.row f)) → Q (.ref u) H'
def spRes (K : PySem.W.Frag) (P1 P2 : Addr) : Sp := fun vs H Q _ => ∃ (H0 : Hp) (L : List (Addr × HO)) (la a ia : Addr) (gs : List Rg) (fs : List Fa) (c : Bool) (i : Ins), vs = [.ref la, .ref a, .ref ia] ∧ Wt P1 P2 H0 H L ∧ LayAt K L la gs ∧ LayOk gs ∧ StAt K L a fs c ∧ (∀ f ∈ fs, okR f) ∧ TupAt K L ia i.row ∧ i.ok ∧ 0 ≤ i.given ∧ ∀ u f N H', L <:+ N → Wt P1 P2 H0 H' N → TupAt K N u (Fa.row f) → resZ gs fs c i f → Q (.ref u) H'
def spNext (K : PySem.W.Frag) (P1 P2 : Addr) : Sp := fun vs H Q _ => ∃ (H0 : Hp) (L : List (Addr × HO)) (la a ia : Addr) (gs : List Rg) (fs : List Fa) (c : Bool) (i : Ins), vs = [.ref la, .ref a, .ref ia] ∧ Wt P1 P2 H0 H L ∧ LayAt K L la gs ∧ LayOk gs ∧ StAt K L a fs c ∧ (∀ f ∈ fs, okR f) ∧ TupAt K L ia i.row ∧ i.ok ∧ ∀ u hs d N H', L <:+ N → Wt P1 P2 H0 H' N → StAt K N u hs d → nxZ gs fs c i hs d → Q (.ref u) H'
/-! ### order -/
theorem as_mono {l h l' h' : Int} (a : l' ≤ l) (b : h ≤ h') (c : l ≤ h) : (asW l' h').1 ≤ (asW l h).1 ∧ (asW l h).2 ≤ (asW l' h').2 := by
  unfold asW
  split <;> split <;> exact ⟨by dsimp only; omega, by dsimp only; omega⟩
theorem as_ok {l h : Int} (c : l ≤ h) : 0 ≤ (asW l h).1 ∧ (asW l h).1 ≤ (asW l h).2 ∧ (asW l h).2 ≤ 65535 := by
  unfold asW
  split <;> exact ⟨by dsimp only; omega, by dsimp only; omega, by dsimp only; omega⟩
theorem div_mono {a a' b b' : Int} (a0 : 0 ≤ a) (h1 : a ≤ a') (b0 : 0 < b) (h2 : b ≤ b') : a / b' ≤ a' / b := by
  have q0 : 0 ≤ a / b' := Int.ediv_nonneg a0 (by omega)
  refine (Int.le_ediv_iff_mul_le b0).mpr ?_
  have s1 : a / b' * b ≤ a / b' * b' := Int.mul_le_mul_of_nonneg_left h2 q0
  have s2 : a / b' * b' ≤ a := Int.ediv_mul_le _ (by omega)
  omega
theorem mul_mono {a b a' b' : Int} (a0 : 0 ≤ a) (b0 : 0 ≤ b) (h1 : a ≤ a') (h2 : b ≤ b') : a * b ≤ a' * b' := Int.mul_le_mul h1 h2 b0 (by omega)
theorem pow_pos' (k : Nat) : (1 : Int) ≤ 2 ^ k := by
  have h : (2 : Int) ^ k = ((2 ^ k : Nat) : Int) := by simp
  have := Nat.one_le_two_pow (n := k)
  rw [h]
  omega
theorem pow_mono {j k : Nat} (h : j ≤ k) : (2 : Int) ^ j ≤ 2 ^ k := by
  have e : ∀ i : Nat, (2 : Int) ^ i = ((2 ^ i : Nat) : Int) := fun i => by simp
  have := Nat.pow_le_pow_right (show 2 > 0 by decide) h
  rw [e, e]
  omega
theorem mask_mono {j k : Nat} (h : j ≤ k) : maskM (j : Int) ≤ maskM (k : Int) := by
  unfold maskM
  rw [Int.toNat_natCast, Int.toNat_natCast]
  have := pow_mono h
  omega
theorem mask_ok {k : Nat} (h : k ≤ 16) : 0 ≤ maskM (k : Int) ∧ maskM (k : Int) ≤ 65535 := by
  refine ⟨?_, Int.le_trans (mask_mono h) (by decide +kernel)⟩
  unfold maskM
  rw [Int.toNat_natCast]
  have := pow_pos' k
  omega
theorem top_mono {n : Str} {h g h' g' : Int} (a0 : 0 ≤ h) (b0 : 0 ≤ g) (a : h ≤ h') (b : g ≤ g') : topM n h g ≤ topM n h' g' := by
  unfold topM
  split
  · omega
  · split
    · exact mask_mono (bits_mono (by omega) (by omega))
    · split
      · exact Int.le_refl _
      · exact a
theorem top_ok {n : Str} {h g : Int} (a0 : 0 ≤ h) (b0 : 0 ≤ g) (a : h ≤ 65535) (b : g ≤ 65535) : 0 ≤ topM n h g ∧ topM n h g ≤ 65535 := by
  unfold topM
  split
  · omega
  · split
    · exact mask_ok (bits_le (by omega) (by omega))
    · split
      · exact ⟨by omega, by omega⟩
      · exact ⟨a0, a⟩
def inR (x y : Int × Int) : Prop := y.1 ≤ x.1 ∧ x.2 ≤ y.2
def okP (x : Int × Int) : Prop := 0 ≤ x.1 ∧ x.1 ≤ x.2 ∧ x.2 ≤ 65535
theorem op_mono {n : Str} {f g f' g' : Fa} (k1 : okR f) (k2 : okR g) (k3 : okR f') (k4 : okR g') (a : f'.lo ≤ f.lo ∧ f.hi ≤ f'.hi) (b : g'.lo ≤ g.lo ∧ g.hi ≤ g'.hi) : inR (opM n f g) (opM n f' g') := by
  obtain ⟨f0, f1, f2⟩ := k1
  obtain ⟨g0, g1, g2⟩ := k2
  obtain ⟨f0', f1', f2'⟩ := k3
  obtain ⟨g0', g1', g2'⟩ := k4
  obtain ⟨a1, a2⟩ := a
  obtain ⟨b1, b2⟩ := b
  have hm : 0 ≤ moreM n := by
    unfold moreM
    split <;> decide
  unfold opM inR
  split
  · exact as_mono (by omega) (by omega) (by omega)
  · split
    · exact as_mono (by omega) (by omega) (by omega)
    · split
      · exact as_mono (mul_mono f0' g0' a1 b1) (mul_mono (by omega) (by omega) a2 b2) (mul_mono f0 g0 f1 g1)
      · split
        · exact ⟨Int.ediv_le_ediv (by decide) (mul_mono f0' g0' a1 b1), Int.ediv_le_ediv (by decide) (mul_mono (by omega) (by omega) a2 b2)⟩
        · split
          · by_cases z : 1 ≤ g'.lo
            · rw [if_pos z, if_pos (by omega)]
              exact ⟨div_mono f0' a1 (by omega) b2, div_mono (by omega) a2 (by omega) b1⟩
            · rw [if_neg z]
              split
              · refine ⟨Int.ediv_nonneg f0 (by omega), ?_⟩
                have := div_mono (a := f.hi) (a' := 65535) (b := 1) (b' := g.lo) (by omega) f2 (by decide) (by omega)
                simpa using this
              · exact ⟨Int.le_refl _, Int.le_refl _⟩
          · exact ⟨Int.le_refl _, top_mono (by omega) (by omega) a2 b2⟩
theorem op_ok {n : Str} {f g : Fa} (k1 : okR f) (k2 : okR g) : okP (opM n f g) := by
  obtain ⟨f0, f1, f2⟩ := k1
  obtain ⟨g0, g1, g2⟩ := k2
  have hm : 0 ≤ moreM n := by
    unfold moreM
    split <;> decide
  unfold opM okP
  split
  · exact as_ok (by omega)
  · split
    · exact as_ok (by omega)
    · split
      · exact as_ok (mul_mono f0 g0 f1 g1)
      · split
        · refine ⟨Int.ediv_nonneg (Int.mul_nonneg f0 g0) (by decide), Int.ediv_le_ediv (by decide) (mul_mono f0 g0 f1 g1), ?_⟩
          have := mul_mono (a := f.hi) (b := g.hi) (a' := 65535) (b' := 65535) (by omega) (by omega) f2 g2
          exact Int.le_trans (Int.ediv_le_ediv (by decide) this) (by decide)
        · split
          · split
            · refine ⟨Int.ediv_nonneg f0 (by omega), div_mono f0 f1 (by omega) g1, ?_⟩
              have := div_mono (a := f.hi) (a' := 65535) (b := 1) (b' := g.lo) (by omega) f2 (by decide) (by omega)
              simpa using this
            · exact ⟨by decide, by decide, by decide⟩
          · have := top_ok (n := n) (h := f.hi) (g := g.hi) (by omega) (by omega) f2 g2
            exact ⟨Int.le_refl 0, this.1, this.2⟩
theorem sh_mono {n : Str} {l h l' h' k : Int} (a : l' ≤ l) (b : h ≤ h') (c : l ≤ h) : inR (shM n l h k) (shM n l' h' k) := by
  have p := pow_pos' k.toNat
  unfold shM inR
  split
  · exact ⟨Int.ediv_le_ediv (by omega) a, Int.ediv_le_ediv (by omega) b⟩
  · exact as_mono (Int.mul_le_mul_of_nonneg_right a (by omega)) (Int.mul_le_mul_of_nonneg_right b (by omega)) (Int.mul_le_mul_of_nonneg_right c (by omega))
theorem sh_ok {n : Str} {l h k : Int} (a : 0 ≤ l) (b : h ≤ 65535) (c : l ≤ h) : okP (shM n l h k) := by
  have p := pow_pos' k.toNat
  unfold shM okP
  split
  · exact ⟨Int.ediv_nonneg a (by omega), Int.ediv_le_ediv (by omega) c, Int.le_trans (Int.ediv_le_self _ (by omega)) b⟩
  · exact as_ok (Int.mul_le_mul_of_nonneg_right c (by omega))
theorem cell_mono {f g f' g' : Fa} (k2 : okR g) (a : fitP f f') (b : fitP g g') : (cellM f' g').1 = -1 ∨ cellM f g = cellM f' g' := by
  obtain ⟨_, a1, a2, a3⟩ := a
  obtain ⟨_, b1, b2, _⟩ := b
  obtain ⟨_, g1, _⟩ := k2
  by_cases z : f'.cell = -1 ∨ g'.lo ≠ g'.hi ∨ f'.hi + g'.hi > 65535 ∨ f'.plus + g'.lo > 65535
  · left
    unfold cellM
    rw [if_pos z]
  · right
    have z1 : f'.cell ≠ -1 := fun y => z (.inl y)
    have z2 : g'.lo = g'.hi := by
      by_cases y : g'.lo = g'.hi
      · exact y
      · exact absurd (.inr (.inl y)) z
    have z3 : ¬ f'.hi + g'.hi > 65535 := fun y => z (.inr (.inr (.inl y)))
    have z4 : ¬ f'.plus + g'.lo > 65535 := fun y => z (.inr (.inr (.inr y)))
    rcases a3 with y | ⟨y1, y2⟩
    · exact absurd y z1
    · unfold cellM
      rw [if_neg z, if_neg, y1, y2]
      · have : g.lo = g'.lo := by omega
        rw [this]
      · rintro (x | x | x | x)
        · exact z1 (y1 ▸ x)
        · exact x (by omega)
        · omega
        · rw [y2] at x
          omega
theorem ld_mono {gs : List Rg} (ok : LayOk gs) {lo hi lo' hi' : Int} {f f' : Fa} (a : lo' ≤ lo) (b : hi ≤ hi') (c : lo ≤ hi) (h1 : ldZ gs lo hi f) (h2 : ldZ gs lo' hi' f') : fitP f f' := by
  have up : ∀ g, safeZ gs lo' hi' g → safeZ gs lo hi g := fun g ⟨m, ⟨x1, x2⟩, x3⟩ => ⟨m, ⟨by omega, by omega⟩, by omega⟩
  have uni : ∀ g h, safeZ gs lo hi g → safeZ gs lo hi h → g = h := fun g h x y => by
    obtain ⟨i, hi'⟩ := List.mem_iff_getElem?.mp x.1
    obtain ⟨j, hj⟩ := List.mem_iff_getElem?.mp y.1
    have := has_uni ok hi' hj x.2.1 y.2.1
    subst this
    rw [hi'] at hj
    cases hj
    rfl
  rcases h2 with ⟨n2, rfl⟩ | ⟨g', s2, rfl⟩
  · rcases h1 with ⟨n1, rfl⟩ | ⟨g, s1, rfl⟩
    · exact fitP.rfl
    · have := ok.most g s1.1
      split
      · exact ⟨fun _ => rfl, by show (0 : Int) ≤ 0; decide, this.2, .inl rfl⟩
      · exact ⟨fun _ => rfl, by show (0 : Int) ≤ 0; decide, this.2, .inl rfl⟩
  · rcases h1 with ⟨n1, rfl⟩ | ⟨g, s1, rfl⟩
    · exact absurd (up _ s2) (n1 _)
    · have e := uni _ _ s1 (up _ s2)
      subst e
      by_cases z : lo' = hi'
      · have : lo = hi := by omega
        have e : lo = lo' := by omega
        rw [if_pos z, if_pos this, e]
        exact fitP.rfl
      · rw [if_neg z]
        split
        · exact ⟨id, by show (0 : Int) ≤ 0; decide, Int.le_refl _, .inl rfl⟩
        · exact ⟨id, by show (0 : Int) ≤ 0; decide, Int.le_refl _, .inl rfl⟩
theorem ld_ok {gs : List Rg} (ok : LayOk gs) {lo hi : Int} {f : Fa} (h : ldZ gs lo hi f) : okR f := by
  rcases h with ⟨n, rfl⟩ | ⟨g, s, rfl⟩
  · exact ⟨by decide, by decide, by decide⟩
  · have := ok.most g s.1
    split <;> exact ⟨by show (0 : Int) ≤ 0; decide, this.1, this.2⟩
theorem pr_get2 {α β : Type} {R : α → β → Prop} {xs : List α} {ys : List β} {i : Nat} {x : α} {y : β} (h : Paired R xs ys) (a : xs[i]? = some x) (b : ys[i]? = some y) : R x y := by
  obtain ⟨z, hz, r⟩ := pr_get h a
  rw [b] at hz
  cases hz
  exact r
theorem res_mono {gs : List Rg} (ok : LayOk gs) {i : Ins} {fs hs : List Fa} {c d : Bool} {f g : Fa} (hp : Paired fitP fs hs) (hc : ffB c d = true) (k1 : ∀ f ∈ fs, okR f) (k2 : ∀ f ∈ hs, okR f) (h1 : resZ gs fs c i f) (h2 : resZ gs hs d i g) : fitP f g := by
  have hc' : c = true → d = true := fun z => by
    rw [z] at hc
    cases d
    · cases hc
    · rfl
  cases i with
  | set r w => cases h1; cases h2; exact fitP.rfl
  | move r s => exact pr_get2 hp h1 h2
  | carry r =>
    cases h1
    cases h2
    exact ⟨hc', Int.le_refl _, Int.le_refl _, .inl rfl⟩
  | load r s e =>
    obtain ⟨x, hx, lx⟩ := h1
    obtain ⟨y, hy, ly⟩ := h2
    obtain ⟨_, a1, a2, _⟩ := pr_get2 hp hx hy
    have := (k1 x (List.mem_of_getElem? hx)).2.1
    exact ld_mono ok (by omega) (by omega) (by omega) lx ly
  | sh n r s k =>
    obtain ⟨x, hx, rfl⟩ := h1
    obtain ⟨y, hy, rfl⟩ := h2
    obtain ⟨a0, a1, a2, _⟩ := pr_get2 hp hx hy
    have m := sh_mono (n := n) (k := k) a1 a2 (k1 x (List.mem_of_getElem? hx)).2.1
    exact ⟨a0, m.1, m.2, .inl rfl⟩
  | ar n r s t =>
    obtain ⟨x, y, hx, hy, rfl⟩ := h1
    obtain ⟨x', y', hx', hy', rfl⟩ := h2
    have a := pr_get2 hp hx hx'
    have b := pr_get2 hp hy hy'
    have ox := k1 x (List.mem_of_getElem? hx)
    have oy := k1 y (List.mem_of_getElem? hy)
    have ox' := k2 x' (List.mem_of_getElem? hx')
    have oy' := k2 y' (List.mem_of_getElem? hy')
    have m := op_mono (n := n) ox oy ox' oy' ⟨a.2.1, a.2.2.1⟩ ⟨b.2.1, b.2.2.1⟩
    refine ⟨?_, m.1, m.2, ?_⟩
    · intro z
      have z : (x.sec || y.sec || (chB n && c)) = true := z
      show (x'.sec || y'.sec || (chB n && d)) = true
      have a1 := a.1
      have b1 := b.1
      revert z a1 b1 hc'
      cases x.sec <;> cases y.sec <;> cases x'.sec <;> cases y'.sec <;> cases chB n <;> cases c <;> cases d <;> simp
    · show (if n = "add" then (cellM x' y').1 else -1) = -1 ∨ ((if n = "add" then (cellM x y).1 else -1) = (if n = "add" then (cellM x' y').1 else -1) ∧ (if n = "add" then (cellM x y).2 else 0) = (if n = "add" then (cellM x' y').2 else 0))
      by_cases z : n = "add"
      · rw [if_pos z, if_pos z, if_pos z, if_pos z]
        rcases cell_mono oy a b with e | e
        · exact .inl e
        · exact .inr ⟨by rw [e], by rw [e]⟩
      · rw [if_neg z]
        exact .inl rfl
  | store r s e => exact False.elim h1
  | clear => exact False.elim h1
  | other n xs => exact False.elim h1
theorem res_ok {gs : List Rg} (ok : LayOk gs) {i : Ins} (hi : i.ok) {fs : List Fa} {c : Bool} {f : Fa} (k1 : ∀ f ∈ fs, okR f) (h1 : resZ gs fs c i f) : okR f := by
  cases i with
  | set r w => cases h1; exact ⟨hi.2.1, Int.le_refl _, hi.2.2⟩
  | move r s => exact k1 _ (List.mem_of_getElem? h1)
  | carry r => cases h1; exact ⟨Int.le_refl 0, show (0 : Int) ≤ 1 by decide, show (1 : Int) ≤ 65535 by decide⟩
  | load r s e =>
    obtain ⟨x, hx, lx⟩ := h1
    exact ld_ok ok lx
  | sh n r s k =>
    obtain ⟨x, hx, rfl⟩ := h1
    have o := k1 x (List.mem_of_getElem? hx)
    exact sh_ok o.1 o.2.2 o.2.1
  | ar n r s t =>
    obtain ⟨x, y, hx, hy, rfl⟩ := h1
    exact op_ok (k1 x (List.mem_of_getElem? hx)) (k1 y (List.mem_of_getElem? hy))
  | store r s e => exact False.elim h1
  | clear => exact False.elim h1
  | other n xs => exact False.elim h1
theorem cut_mono {lo hi lo' hi' : Int} {f g : Fa} (a : lo' ≤ lo) (b : hi ≤ hi') (h : fitP f g) : fitP (cutF lo hi f) (cutF lo' hi' g) := by
  obtain ⟨h1, h2, h3, h4⟩ := h
  unfold cutF
  by_cases z : lo' ≤ g.cell ∧ g.cell ≤ hi'
  · rw [if_pos z]
    split <;> exact ⟨h1, h2, h3, .inl rfl⟩
  · rw [if_neg z]
    rcases h4 with y | ⟨y1, y2⟩
    · split <;> exact ⟨h1, h2, h3, .inl y⟩
    · rw [if_neg (by omega)]
      exact ⟨h1, h2, h3, .inr ⟨y1, y2⟩⟩
theorem cut_all {lo hi lo' hi' : Int} (a : lo' ≤ lo) (b : hi ≤ hi') : ∀ {fs gs : List Fa}, Paired fitP fs gs → Paired fitP (fs.map (cutF lo hi)) (gs.map (cutF lo' hi'))
  | _, _, .nil => .nil
  | _, _, .cons r t => .cons (cut_mono a b r) (cut_all a b t)
theorem ff_of {c d : Bool} (h : c = true → d = true) : ffB c d = true := by
  cases c
  · rfl
  · rw [h rfl]; rfl
theorem of_ff {c d : Bool} (h : ffB c d = true) : c = true → d = true := fun z => by
  rw [z] at h
  cases d
  · cases h
  · rfl
theorem next_mono {gs : List Rg} (ok : LayOk gs) {i : Ins} {fs hs fs' hs' : List Fa} {c d c' d' : Bool} (hp : Paired fitP fs hs) (hc : ffB c d = true) (k1 : ∀ f ∈ fs, okR f) (k2 : ∀ f ∈ hs, okR f) (h1 : nxZ gs fs c i fs' c') (h2 : nxZ gs hs d i hs' d') : Paired fitP fs' hs' ∧ ffB c' d' = true := by
  have gen : (∃ f, resZ gs fs c i f ∧ fs' = fs.set i.given.toNat f ∧ c' = if i.carries = true then f.sec else c) → (∃ f, resZ gs hs d i f ∧ hs' = hs.set i.given.toNat f ∧ d' = if i.carries = true then f.sec else d) → Paired fitP fs' hs' ∧ ffB c' d' = true := by
    rintro ⟨f, a1, rfl, rfl⟩ ⟨g, b1, rfl, rfl⟩
    have m := res_mono ok hp hc k1 k2 a1 b1
    refine ⟨paired_set m _ hp, ?_⟩
    split
    · exact ff_of m.1
    · exact hc
  cases i with
  | store r s e =>
    obtain ⟨⟨x, hx, rfl⟩, rfl⟩ := h1
    obtain ⟨⟨y, hy, rfl⟩, rfl⟩ := h2
    obtain ⟨_, a1, a2, _⟩ := pr_get2 hp hx hy
    exact ⟨cut_all (by omega) (by omega) hp, hc⟩
  | clear =>
    obtain ⟨rfl, rfl⟩ := h1
    obtain ⟨rfl, rfl⟩ := h2
    exact ⟨hp, rfl⟩
  | other n xs =>
    obtain ⟨rfl, rfl⟩ := h1
    obtain ⟨rfl, rfl⟩ := h2
    exact ⟨hp, hc⟩
  | _ => exact gen h1 h2
theorem next_ok {gs : List Rg} (ok : LayOk gs) {i : Ins} (hi : i.ok) {fs fs' : List Fa} {c c' : Bool} (k1 : ∀ f ∈ fs, okR f) (h1 : nxZ gs fs c i fs' c') : ∀ f ∈ fs', okR f := by
  have gen : (∃ f, resZ gs fs c i f ∧ fs' = fs.set i.given.toNat f ∧ c' = if i.carries = true then f.sec else c) → ∀ f ∈ fs', okR f := by
    rintro ⟨f, a1, rfl, rfl⟩ g hg
    rcases List.mem_or_eq_of_mem_set hg with z | z
    · exact k1 g z
    · rw [z]
      exact res_ok ok hi k1 a1
  cases i with
  | store r s e =>
    obtain ⟨⟨x, hx, rfl⟩, rfl⟩ := h1
    intro f hf
    obtain ⟨y, hy, rfl⟩ := List.mem_map.mp hf
    have := k1 y hy
    unfold cutF
    split
    · exact this
    · exact this
  | clear =>
    obtain ⟨rfl, rfl⟩ := h1
    exact k1
  | other n xs =>
    obtain ⟨rfl, rfl⟩ := h1
    exact k1
  | _ => exact gen h1
theorem uF_l (f g : Fa) : fitP f (uF f g) := by
  refine ⟨fun z => ?_, Int.min_le_left _ _, Int.le_max_left _ _, ?_⟩
  · show (f.sec || g.sec) = true
    rw [z]
    rfl
  · show (if cellB f g = true then f.cell else -1) = -1 ∨ (f.cell = (if cellB f g = true then f.cell else -1) ∧ f.plus = (if cellB f g = true then f.plus else 0))
    split
    · exact .inr ⟨rfl, rfl⟩
    · exact .inl rfl
theorem uF_r (f g : Fa) : fitP g (uF f g) := by
  refine ⟨fun z => ?_, Int.min_le_right _ _, Int.le_max_right _ _, ?_⟩
  · show (f.sec || g.sec) = true
    rw [z, Bool.or_true]
  · show (if cellB f g = true then f.cell else -1) = -1 ∨ (g.cell = (if cellB f g = true then f.cell else -1) ∧ g.plus = (if cellB f g = true then f.plus else 0))
    split
    · rename_i h
      obtain ⟨h1, h2⟩ := Bool.and_eq_true_iff.mp h
      exact .inr ⟨(of_decide_eq_true h1).symm, (of_decide_eq_true h2).symm⟩
    · exact .inl rfl
theorem zip_l : ∀ {fs gs : List Fa}, fs.length = gs.length → Paired fitP fs (List.zipWith uF fs gs)
  | [], [], _ => .nil
  | f :: fs, g :: gs, h => .cons (uF_l f g) (zip_l (by simpa using h))
theorem zip_r : ∀ {fs gs : List Fa}, fs.length = gs.length → Paired fitP gs (List.zipWith uF fs gs)
  | [], [], _ => .nil
  | f :: fs, g :: gs, h => .cons (uF_r f g) (zip_r (by simpa using h))
theorem uF_lub {f g h : Fa} (a : fitP f h) (b : fitP g h) : fitP (uF f g) h := by
  obtain ⟨a1, a2, a3, a4⟩ := a
  obtain ⟨b1, b2, b3, b4⟩ := b
  refine ⟨fun z => ?_, show h.lo ≤ min f.lo g.lo by omega, show max f.hi g.hi ≤ h.hi by omega, ?_⟩
  · rcases Bool.or_eq_true_iff.mp (show (f.sec || g.sec) = true from z) with y | y
    · exact a1 y
    · exact b1 y
  · rcases a4 with y | ⟨y1, y2⟩
    · exact .inl y
    · rcases b4 with x | ⟨x1, x2⟩
      · exact .inl x
      · right
        have e : cellB f g = true := by
          unfold cellB
          rw [decide_eq_true (y1.trans x1.symm), decide_eq_true (y2.trans x2.symm)]
          rfl
        show (if cellB f g = true then f.cell else -1) = h.cell ∧ (if cellB f g = true then f.plus else 0) = h.plus
        rw [if_pos e, if_pos e]
        exact ⟨y1, y2⟩
theorem zip_lub : ∀ {fs gs hs : List Fa}, Paired fitP fs hs → Paired fitP gs hs → Paired fitP (List.zipWith uF fs gs) hs
  | _, _, _, .nil, .nil => .nil
  | _, _, _, .cons r t, .cons r2 t2 => .cons (uF_lub r r2) (zip_lub t t2)
theorem uF_okR {f g : Fa} (a : okR f) (b : okR g) : okR (uF f g) := by
  obtain ⟨a1, a2, a3⟩ := a
  obtain ⟨b1, b2, b3⟩ := b
  exact ⟨show 0 ≤ min f.lo g.lo by omega, show min f.lo g.lo ≤ max f.hi g.hi by omega, show max f.hi g.hi ≤ 65535 by omega⟩
theorem zip_okR : ∀ {fs gs : List Fa}, (∀ f ∈ fs, okR f) → (∀ g ∈ gs, okR g) → ∀ u ∈ List.zipWith uF fs gs, okR u
  | [], _, _, _, u, hu => by simp at hu
  | _ :: _, [], _, _, u, hu => by simp at hu
  | f :: fs, g :: gs, h1, h2, u, hu => by
    rw [List.zipWith_cons_cons] at hu
    rcases List.mem_cons.mp hu with e | e
    · rw [e]
      exact uF_okR (h1 f (List.mem_cons_self ..)) (h2 g (List.mem_cons_self ..))
    · exact zip_okR (fun x hx => h1 x (List.mem_cons_of_mem _ hx)) (fun x hx => h2 x (List.mem_cons_of_mem _ hx)) u e
end K70

set_option Elab.async false
set_option linter.all false
set_option maxRecDepth 100000
set_option maxHeartbeats 4000000
namespace K70
open PySem PySem.Spec PyProof.Rows L2 Lw GxR WD
section
variable {P : Program} {w : World} {K : PySem.W.Frag} {mg : Str → Option Value} {base : Heap} {P1 P2 : Addr}
theorem ok_op (T : Tx K mg) : FnOk P w K mg base CX0 3 T.a_operated T.d_operated ["name", "first", "second"] (spOp K) := by
  have G_as_words : FnOk P w K mg base CX0 1 T.a_as_words T.d_as_words ["least", "greatest"] spAsW := ok_asw T
  have G_top_of_bits : FnOk P w K mg base CX0 2 T.a_top_of_bits T.d_top_of_bits ["name", "high", "greatest"] spTop := ok_top T
  refine T.F_operated.ok sc_operated (fun vs H Q E h => ?_) (fun cdv A outer s H vs Q E hr h => ?_)
  · obtain ⟨n, r, s, f, g, rfl, _⟩ := h
    rfl
  · obtain ⟨n, r, s, f, g, rfl, k1, k2, ⟨f0, f1, f2⟩, ⟨g0, g1, g2⟩, q⟩ := h
    have hr_as_words : Room 1 _ := hr.mono (by decide)
    have hr_top_of_bits : Room 2 _ := hr.mono (by decide)
    refine ⟨_, (pss_cons (ps_asg (pv 1) (pg_tup rfl (pgs_cons (pg_name (i := 3) sc_operated.nd rfl (.inl rfl)) (pgs_cons (pg_name (i := 4) sc_operated.nd rfl (.inl rfl)) (pgs_cons (pg_name (i := 5) sc_operated.nd rfl (.inl rfl)) (pgs_cons (pg_name (i := 3) sc_operated.nd rfl (.inl rfl)) (pgs_cons (pg_name (i := 3) sc_operated.nd rfl (.inl rfl)) pgs_nil)))))))
        (pss_cons (ps_asg (pv 2) (pg_tup rfl (pgs_cons (pg_name (i := 3) sc_operated.nd rfl (.inl rfl)) (pgs_cons (pg_name (i := 6) sc_operated.nd rfl (.inl rfl)) (pgs_cons (pg_name (i := 7) sc_operated.nd rfl (.inl rfl)) (pgs_cons (pg_name (i := 3) sc_operated.nd rfl (.inl rfl)) (pgs_cons (pg_name (i := 3) sc_operated.nd rfl (.inl rfl)) pgs_nil)))))))
        (pss_cons (ps_if (pt_cmpR op_in_seq (pv 0) (pe_glob rfl T.g_CARRYING T.r_CARRYING) (by rfl))
        (pss_cons (ps_set (i := 8) sc_operated.nd rfl (.inl rfl) (pe_ifExp (pt_cmpR op_in_seq (pv 0) (pe_glob rfl T.g_CHAINED T.r_CHAINED) (by rfl)) pe_int pe_int))
        (pss_cons (ps_if (pt_cmpR op_in_seq (pv 0) (pe_tup (pa_cons pe_str (pa_cons pe_str pa_nil))) (by rfl))
        (pss_one (ps_ret (pe_call G_as_words hr_as_words (by rfl) T.g_as_words T.F_as_words.kp T.b_as_words .nil pass0 (pa_cons (pe_op op_add (pv 4) (pv 6)) (pa_cons (pe_op op_add (pe_op op_add (pv 5) (pv 7)) (pv 8)) pa_nil)))))
        pss_nil)
        (pss_one (ps_ret (pe_call G_as_words hr_as_words (by rfl) T.g_as_words T.F_as_words.kp T.b_as_words .nil pass0 (pa_cons (pe_op op_sub (pe_op op_sub (pv 4) (pv 7)) (pv 8)) (pa_cons (pe_op op_sub (pv 5) (pv 6)) pa_nil)))))))
        pss_nil)
        (pss_cons (ps_if (pt_cmpR op_eq (pv 0) pe_str (nomark _))
        (pss_one (ps_ret (pe_call G_as_words hr_as_words (by rfl) T.g_as_words T.F_as_words.kp T.b_as_words .nil pass0 (pa_cons (pe_op op_mul (pv 4) (pv 6)) (pa_cons (pe_op op_mul (pv 5) (pv 7)) pa_nil)))))
        pss_nil)
        (pss_cons (ps_if (pt_cmpR op_eq (pv 0) pe_str (nomark _))
        (pss_one (ps_ret (pe_tup (pa_cons (pe_op op_fdiv (pe_op op_mul (pv 4) (pv 6)) (pe_glob rfl T.g_WORD T.r_WORD)) (pa_cons (pe_op op_fdiv (pe_op op_mul (pv 5) (pv 7)) (pe_glob rfl T.g_WORD T.r_WORD)) pa_nil)))))
        pss_nil)
        (pss_cons (ps_if (pt_cmpR op_eq (pv 0) pe_str (nomark _))
        (pss_one (ps_ret (pe_ifExp (pt_cmpR op_ge (pv 6) pe_int (nomark _)) (pe_tup (pa_cons (pe_op op_fdiv (pv 4) (pv 7)) (pa_cons (pe_op op_fdiv (pv 5) (pv 6)) pa_nil))) (pe_tup (pa_cons pe_int (pa_cons (pe_glob rfl T.g_GREATEST_WORD T.r_GREATEST_WORD) pa_nil))))))
        pss_nil)
        (pss_one (ps_ret (pe_tup (pa_cons pe_int (pa_cons (pe_call G_top_of_bits hr_top_of_bits (by rfl) T.g_top_of_bits T.F_top_of_bits.kp T.b_top_of_bits .nil pass0 (pa_cons (pv 0) (pa_cons (pv 5) (pa_cons (pv 7) pa_nil)))) pa_nil))))))))))), ?_⟩
    have qq : ∀ x, opM n f g = x → new2 H Q x := fun x e => e ▸ q
    unfold opM at qq
    have hca := KDx.tupB_ok (H := H) T.kitca (by decide)
    have hch := KDx.tupB_ok (H := H) T.kitch (by decide)
    refine ⟨_, rfl, r, _, rfl, k1, rfl, ?_⟩
    refine ⟨_, _, rfl, _, _, rfl, _, _, rfl, _, _, rfl, _, _, rfl, rfl, ?_⟩
    refine ⟨_, rfl, s, _, rfl, k2, rfl, ?_⟩
    refine ⟨_, _, rfl, _, _, rfl, _, _, rfl, _, _, rfl, _, _, rfl, rfl, ?_⟩
    refine ⟨_, rfl, _, _, rfl, .inr hca, rfl, by decide +kernel, ?_⟩
    rw [if_neg Bool.false_ne_true, inV_str]
    refine ⟨_, rfl, ?_⟩
    refine ite2 (fun e => ?_) (fun e => ?_)
    · have e := of_decide_eq_true e
      have e : n = "add" ∨ n = "addc" ∨ n = "sub" ∨ n = "subc" := by simpa using e
      rcases e with rfl | rfl | rfl | rfl
      · have hm : moreM "add" = 0 := by
          unfold moreM
          exact if_neg (by decide +kernel)
        refine ⟨_, rfl, _, _, rfl, .inr hch, rfl, by decide +kernel, ?_⟩
        rw [if_neg Bool.false_ne_true, inV_str]
        refine ⟨_, rfl, ?_⟩
        refine iteF' (by decide +kernel) ?_
        refine ⟨_, rfl, ?_⟩
        refine ⟨by show 2 ≤ sizeLine; decide, fun t ht => ?_⟩
        refine ⟨t, (["add", "addc"] : List Str).map V.str, rfl, .inr (SqT.of upd_same), rfl, by decide +kernel, ?_⟩
        rw [if_neg Bool.false_ne_true, inV_str]
        refine ⟨_, rfl, ?_⟩
        refine iteT (by decide +kernel) ?_
        have st := same_upd (o := .tup [.str "add", .str "addc"]) ht
        generalize upd H t _ = H1 at st ⊢
        (repeat (first | refine ⟨_, rfl, ?_⟩ | refine ⟨_, _, rfl, rfl, ?_⟩ | refine ⟨rfl, ?_⟩ | refine .inl ⟨_, rfl, ?_⟩ | refine .inr ⟨_, rfl, ?_⟩ | refine ⟨.inr ⟨by decide, by decide⟩, ?_⟩ | refine ⟨⟨by decide, by decide⟩, ?_⟩ | refine ⟨⟨by decide, by decide, by decide⟩, ?_⟩ | refine ⟨.inr ⟨by omega, by omega⟩, ?_⟩ | refine ⟨(by show (0 : Int) < _; first | decide | omega), ?_⟩ | refine ⟨Nat.le_trans (Nat.le_of_ble_eq_true rfl : _ ≤ 50) (by decide), ?_⟩ | refine ⟨_, _, _, _, rfl, rfl, upd_same, rfl, ?_⟩ | refine ⟨_, _, _, _, rfl, rfl, SqL.of upd_same, rfl, ?_⟩ | refine ⟨_, _, _, _, rfl, rfl, SqT.of upd_same, rfl, ?_⟩ | refine ⟨_, _, rfl, .inl (SqL.of upd_same), ?_⟩ | refine ⟨_, _, rfl, .inr (SqT.of upd_same), ?_⟩ | (refine' ⟨_, _, _, _, rfl, rfl, _, _, _⟩; rotate_left 2; (focus (first | assumption | exact SqL.of (by assumption) | exact SqT.of (by assumption) | exact Same.seq (by assumption) (by assumption))); (focus (exact rfl))) | (refine' ⟨_, _, rfl, _, _⟩; rotate_left 1; (focus (first | exact .inl (by assumption) | exact .inl (SqL.of (by assumption)) | exact .inr (by assumption) | exact .inr (SqT.of (by assumption)))))))
        dsimp only [tCons, tC, tNil]
        have q1 := qq _ (if_pos (by decide +kernel))
        rw [hm] at q1
        exact ⟨_, _, rfl, q1.mono st⟩
      · have hm : moreM "addc" = 1 := by
          unfold moreM
          exact if_pos (by decide +kernel)
        refine ⟨_, rfl, _, _, rfl, .inr hch, rfl, by decide +kernel, ?_⟩
        rw [if_neg Bool.false_ne_true, inV_str]
        refine ⟨_, rfl, ?_⟩
        refine iteT (by decide +kernel) ?_
        refine ⟨_, rfl, ?_⟩
        refine ⟨by show 2 ≤ sizeLine; decide, fun t ht => ?_⟩
        refine ⟨t, (["add", "addc"] : List Str).map V.str, rfl, .inr (SqT.of upd_same), rfl, by decide +kernel, ?_⟩
        rw [if_neg Bool.false_ne_true, inV_str]
        refine ⟨_, rfl, ?_⟩
        refine iteT (by decide +kernel) ?_
        have st := same_upd (o := .tup [.str "add", .str "addc"]) ht
        generalize upd H t _ = H1 at st ⊢
        (repeat (first | refine ⟨_, rfl, ?_⟩ | refine ⟨_, _, rfl, rfl, ?_⟩ | refine ⟨rfl, ?_⟩ | refine .inl ⟨_, rfl, ?_⟩ | refine .inr ⟨_, rfl, ?_⟩ | refine ⟨.inr ⟨by decide, by decide⟩, ?_⟩ | refine ⟨⟨by decide, by decide⟩, ?_⟩ | refine ⟨⟨by decide, by decide, by decide⟩, ?_⟩ | refine ⟨.inr ⟨by omega, by omega⟩, ?_⟩ | refine ⟨(by show (0 : Int) < _; first | decide | omega), ?_⟩ | refine ⟨Nat.le_trans (Nat.le_of_ble_eq_true rfl : _ ≤ 50) (by decide), ?_⟩ | refine ⟨_, _, _, _, rfl, rfl, upd_same, rfl, ?_⟩ | refine ⟨_, _, _, _, rfl, rfl, SqL.of upd_same, rfl, ?_⟩ | refine ⟨_, _, _, _, rfl, rfl, SqT.of upd_same, rfl, ?_⟩ | refine ⟨_, _, rfl, .inl (SqL.of upd_same), ?_⟩ | refine ⟨_, _, rfl, .inr (SqT.of upd_same), ?_⟩ | (refine' ⟨_, _, _, _, rfl, rfl, _, _, _⟩; rotate_left 2; (focus (first | assumption | exact SqL.of (by assumption) | exact SqT.of (by assumption) | exact Same.seq (by assumption) (by assumption))); (focus (exact rfl))) | (refine' ⟨_, _, rfl, _, _⟩; rotate_left 1; (focus (first | exact .inl (by assumption) | exact .inl (SqL.of (by assumption)) | exact .inr (by assumption) | exact .inr (SqT.of (by assumption)))))))
        dsimp only [tCons, tC, tNil]
        have q1 := qq _ (if_pos (by decide +kernel))
        rw [hm] at q1
        exact ⟨_, _, rfl, q1.mono st⟩
      · have hm : moreM "sub" = 0 := by
          unfold moreM
          exact if_neg (by decide +kernel)
        refine ⟨_, rfl, _, _, rfl, .inr hch, rfl, by decide +kernel, ?_⟩
        rw [if_neg Bool.false_ne_true, inV_str]
        refine ⟨_, rfl, ?_⟩
        refine iteF' (by decide +kernel) ?_
        refine ⟨_, rfl, ?_⟩
        refine ⟨by show 2 ≤ sizeLine; decide, fun t ht => ?_⟩
        refine ⟨t, (["add", "addc"] : List Str).map V.str, rfl, .inr (SqT.of upd_same), rfl, by decide +kernel, ?_⟩
        rw [if_neg Bool.false_ne_true, inV_str]
        refine ⟨_, rfl, ?_⟩
        refine iteF' (by decide +kernel) ?_
        have st := same_upd (o := .tup [.str "add", .str "addc"]) ht
        generalize upd H t _ = H1 at st ⊢
        (repeat (first | refine ⟨_, rfl, ?_⟩ | refine ⟨_, _, rfl, rfl, ?_⟩ | refine ⟨rfl, ?_⟩ | refine .inl ⟨_, rfl, ?_⟩ | refine .inr ⟨_, rfl, ?_⟩ | refine ⟨.inr ⟨by decide, by decide⟩, ?_⟩ | refine ⟨⟨by decide, by decide⟩, ?_⟩ | refine ⟨⟨by decide, by decide, by decide⟩, ?_⟩ | refine ⟨.inr ⟨by omega, by omega⟩, ?_⟩ | refine ⟨(by show (0 : Int) < _; first | decide | omega), ?_⟩ | refine ⟨Nat.le_trans (Nat.le_of_ble_eq_true rfl : _ ≤ 50) (by decide), ?_⟩ | refine ⟨_, _, _, _, rfl, rfl, upd_same, rfl, ?_⟩ | refine ⟨_, _, _, _, rfl, rfl, SqL.of upd_same, rfl, ?_⟩ | refine ⟨_, _, _, _, rfl, rfl, SqT.of upd_same, rfl, ?_⟩ | refine ⟨_, _, rfl, .inl (SqL.of upd_same), ?_⟩ | refine ⟨_, _, rfl, .inr (SqT.of upd_same), ?_⟩ | (refine' ⟨_, _, _, _, rfl, rfl, _, _, _⟩; rotate_left 2; (focus (first | assumption | exact SqL.of (by assumption) | exact SqT.of (by assumption) | exact Same.seq (by assumption) (by assumption))); (focus (exact rfl))) | (refine' ⟨_, _, rfl, _, _⟩; rotate_left 1; (focus (first | exact .inl (by assumption) | exact .inl (SqL.of (by assumption)) | exact .inr (by assumption) | exact .inr (SqT.of (by assumption)))))))
        dsimp only [tCons, tC, tNil]
        have q1 := qq _ ((if_neg (by decide +kernel)).trans (if_pos (by decide +kernel)))
        rw [hm] at q1
        exact ⟨_, _, rfl, q1.mono st⟩
      · have hm : moreM "subc" = 1 := by
          unfold moreM
          exact if_pos (by decide +kernel)
        refine ⟨_, rfl, _, _, rfl, .inr hch, rfl, by decide +kernel, ?_⟩
        rw [if_neg Bool.false_ne_true, inV_str]
        refine ⟨_, rfl, ?_⟩
        refine iteT (by decide +kernel) ?_
        refine ⟨_, rfl, ?_⟩
        refine ⟨by show 2 ≤ sizeLine; decide, fun t ht => ?_⟩
        refine ⟨t, (["add", "addc"] : List Str).map V.str, rfl, .inr (SqT.of upd_same), rfl, by decide +kernel, ?_⟩
        rw [if_neg Bool.false_ne_true, inV_str]
        refine ⟨_, rfl, ?_⟩
        refine iteF' (by decide +kernel) ?_
        have st := same_upd (o := .tup [.str "add", .str "addc"]) ht
        generalize upd H t _ = H1 at st ⊢
        (repeat (first | refine ⟨_, rfl, ?_⟩ | refine ⟨_, _, rfl, rfl, ?_⟩ | refine ⟨rfl, ?_⟩ | refine .inl ⟨_, rfl, ?_⟩ | refine .inr ⟨_, rfl, ?_⟩ | refine ⟨.inr ⟨by decide, by decide⟩, ?_⟩ | refine ⟨⟨by decide, by decide⟩, ?_⟩ | refine ⟨⟨by decide, by decide, by decide⟩, ?_⟩ | refine ⟨.inr ⟨by omega, by omega⟩, ?_⟩ | refine ⟨(by show (0 : Int) < _; first | decide | omega), ?_⟩ | refine ⟨Nat.le_trans (Nat.le_of_ble_eq_true rfl : _ ≤ 50) (by decide), ?_⟩ | refine ⟨_, _, _, _, rfl, rfl, upd_same, rfl, ?_⟩ | refine ⟨_, _, _, _, rfl, rfl, SqL.of upd_same, rfl, ?_⟩ | refine ⟨_, _, _, _, rfl, rfl, SqT.of upd_same, rfl, ?_⟩ | refine ⟨_, _, rfl, .inl (SqL.of upd_same), ?_⟩ | refine ⟨_, _, rfl, .inr (SqT.of upd_same), ?_⟩ | (refine' ⟨_, _, _, _, rfl, rfl, _, _, _⟩; rotate_left 2; (focus (first | assumption | exact SqL.of (by assumption) | exact SqT.of (by assumption) | exact Same.seq (by assumption) (by assumption))); (focus (exact rfl))) | (refine' ⟨_, _, rfl, _, _⟩; rotate_left 1; (focus (first | exact .inl (by assumption) | exact .inl (SqL.of (by assumption)) | exact .inr (by assumption) | exact .inr (SqT.of (by assumption)))))))
        dsimp only [tCons, tC, tNil]
        have q1 := qq _ ((if_neg (by decide +kernel)).trans (if_pos (by decide +kernel)))
        rw [hm] at q1
        exact ⟨_, _, rfl, q1.mono st⟩
    · have e : ¬ (n = "add" ∨ n = "addc" ∨ n = "sub" ∨ n = "subc") := fun z => e (decide_eq_true (by simpa using z))
      rw [if_neg (fun z => e (z.elim .inl fun y => .inr (.inl y))), if_neg (fun z => e (z.elim (fun y => .inr (.inr (.inl y))) fun y => .inr (.inr (.inr y))))] at qq
      refine ⟨_, rfl, ?_⟩
      refine ⟨rfl, ?_⟩
      refine ⟨_, rfl, ?_⟩
      refine ite2 (fun e1 => ?_) (fun e1 => ?_)
      · have e1 : n = "mul" := V.str.inj (of_decide_eq_true e1)
        refine ⟨_, rfl, _, rfl, ?_⟩
        refine ⟨_, _, rfl, rfl, .inl ⟨by omega, by omega⟩, ?_⟩
        refine ⟨_, rfl, _, rfl, ?_⟩
        refine ⟨_, _, rfl, rfl, .inl ⟨by omega, by omega⟩, ?_⟩
        exact ⟨_, _, rfl, qq _ (if_pos e1)⟩
      · have e1 : ¬ n = "mul" := fun z => e1 (decide_eq_true (by rw [z]))
        rw [if_neg e1] at qq
        refine ⟨_, rfl, ?_⟩
        refine ⟨rfl, ?_⟩
        refine ⟨_, rfl, ?_⟩
        refine ite2 (fun e2 => ?_) (fun e2 => ?_)
        · have e2 : n = "high" := V.str.inj (of_decide_eq_true e2)
          refine ⟨_, rfl, _, rfl, ?_⟩
          refine ⟨_, _, rfl, rfl, .inl ⟨by omega, by omega⟩, ?_⟩
          refine ⟨_, _, rfl, rfl, ⟨by omega, by omega⟩, ?_⟩
          refine ⟨_, rfl, _, rfl, ?_⟩
          refine ⟨_, _, rfl, rfl, .inl ⟨by omega, by omega⟩, ?_⟩
          refine ⟨_, _, rfl, rfl, ⟨by omega, by omega⟩, ?_⟩
          (repeat (first | refine ⟨_, rfl, ?_⟩ | refine ⟨_, _, rfl, rfl, ?_⟩ | refine ⟨rfl, ?_⟩ | refine .inl ⟨_, rfl, ?_⟩ | refine .inr ⟨_, rfl, ?_⟩ | refine ⟨.inr ⟨by decide, by decide⟩, ?_⟩ | refine ⟨⟨by decide, by decide⟩, ?_⟩ | refine ⟨⟨by decide, by decide, by decide⟩, ?_⟩ | refine ⟨.inr ⟨by omega, by omega⟩, ?_⟩ | refine ⟨(by show (0 : Int) < _; first | decide | omega), ?_⟩ | refine ⟨Nat.le_trans (Nat.le_of_ble_eq_true rfl : _ ≤ 50) (by decide), ?_⟩ | refine ⟨_, _, _, _, rfl, rfl, upd_same, rfl, ?_⟩ | refine ⟨_, _, _, _, rfl, rfl, SqL.of upd_same, rfl, ?_⟩ | refine ⟨_, _, _, _, rfl, rfl, SqT.of upd_same, rfl, ?_⟩ | refine ⟨_, _, rfl, .inl (SqL.of upd_same), ?_⟩ | refine ⟨_, _, rfl, .inr (SqT.of upd_same), ?_⟩ | (refine' ⟨_, _, _, _, rfl, rfl, _, _, _⟩; rotate_left 2; (focus (first | assumption | exact SqL.of (by assumption) | exact SqT.of (by assumption) | exact Same.seq (by assumption) (by assumption))); (focus (exact rfl))) | (refine' ⟨_, _, rfl, _, _⟩; rotate_left 1; (focus (first | exact .inl (by assumption) | exact .inl (SqL.of (by assumption)) | exact .inr (by assumption) | exact .inr (SqT.of (by assumption)))))))
          exact fun u hu => qq _ (if_pos e2) u _ (same_upd hu) hu upd_same
        · have e2 : ¬ n = "high" := fun z => e2 (decide_eq_true (by rw [z]))
          rw [if_neg e2] at qq
          refine ⟨_, rfl, ?_⟩
          refine ⟨rfl, ?_⟩
          refine ⟨_, rfl, ?_⟩
          refine ite2 (fun e3 => ?_) (fun e3 => ?_)
          · have e3 : n = "div" := V.str.inj (of_decide_eq_true e3)
            rw [if_pos e3] at qq
            (repeat (first | refine ⟨_, rfl, ?_⟩ | refine ⟨_, _, rfl, rfl, ?_⟩ | refine ⟨rfl, ?_⟩ | refine .inl ⟨_, rfl, ?_⟩ | refine .inr ⟨_, rfl, ?_⟩ | refine ⟨.inr ⟨by decide, by decide⟩, ?_⟩ | refine ⟨⟨by decide, by decide⟩, ?_⟩ | refine ⟨⟨by decide, by decide, by decide⟩, ?_⟩ | refine ⟨.inr ⟨by omega, by omega⟩, ?_⟩ | refine ⟨(by show (0 : Int) < _; first | decide | omega), ?_⟩ | refine ⟨Nat.le_trans (Nat.le_of_ble_eq_true rfl : _ ≤ 50) (by decide), ?_⟩ | refine ⟨_, _, _, _, rfl, rfl, upd_same, rfl, ?_⟩ | refine ⟨_, _, _, _, rfl, rfl, SqL.of upd_same, rfl, ?_⟩ | refine ⟨_, _, _, _, rfl, rfl, SqT.of upd_same, rfl, ?_⟩ | refine ⟨_, _, rfl, .inl (SqL.of upd_same), ?_⟩ | refine ⟨_, _, rfl, .inr (SqT.of upd_same), ?_⟩ | (refine' ⟨_, _, _, _, rfl, rfl, _, _, _⟩; rotate_left 2; (focus (first | assumption | exact SqL.of (by assumption) | exact SqT.of (by assumption) | exact Same.seq (by assumption) (by assumption))); (focus (exact rfl))) | (refine' ⟨_, _, rfl, _, _⟩; rotate_left 1; (focus (first | exact .inl (by assumption) | exact .inl (SqL.of (by assumption)) | exact .inr (by assumption) | exact .inr (SqT.of (by assumption)))))))
            refine ite2 (fun e4 => ?_) (fun e4 => ?_)
            · have e4 : 1 ≤ g.lo := of_decide_eq_true e4
              (repeat (first | refine ⟨_, rfl, ?_⟩ | refine ⟨_, _, rfl, rfl, ?_⟩ | refine ⟨rfl, ?_⟩ | refine .inl ⟨_, rfl, ?_⟩ | refine .inr ⟨_, rfl, ?_⟩ | refine ⟨.inr ⟨by decide, by decide⟩, ?_⟩ | refine ⟨⟨by decide, by decide⟩, ?_⟩ | refine ⟨⟨by decide, by decide, by decide⟩, ?_⟩ | refine ⟨.inr ⟨by omega, by omega⟩, ?_⟩ | refine ⟨(by show (0 : Int) < _; first | decide | omega), ?_⟩ | refine ⟨Nat.le_trans (Nat.le_of_ble_eq_true rfl : _ ≤ 50) (by decide), ?_⟩ | refine ⟨_, _, _, _, rfl, rfl, upd_same, rfl, ?_⟩ | refine ⟨_, _, _, _, rfl, rfl, SqL.of upd_same, rfl, ?_⟩ | refine ⟨_, _, _, _, rfl, rfl, SqT.of upd_same, rfl, ?_⟩ | refine ⟨_, _, rfl, .inl (SqL.of upd_same), ?_⟩ | refine ⟨_, _, rfl, .inr (SqT.of upd_same), ?_⟩ | (refine' ⟨_, _, _, _, rfl, rfl, _, _, _⟩; rotate_left 2; (focus (first | assumption | exact SqL.of (by assumption) | exact SqT.of (by assumption) | exact Same.seq (by assumption) (by assumption))); (focus (exact rfl))) | (refine' ⟨_, _, rfl, _, _⟩; rotate_left 1; (focus (first | exact .inl (by assumption) | exact .inl (SqL.of (by assumption)) | exact .inr (by assumption) | exact .inr (SqT.of (by assumption)))))))
              refine ⟨⟨by omega, by omega⟩, ?_⟩
              (repeat (first | refine ⟨_, rfl, ?_⟩ | refine ⟨_, _, rfl, rfl, ?_⟩ | refine ⟨rfl, ?_⟩ | refine .inl ⟨_, rfl, ?_⟩ | refine .inr ⟨_, rfl, ?_⟩ | refine ⟨.inr ⟨by decide, by decide⟩, ?_⟩ | refine ⟨⟨by decide, by decide⟩, ?_⟩ | refine ⟨⟨by decide, by decide, by decide⟩, ?_⟩ | refine ⟨.inr ⟨by omega, by omega⟩, ?_⟩ | refine ⟨(by show (0 : Int) < _; first | decide | omega), ?_⟩ | refine ⟨Nat.le_trans (Nat.le_of_ble_eq_true rfl : _ ≤ 50) (by decide), ?_⟩ | refine ⟨_, _, _, _, rfl, rfl, upd_same, rfl, ?_⟩ | refine ⟨_, _, _, _, rfl, rfl, SqL.of upd_same, rfl, ?_⟩ | refine ⟨_, _, _, _, rfl, rfl, SqT.of upd_same, rfl, ?_⟩ | refine ⟨_, _, rfl, .inl (SqL.of upd_same), ?_⟩ | refine ⟨_, _, rfl, .inr (SqT.of upd_same), ?_⟩ | (refine' ⟨_, _, _, _, rfl, rfl, _, _, _⟩; rotate_left 2; (focus (first | assumption | exact SqL.of (by assumption) | exact SqT.of (by assumption) | exact Same.seq (by assumption) (by assumption))); (focus (exact rfl))) | (refine' ⟨_, _, rfl, _, _⟩; rotate_left 1; (focus (first | exact .inl (by assumption) | exact .inl (SqL.of (by assumption)) | exact .inr (by assumption) | exact .inr (SqT.of (by assumption)))))))
              refine ⟨⟨by omega, by omega⟩, ?_⟩
              (repeat (first | refine ⟨_, rfl, ?_⟩ | refine ⟨_, _, rfl, rfl, ?_⟩ | refine ⟨rfl, ?_⟩ | refine .inl ⟨_, rfl, ?_⟩ | refine .inr ⟨_, rfl, ?_⟩ | refine ⟨.inr ⟨by decide, by decide⟩, ?_⟩ | refine ⟨⟨by decide, by decide⟩, ?_⟩ | refine ⟨⟨by decide, by decide, by decide⟩, ?_⟩ | refine ⟨.inr ⟨by omega, by omega⟩, ?_⟩ | refine ⟨(by show (0 : Int) < _; first | decide | omega), ?_⟩ | refine ⟨Nat.le_trans (Nat.le_of_ble_eq_true rfl : _ ≤ 50) (by decide), ?_⟩ | refine ⟨_, _, _, _, rfl, rfl, upd_same, rfl, ?_⟩ | refine ⟨_, _, _, _, rfl, rfl, SqL.of upd_same, rfl, ?_⟩ | refine ⟨_, _, _, _, rfl, rfl, SqT.of upd_same, rfl, ?_⟩ | refine ⟨_, _, rfl, .inl (SqL.of upd_same), ?_⟩ | refine ⟨_, _, rfl, .inr (SqT.of upd_same), ?_⟩ | (refine' ⟨_, _, _, _, rfl, rfl, _, _, _⟩; rotate_left 2; (focus (first | assumption | exact SqL.of (by assumption) | exact SqT.of (by assumption) | exact Same.seq (by assumption) (by assumption))); (focus (exact rfl))) | (refine' ⟨_, _, rfl, _, _⟩; rotate_left 1; (focus (first | exact .inl (by assumption) | exact .inl (SqL.of (by assumption)) | exact .inr (by assumption) | exact .inr (SqT.of (by assumption)))))))
              exact fun u hu => qq _ (if_pos e4) u _ (same_upd hu) hu upd_same
            · have e4 : ¬ 1 ≤ g.lo := fun z => e4 (decide_eq_true z)
              (repeat (first | refine ⟨_, rfl, ?_⟩ | refine ⟨_, _, rfl, rfl, ?_⟩ | refine ⟨rfl, ?_⟩ | refine .inl ⟨_, rfl, ?_⟩ | refine .inr ⟨_, rfl, ?_⟩ | refine ⟨.inr ⟨by decide, by decide⟩, ?_⟩ | refine ⟨⟨by decide, by decide⟩, ?_⟩ | refine ⟨⟨by decide, by decide, by decide⟩, ?_⟩ | refine ⟨.inr ⟨by omega, by omega⟩, ?_⟩ | refine ⟨(by show (0 : Int) < _; first | decide | omega), ?_⟩ | refine ⟨Nat.le_trans (Nat.le_of_ble_eq_true rfl : _ ≤ 50) (by decide), ?_⟩ | refine ⟨_, _, _, _, rfl, rfl, upd_same, rfl, ?_⟩ | refine ⟨_, _, _, _, rfl, rfl, SqL.of upd_same, rfl, ?_⟩ | refine ⟨_, _, _, _, rfl, rfl, SqT.of upd_same, rfl, ?_⟩ | refine ⟨_, _, rfl, .inl (SqL.of upd_same), ?_⟩ | refine ⟨_, _, rfl, .inr (SqT.of upd_same), ?_⟩ | (refine' ⟨_, _, _, _, rfl, rfl, _, _, _⟩; rotate_left 2; (focus (first | assumption | exact SqL.of (by assumption) | exact SqT.of (by assumption) | exact Same.seq (by assumption) (by assumption))); (focus (exact rfl))) | (refine' ⟨_, _, rfl, _, _⟩; rotate_left 1; (focus (first | exact .inl (by assumption) | exact .inl (SqL.of (by assumption)) | exact .inr (by assumption) | exact .inr (SqT.of (by assumption)))))))
              exact fun u hu => qq _ (if_neg e4) u _ (same_upd hu) hu upd_same
          · have e3 : ¬ n = "div" := fun z => e3 (decide_eq_true (by rw [z]))
            rw [if_neg e3] at qq
            refine ⟨_, rfl, _, rfl, _, rfl, ?_⟩
            dsimp only [tCons, tC, tNil]
            refine ⟨n, f.hi, g.hi, rfl, by omega, by omega, by omega, by omega, fun H' st => ?_⟩
            (repeat (first | refine ⟨_, rfl, ?_⟩ | refine ⟨_, _, rfl, rfl, ?_⟩ | refine ⟨rfl, ?_⟩ | refine .inl ⟨_, rfl, ?_⟩ | refine .inr ⟨_, rfl, ?_⟩ | refine ⟨.inr ⟨by decide, by decide⟩, ?_⟩ | refine ⟨⟨by decide, by decide⟩, ?_⟩ | refine ⟨⟨by decide, by decide, by decide⟩, ?_⟩ | refine ⟨.inr ⟨by omega, by omega⟩, ?_⟩ | refine ⟨(by show (0 : Int) < _; first | decide | omega), ?_⟩ | refine ⟨Nat.le_trans (Nat.le_of_ble_eq_true rfl : _ ≤ 50) (by decide), ?_⟩ | refine ⟨_, _, _, _, rfl, rfl, upd_same, rfl, ?_⟩ | refine ⟨_, _, _, _, rfl, rfl, SqL.of upd_same, rfl, ?_⟩ | refine ⟨_, _, _, _, rfl, rfl, SqT.of upd_same, rfl, ?_⟩ | refine ⟨_, _, rfl, .inl (SqL.of upd_same), ?_⟩ | refine ⟨_, _, rfl, .inr (SqT.of upd_same), ?_⟩ | (refine' ⟨_, _, _, _, rfl, rfl, _, _, _⟩; rotate_left 2; (focus (first | assumption | exact SqL.of (by assumption) | exact SqT.of (by assumption) | exact Same.seq (by assumption) (by assumption))); (focus (exact rfl))) | (refine' ⟨_, _, rfl, _, _⟩; rotate_left 1; (focus (first | exact .inl (by assumption) | exact .inl (SqL.of (by assumption)) | exact .inr (by assumption) | exact .inr (SqT.of (by assumption)))))))
            exact fun u hu => qq _ rfl u _ (st.trans (same_upd hu)) (st.free hu) upd_same
theorem ok_cell (T : Tx K mg) : FnOk P w K mg base CX0 1 T.a_cell_of_sum T.d_cell_of_sum ["first", "second"] (spCell K) := by
  refine T.F_cell_of_sum.ok sc_cell_of_sum (fun vs H Q E h => ?_) (fun cdv A outer s H vs Q E hr h => ?_)
  · obtain ⟨r, s, f, g, rfl, _⟩ := h
    rfl
  · obtain ⟨r, s, f, g, rfl, k1, k2, q⟩ := h
    refine ⟨_, (pss_cons (ps_asg (pv 1) (pg_tup rfl (pgs_cons (pg_name (i := 2) sc_cell_of_sum.nd rfl (.inl rfl)) (pgs_cons (pg_name (i := 3) sc_cell_of_sum.nd rfl (.inl rfl)) (pgs_cons (pg_name (i := 4) sc_cell_of_sum.nd rfl (.inl rfl)) (pgs_cons (pg_name (i := 2) sc_cell_of_sum.nd rfl (.inl rfl)) (pgs_cons (pg_name (i := 2) sc_cell_of_sum.nd rfl (.inl rfl)) pgs_nil)))))))
        (pss_cons (ps_asg (pv 0) (pg_tup rfl (pgs_cons (pg_name (i := 2) sc_cell_of_sum.nd rfl (.inl rfl)) (pgs_cons (pg_name (i := 2) sc_cell_of_sum.nd rfl (.inl rfl)) (pgs_cons (pg_name (i := 5) sc_cell_of_sum.nd rfl (.inl rfl)) (pgs_cons (pg_name (i := 6) sc_cell_of_sum.nd rfl (.inl rfl)) (pgs_cons (pg_name (i := 7) sc_cell_of_sum.nd rfl (.inl rfl)) pgs_nil)))))))
        (pss_cons (ps_if (PW.pt (pw_or (pt_cmpR op_eq (pv 6) (pe_un un_neg pe_int) (nomark _)) (pw_or (pt_cmpR op_ne (pv 3) (pv 4) (nomark _)) (pw_or (pt_cmpR op_gt (pe_op op_add (pv 5) (pv 4)) (pe_glob rfl T.g_GREATEST_WORD T.r_GREATEST_WORD) (nomark _)) (pw_or1 (pt_cmpR op_gt (pe_op op_add (pv 7) (pv 3)) (pe_glob rfl T.g_GREATEST_WORD T.r_GREATEST_WORD) (nomark _)))))))
        (pss_one (ps_ret (pe_glob rfl T.g_NO_CELL T.r_NO_CELL)))
        pss_nil)
        (pss_one (ps_ret (pe_tup (pa_cons (pv 6) (pa_cons (pe_op op_add (pv 7) (pv 3)) pa_nil)))))))), ?_⟩
    have qq : ∀ x, cellM f g = x → ∀ u H', Same H H' → SqT K H' u [.int x.1, .int x.2] → Q (.ref u) H' := fun x e => e ▸ q
    unfold cellM at qq
    refine ⟨_, rfl, s, _, rfl, k2, rfl, ?_⟩
    refine ⟨_, _, rfl, _, _, rfl, _, _, rfl, _, _, rfl, _, _, rfl, rfl, ?_⟩
    refine ⟨_, rfl, r, _, rfl, k1, rfl, ?_⟩
    refine ⟨_, _, rfl, _, _, rfl, _, _, rfl, _, _, rfl, _, _, rfl, rfl, ?_⟩
    have qn : ∀ (z : f.cell = -1 ∨ g.lo ≠ g.hi ∨ f.hi + g.hi > 65535 ∨ f.plus + g.lo > 65535), Q (.ref T.c_NO_CELL) H := fun z => qq _ (if_pos z) _ _ (Same.refl H) (nocell (T := T))
    (repeat (first | refine ⟨_, rfl, ?_⟩ | refine ⟨_, _, rfl, rfl, ?_⟩ | refine ⟨rfl, ?_⟩ | refine .inl ⟨_, rfl, ?_⟩ | refine .inr ⟨_, rfl, ?_⟩ | refine ⟨.inr ⟨by decide, by decide⟩, ?_⟩ | refine ⟨⟨by decide, by decide⟩, ?_⟩ | refine ⟨⟨by decide, by decide, by decide⟩, ?_⟩ | refine ⟨.inr ⟨by omega, by omega⟩, ?_⟩ | refine ⟨(by show (0 : Int) < _; first | decide | omega), ?_⟩ | refine ⟨Nat.le_trans (Nat.le_of_ble_eq_true rfl : _ ≤ 50) (by decide), ?_⟩ | refine ⟨_, _, _, _, rfl, rfl, upd_same, rfl, ?_⟩ | refine ⟨_, _, _, _, rfl, rfl, SqL.of upd_same, rfl, ?_⟩ | refine ⟨_, _, _, _, rfl, rfl, SqT.of upd_same, rfl, ?_⟩ | refine ⟨_, _, rfl, .inl (SqL.of upd_same), ?_⟩ | refine ⟨_, _, rfl, .inr (SqT.of upd_same), ?_⟩ | (refine' ⟨_, _, _, _, rfl, rfl, _, _, _⟩; rotate_left 2; (focus (first | assumption | exact SqL.of (by assumption) | exact SqT.of (by assumption) | exact Same.seq (by assumption) (by assumption))); (focus (exact rfl))) | (refine' ⟨_, _, rfl, _, _⟩; rotate_left 1; (focus (first | exact .inl (by assumption) | exact .inl (SqL.of (by assumption)) | exact .inr (by assumption) | exact .inr (SqT.of (by assumption)))))))
    refine ite2 (fun e1 => ?_) (fun e1 => ?_)
    · have e1 : f.cell = -1 := V.int.inj (of_decide_eq_true e1)
      (repeat (first | refine ⟨_, rfl, ?_⟩ | refine ⟨_, _, rfl, rfl, ?_⟩ | refine ⟨rfl, ?_⟩ | refine .inl ⟨_, rfl, ?_⟩ | refine .inr ⟨_, rfl, ?_⟩ | refine ⟨.inr ⟨by decide, by decide⟩, ?_⟩ | refine ⟨⟨by decide, by decide⟩, ?_⟩ | refine ⟨⟨by decide, by decide, by decide⟩, ?_⟩ | refine ⟨.inr ⟨by omega, by omega⟩, ?_⟩ | refine ⟨(by show (0 : Int) < _; first | decide | omega), ?_⟩ | refine ⟨Nat.le_trans (Nat.le_of_ble_eq_true rfl : _ ≤ 50) (by decide), ?_⟩ | refine ⟨_, _, _, _, rfl, rfl, upd_same, rfl, ?_⟩ | refine ⟨_, _, _, _, rfl, rfl, SqL.of upd_same, rfl, ?_⟩ | refine ⟨_, _, _, _, rfl, rfl, SqT.of upd_same, rfl, ?_⟩ | refine ⟨_, _, rfl, .inl (SqL.of upd_same), ?_⟩ | refine ⟨_, _, rfl, .inr (SqT.of upd_same), ?_⟩ | (refine' ⟨_, _, _, _, rfl, rfl, _, _, _⟩; rotate_left 2; (focus (first | assumption | exact SqL.of (by assumption) | exact SqT.of (by assumption) | exact Same.seq (by assumption) (by assumption))); (focus (exact rfl))) | (refine' ⟨_, _, rfl, _, _⟩; rotate_left 1; (focus (first | exact .inl (by assumption) | exact .inl (SqL.of (by assumption)) | exact .inr (by assumption) | exact .inr (SqT.of (by assumption)))))))
      exact qn (.inl e1)
    · have e1 : ¬ f.cell = -1 := fun z => e1 (decide_eq_true (by rw [z]))
      refine ⟨_, rfl, _, rfl, rfl, ?_⟩
      refine ⟨_, rfl, ?_⟩
      refine ite2 (fun e2 => ?_) (fun e2 => ?_)
      · have e2 : ¬ g.lo = g.hi := fun z => by
          rw [z] at e2
          simp at e2
        (repeat (first | refine ⟨_, rfl, ?_⟩ | refine ⟨_, _, rfl, rfl, ?_⟩ | refine ⟨rfl, ?_⟩ | refine .inl ⟨_, rfl, ?_⟩ | refine .inr ⟨_, rfl, ?_⟩ | refine ⟨.inr ⟨by decide, by decide⟩, ?_⟩ | refine ⟨⟨by decide, by decide⟩, ?_⟩ | refine ⟨⟨by decide, by decide, by decide⟩, ?_⟩ | refine ⟨.inr ⟨by omega, by omega⟩, ?_⟩ | refine ⟨(by show (0 : Int) < _; first | decide | omega), ?_⟩ | refine ⟨Nat.le_trans (Nat.le_of_ble_eq_true rfl : _ ≤ 50) (by decide), ?_⟩ | refine ⟨_, _, _, _, rfl, rfl, upd_same, rfl, ?_⟩ | refine ⟨_, _, _, _, rfl, rfl, SqL.of upd_same, rfl, ?_⟩ | refine ⟨_, _, _, _, rfl, rfl, SqT.of upd_same, rfl, ?_⟩ | refine ⟨_, _, rfl, .inl (SqL.of upd_same), ?_⟩ | refine ⟨_, _, rfl, .inr (SqT.of upd_same), ?_⟩ | (refine' ⟨_, _, _, _, rfl, rfl, _, _, _⟩; rotate_left 2; (focus (first | assumption | exact SqL.of (by assumption) | exact SqT.of (by assumption) | exact Same.seq (by assumption) (by assumption))); (focus (exact rfl))) | (refine' ⟨_, _, rfl, _, _⟩; rotate_left 1; (focus (first | exact .inl (by assumption) | exact .inl (SqL.of (by assumption)) | exact .inr (by assumption) | exact .inr (SqT.of (by assumption)))))))
        exact qn (.inr (.inl e2))
      · have e2 : g.lo = g.hi := by
          by_cases z : g.lo = g.hi
          · exact z
          · exact absurd (by simp [z]) e2
        (repeat (first | refine ⟨_, rfl, ?_⟩ | refine ⟨_, _, rfl, rfl, ?_⟩ | refine ⟨rfl, ?_⟩ | refine .inl ⟨_, rfl, ?_⟩ | refine .inr ⟨_, rfl, ?_⟩ | refine ⟨.inr ⟨by decide, by decide⟩, ?_⟩ | refine ⟨⟨by decide, by decide⟩, ?_⟩ | refine ⟨⟨by decide, by decide, by decide⟩, ?_⟩ | refine ⟨.inr ⟨by omega, by omega⟩, ?_⟩ | refine ⟨(by show (0 : Int) < _; first | decide | omega), ?_⟩ | refine ⟨Nat.le_trans (Nat.le_of_ble_eq_true rfl : _ ≤ 50) (by decide), ?_⟩ | refine ⟨_, _, _, _, rfl, rfl, upd_same, rfl, ?_⟩ | refine ⟨_, _, _, _, rfl, rfl, SqL.of upd_same, rfl, ?_⟩ | refine ⟨_, _, _, _, rfl, rfl, SqT.of upd_same, rfl, ?_⟩ | refine ⟨_, _, rfl, .inl (SqL.of upd_same), ?_⟩ | refine ⟨_, _, rfl, .inr (SqT.of upd_same), ?_⟩ | (refine' ⟨_, _, _, _, rfl, rfl, _, _, _⟩; rotate_left 2; (focus (first | assumption | exact SqL.of (by assumption) | exact SqT.of (by assumption) | exact Same.seq (by assumption) (by assumption))); (focus (exact rfl))) | (refine' ⟨_, _, rfl, _, _⟩; rotate_left 1; (focus (first | exact .inl (by assumption) | exact .inl (SqL.of (by assumption)) | exact .inr (by assumption) | exact .inr (SqT.of (by assumption)))))))
        refine ite2 (fun e3 => ?_) (fun e3 => ?_)
        · have e3 : 65535 < f.hi + g.hi := of_decide_eq_true e3
          (repeat (first | refine ⟨_, rfl, ?_⟩ | refine ⟨_, _, rfl, rfl, ?_⟩ | refine ⟨rfl, ?_⟩ | refine .inl ⟨_, rfl, ?_⟩ | refine .inr ⟨_, rfl, ?_⟩ | refine ⟨.inr ⟨by decide, by decide⟩, ?_⟩ | refine ⟨⟨by decide, by decide⟩, ?_⟩ | refine ⟨⟨by decide, by decide, by decide⟩, ?_⟩ | refine ⟨.inr ⟨by omega, by omega⟩, ?_⟩ | refine ⟨(by show (0 : Int) < _; first | decide | omega), ?_⟩ | refine ⟨Nat.le_trans (Nat.le_of_ble_eq_true rfl : _ ≤ 50) (by decide), ?_⟩ | refine ⟨_, _, _, _, rfl, rfl, upd_same, rfl, ?_⟩ | refine ⟨_, _, _, _, rfl, rfl, SqL.of upd_same, rfl, ?_⟩ | refine ⟨_, _, _, _, rfl, rfl, SqT.of upd_same, rfl, ?_⟩ | refine ⟨_, _, rfl, .inl (SqL.of upd_same), ?_⟩ | refine ⟨_, _, rfl, .inr (SqT.of upd_same), ?_⟩ | (refine' ⟨_, _, _, _, rfl, rfl, _, _, _⟩; rotate_left 2; (focus (first | assumption | exact SqL.of (by assumption) | exact SqT.of (by assumption) | exact Same.seq (by assumption) (by assumption))); (focus (exact rfl))) | (refine' ⟨_, _, rfl, _, _⟩; rotate_left 1; (focus (first | exact .inl (by assumption) | exact .inl (SqL.of (by assumption)) | exact .inr (by assumption) | exact .inr (SqT.of (by assumption)))))))
          exact qn (.inr (.inr (.inl e3)))
        · have e3 : ¬ 65535 < f.hi + g.hi := fun z => e3 (decide_eq_true z)
          (repeat (first | refine ⟨_, rfl, ?_⟩ | refine ⟨_, _, rfl, rfl, ?_⟩ | refine ⟨rfl, ?_⟩ | refine .inl ⟨_, rfl, ?_⟩ | refine .inr ⟨_, rfl, ?_⟩ | refine ⟨.inr ⟨by decide, by decide⟩, ?_⟩ | refine ⟨⟨by decide, by decide⟩, ?_⟩ | refine ⟨⟨by decide, by decide, by decide⟩, ?_⟩ | refine ⟨.inr ⟨by omega, by omega⟩, ?_⟩ | refine ⟨(by show (0 : Int) < _; first | decide | omega), ?_⟩ | refine ⟨Nat.le_trans (Nat.le_of_ble_eq_true rfl : _ ≤ 50) (by decide), ?_⟩ | refine ⟨_, _, _, _, rfl, rfl, upd_same, rfl, ?_⟩ | refine ⟨_, _, _, _, rfl, rfl, SqL.of upd_same, rfl, ?_⟩ | refine ⟨_, _, _, _, rfl, rfl, SqT.of upd_same, rfl, ?_⟩ | refine ⟨_, _, rfl, .inl (SqL.of upd_same), ?_⟩ | refine ⟨_, _, rfl, .inr (SqT.of upd_same), ?_⟩ | (refine' ⟨_, _, _, _, rfl, rfl, _, _, _⟩; rotate_left 2; (focus (first | assumption | exact SqL.of (by assumption) | exact SqT.of (by assumption) | exact Same.seq (by assumption) (by assumption))); (focus (exact rfl))) | (refine' ⟨_, _, rfl, _, _⟩; rotate_left 1; (focus (first | exact .inl (by assumption) | exact .inl (SqL.of (by assumption)) | exact .inr (by assumption) | exact .inr (SqT.of (by assumption)))))))
          refine ite2 (fun e4 => ?_) (fun e4 => ?_)
          · have e4 : 65535 < f.plus + g.lo := of_decide_eq_true e4
            (repeat (first | refine ⟨_, rfl, ?_⟩ | refine ⟨_, _, rfl, rfl, ?_⟩ | refine ⟨rfl, ?_⟩ | refine .inl ⟨_, rfl, ?_⟩ | refine .inr ⟨_, rfl, ?_⟩ | refine ⟨.inr ⟨by decide, by decide⟩, ?_⟩ | refine ⟨⟨by decide, by decide⟩, ?_⟩ | refine ⟨⟨by decide, by decide, by decide⟩, ?_⟩ | refine ⟨.inr ⟨by omega, by omega⟩, ?_⟩ | refine ⟨(by show (0 : Int) < _; first | decide | omega), ?_⟩ | refine ⟨Nat.le_trans (Nat.le_of_ble_eq_true rfl : _ ≤ 50) (by decide), ?_⟩ | refine ⟨_, _, _, _, rfl, rfl, upd_same, rfl, ?_⟩ | refine ⟨_, _, _, _, rfl, rfl, SqL.of upd_same, rfl, ?_⟩ | refine ⟨_, _, _, _, rfl, rfl, SqT.of upd_same, rfl, ?_⟩ | refine ⟨_, _, rfl, .inl (SqL.of upd_same), ?_⟩ | refine ⟨_, _, rfl, .inr (SqT.of upd_same), ?_⟩ | (refine' ⟨_, _, _, _, rfl, rfl, _, _, _⟩; rotate_left 2; (focus (first | assumption | exact SqL.of (by assumption) | exact SqT.of (by assumption) | exact Same.seq (by assumption) (by assumption))); (focus (exact rfl))) | (refine' ⟨_, _, rfl, _, _⟩; rotate_left 1; (focus (first | exact .inl (by assumption) | exact .inl (SqL.of (by assumption)) | exact .inr (by assumption) | exact .inr (SqT.of (by assumption)))))))
            exact qn (.inr (.inr (.inr e4)))
          · have e4 : ¬ 65535 < f.plus + g.lo := fun z => e4 (decide_eq_true z)
            (repeat (first | refine ⟨_, rfl, ?_⟩ | refine ⟨_, _, rfl, rfl, ?_⟩ | refine ⟨rfl, ?_⟩ | refine .inl ⟨_, rfl, ?_⟩ | refine .inr ⟨_, rfl, ?_⟩ | refine ⟨.inr ⟨by decide, by decide⟩, ?_⟩ | refine ⟨⟨by decide, by decide⟩, ?_⟩ | refine ⟨⟨by decide, by decide, by decide⟩, ?_⟩ | refine ⟨.inr ⟨by omega, by omega⟩, ?_⟩ | refine ⟨(by show (0 : Int) < _; first | decide | omega), ?_⟩ | refine ⟨Nat.le_trans (Nat.le_of_ble_eq_true rfl : _ ≤ 50) (by decide), ?_⟩ | refine ⟨_, _, _, _, rfl, rfl, upd_same, rfl, ?_⟩ | refine ⟨_, _, _, _, rfl, rfl, SqL.of upd_same, rfl, ?_⟩ | refine ⟨_, _, _, _, rfl, rfl, SqT.of upd_same, rfl, ?_⟩ | refine ⟨_, _, rfl, .inl (SqL.of upd_same), ?_⟩ | refine ⟨_, _, rfl, .inr (SqT.of upd_same), ?_⟩ | (refine' ⟨_, _, _, _, rfl, rfl, _, _, _⟩; rotate_left 2; (focus (first | assumption | exact SqL.of (by assumption) | exact SqT.of (by assumption) | exact Same.seq (by assumption) (by assumption))); (focus (exact rfl))) | (refine' ⟨_, _, rfl, _, _⟩; rotate_left 1; (focus (first | exact .inl (by assumption) | exact .inl (SqL.of (by assumption)) | exact .inr (by assumption) | exact .inr (SqT.of (by assumption)))))))
            exact fun u hu => qq _ (if_neg (fun z => z.elim e1 fun z => z.elim (fun z => z e2) fun z => z.elim e3 e4)) u _ (same_upd hu) (SqT.of upd_same)
theorem ok_ld (T : Tx K mg) : FnOk P w K mg base CX0 4 T.a_loaded_fact T.d_loaded_fact ["layout", "least", "greatest"] (spLd K) := by
  have G_safe_region : FnOk P w K mg base CX0 3 T.a_safe_region T.d_safe_region ["layout", "least", "greatest"] (spSafe K) := ok_safe T
  refine T.F_loaded_fact.ok sc_loaded_fact (fun vs H Q E h => ?_) (fun cdv A outer s H vs Q E hr h => ?_)
  · obtain ⟨L, a, gs, lo, hi, rfl, _⟩ := h
    rfl
  · obtain ⟨L, a, gs, lo, hi, rfl, hL, hS, ok, q⟩ := h
    have hr_safe_region : Room 3 _ := hr
    refine ⟨_, (pss_cons (ps_set (i := 3) sc_loaded_fact.nd rfl (.inl rfl) (pe_call G_safe_region hr_safe_region (by rfl) T.g_safe_region T.F_safe_region.kp T.b_safe_region .nil pass0 (pa_cons (pv 0) (pa_cons (pv 1) (pa_cons (pv 2) pa_nil)))))
        (pss_cons (ps_if (pt_cmpR op_isN (pv 3) pe_non (nomark _))
        (pss_one (ps_ret (pe_tup (pa_cons pe_str (pa_cons pe_int (pa_cons (pe_glob rfl T.g_GREATEST_WORD T.r_GREATEST_WORD) (StX.pa_star (pe_glob rfl T.g_NO_CELL T.r_NO_CELL) pa_nil)))))))
        pss_nil)
        (pss_cons (ps_asg (pv 3) (pg_tup rfl (pgs_cons (pg_name (i := 4) sc_loaded_fact.nd rfl (.inl rfl)) (pgs_cons (pg_name (i := 4) sc_loaded_fact.nd rfl (.inl rfl)) (pgs_cons (pg_name (i := 5) sc_loaded_fact.nd rfl (.inl rfl)) (pgs_cons (pg_name (i := 6) sc_loaded_fact.nd rfl (.inl rfl)) pgs_nil))))))
        (pss_cons (ps_if (pt_cmpR op_eq (pv 1) (pv 2) (nomark _))
        (pss_one (ps_ret (pe_tup (pa_cons (pv 5) (pa_cons pe_int (pa_cons (pv 6) (pa_cons (pv 1) (pa_cons pe_int pa_nil))))))))
        pss_nil)
        (pss_one (ps_ret (pe_tup (pa_cons (pv 5) (pa_cons pe_int (pa_cons (pv 6) (StX.pa_star (pe_glob rfl T.g_NO_CELL T.r_NO_CELL) pa_nil))))))))))), ?_⟩
    have kn : SqT K H T.c_NO_CELL [.int (-1), .int 0] := nocell (T := T)
    refine ⟨_, rfl, _, rfl, _, rfl, ?_⟩
    dsimp only [tCons, tC, tNil]
    refine ⟨L, a, gs, lo, hi, rfl, hL, hS, ok, fun hn => ?_, fun r g hg kr => ?_⟩
    · refine ⟨_, rfl, ?_⟩
      refine ⟨rfl, ?_⟩
      refine ⟨_, rfl, ?_⟩
      refine iteT (by decide) ?_
      refine ⟨_, _, rfl, .inl kn, ?_⟩
      refine ⟨by show 5 ≤ sizeLine; decide, fun u hu => ?_⟩
      exact q u _ _ (.inl ⟨hn, rfl⟩) (same_upd hu) hu upd_same
    · refine ⟨_, rfl, ?_⟩
      refine ⟨rfl, ?_⟩
      refine ⟨_, rfl, ?_⟩
      refine iteF' (decide_eq_false (fun e => by cases e)) ?_
      refine ⟨_, rfl, r, _, rfl, kr, rfl, ?_⟩
      refine ⟨_, _, rfl, _, _, rfl, _, _, rfl, _, _, rfl, rfl, ?_⟩
      (repeat (first | refine ⟨_, rfl, ?_⟩ | refine ⟨_, _, rfl, rfl, ?_⟩ | refine ⟨rfl, ?_⟩ | refine .inl ⟨_, rfl, ?_⟩ | refine .inr ⟨_, rfl, ?_⟩ | refine ⟨.inr ⟨by decide, by decide⟩, ?_⟩ | refine ⟨⟨by decide, by decide⟩, ?_⟩ | refine ⟨⟨by decide, by decide, by decide⟩, ?_⟩ | refine ⟨.inr ⟨by omega, by omega⟩, ?_⟩ | refine ⟨(by show (0 : Int) < _; first | decide | omega), ?_⟩ | refine ⟨Nat.le_trans (Nat.le_of_ble_eq_true rfl : _ ≤ 50) (by decide), ?_⟩ | refine ⟨_, _, _, _, rfl, rfl, upd_same, rfl, ?_⟩ | refine ⟨_, _, _, _, rfl, rfl, SqL.of upd_same, rfl, ?_⟩ | refine ⟨_, _, _, _, rfl, rfl, SqT.of upd_same, rfl, ?_⟩ | refine ⟨_, _, rfl, .inl (SqL.of upd_same), ?_⟩ | refine ⟨_, _, rfl, .inr (SqT.of upd_same), ?_⟩ | (refine' ⟨_, _, _, _, rfl, rfl, _, _, _⟩; rotate_left 2; (focus (first | assumption | exact SqL.of (by assumption) | exact SqT.of (by assumption) | exact Same.seq (by assumption) (by assumption))); (focus (exact rfl))) | (refine' ⟨_, _, rfl, _, _⟩; rotate_left 1; (focus (first | exact .inl (by assumption) | exact .inl (SqL.of (by assumption)) | exact .inr (by assumption) | exact .inr (SqT.of (by assumption)))))))
      refine ite2 (fun e => ?_) (fun e => ?_)
      · have e : lo = hi := V.int.inj (of_decide_eq_true e)
        (repeat (first | refine ⟨_, rfl, ?_⟩ | refine ⟨_, _, rfl, rfl, ?_⟩ | refine ⟨rfl, ?_⟩ | refine .inl ⟨_, rfl, ?_⟩ | refine .inr ⟨_, rfl, ?_⟩ | refine ⟨.inr ⟨by decide, by decide⟩, ?_⟩ | refine ⟨⟨by decide, by decide⟩, ?_⟩ | refine ⟨⟨by decide, by decide, by decide⟩, ?_⟩ | refine ⟨.inr ⟨by omega, by omega⟩, ?_⟩ | refine ⟨(by show (0 : Int) < _; first | decide | omega), ?_⟩ | refine ⟨Nat.le_trans (Nat.le_of_ble_eq_true rfl : _ ≤ 50) (by decide), ?_⟩ | refine ⟨_, _, _, _, rfl, rfl, upd_same, rfl, ?_⟩ | refine ⟨_, _, _, _, rfl, rfl, SqL.of upd_same, rfl, ?_⟩ | refine ⟨_, _, _, _, rfl, rfl, SqT.of upd_same, rfl, ?_⟩ | refine ⟨_, _, rfl, .inl (SqL.of upd_same), ?_⟩ | refine ⟨_, _, rfl, .inr (SqT.of upd_same), ?_⟩ | (refine' ⟨_, _, _, _, rfl, rfl, _, _, _⟩; rotate_left 2; (focus (first | assumption | exact SqL.of (by assumption) | exact SqT.of (by assumption) | exact Same.seq (by assumption) (by assumption))); (focus (exact rfl))) | (refine' ⟨_, _, rfl, _, _⟩; rotate_left 1; (focus (first | exact .inl (by assumption) | exact .inl (SqL.of (by assumption)) | exact .inr (by assumption) | exact .inr (SqT.of (by assumption)))))))
        exact fun u hu => q u _ _ (.inr ⟨g, hg, (if_pos e).symm⟩) (same_upd hu) hu upd_same
      · have e : ¬ lo = hi := fun z => e (decide_eq_true (by rw [z]))
        refine ⟨_, rfl, _, rfl, _, _, rfl, .inl kn, ?_⟩
        refine ⟨by show 5 ≤ sizeLine; decide, fun u hu => ?_⟩
        exact q u _ _ (.inr ⟨g, hg, (if_neg e).symm⟩) (same_upd hu) hu upd_same
end
end K70

set_option Elab.async false
set_option linter.all false
set_option maxRecDepth 100000
set_option maxHeartbeats 4000000
namespace K70
open PySem PySem.Spec PyProof.Rows L2 Lw GxR WD
/-! ### result_fact, next_state -/
section
variable {P : Program} {w : World} {K : PySem.W.Frag} {mg : Str → Option Value} {base : Heap} {P1 P2 : Addr}
theorem ok_res (T : Tx K mg) : FnOk P w K mg base CX0 5 T.a_result_fact T.d_result_fact ["layout", "state", "instruction"] (spRes K P1 P2) := by
  have G_addresses : FnOk P w K mg base CX0 1 T.a_addresses T.d_addresses ["state", "instruction"] (spAddrs K) := ok_addrs T
  have G_loaded_fact : FnOk P w K mg base CX0 4 T.a_loaded_fact T.d_loaded_fact ["layout", "least", "greatest"] (spLd K) := ok_ld T
  have G_shifted : FnOk P w K mg base CX0 2 T.a_shifted T.d_shifted ["name", "least", "greatest", "count"] spSh := ok_sh T
  have G_operated : FnOk P w K mg base CX0 3 T.a_operated T.d_operated ["name", "first", "second"] (spOp K) := ok_op T
  have G_cell_of_sum : FnOk P w K mg base CX0 1 T.a_cell_of_sum T.d_cell_of_sum ["first", "second"] (spCell K) := ok_cell T
  have G_joined_flow : FnOk P w K mg base CX0 1 T.a_joined_flow T.d_joined_flow ["flows"] (spJoin K) := ok_join T
  refine T.F_result_fact.ok sc_result_fact (fun vs H Q E h => ?_) (fun cdv A outer s H vs Q E hr h => ?_)
  · obtain ⟨H0, L, la, a, ia, gs, fs, c, i, rfl, _⟩ := h
    rfl
  · obtain ⟨H0, L, la, a, ia, gs, fs, c, i, rfl, o, hl, ok, hS, hok, hI, hi, hg, q⟩ := h
    have hr_addresses : Room 1 _ := hr.mono (by decide)
    have hr_loaded_fact : Room 4 _ := hr
    have hr_shifted : Room 2 _ := hr.mono (by decide)
    have hr_operated : Room 3 _ := hr.mono (by decide)
    have hr_cell_of_sum : Room 1 _ := hr.mono (by decide)
    have hr_joined_flow : Room 1 _ := hr.mono (by decide)
    refine ⟨_, (pss_cons (ps_set (i := 3) sc_result_fact.nd rfl (.inl rfl) (pe_ix ix_tup (pv 2) pe_int (fun _ _ => rfl)))
        (pss_cons (ps_if (pt_cmpR op_eq (pv 3) pe_str (nomark _))
        (pss_cons (ps_set (i := 4) sc_result_fact.nd rfl (.inl rfl) (pe_ix ix_tup (pv 2) pe_int (fun _ _ => rfl)))
        (pss_one (ps_ret (pe_tup (pa_cons pe_str (pa_cons (pv 4) (pa_cons (pv 4) (StX.pa_star (pe_glob rfl T.g_NO_CELL T.r_NO_CELL) pa_nil))))))))
        pss_nil)
        (pss_cons (ps_if (pt_cmpR op_eq (pv 3) pe_str (nomark _))
        (pss_one (ps_ret (pe_tup (pa_cons (pe_ix ix_tup (pv 1) (pe_glob rfl T.g_CARRY T.r_CARRY) (fun _ _ => rfl)) (pa_cons pe_int (pa_cons pe_int (StX.pa_star (pe_glob rfl T.g_NO_CELL T.r_NO_CELL) pa_nil)))))))
        pss_nil)
        (pss_cons (ps_if (pt_cmpR op_eq (pv 3) pe_str (nomark _))
        (pss_cons (ps_asg (pe_call G_addresses hr_addresses (by rfl) T.g_addresses T.F_addresses.kp T.b_addresses .nil pass0 (pa_cons (pv 1) (pa_cons (pv 2) pa_nil))) (pg_tup rfl (pgs_cons (pg_name (i := 5) sc_result_fact.nd rfl (.inl rfl)) (pgs_cons (pg_name (i := 6) sc_result_fact.nd rfl (.inl rfl)) pgs_nil))))
        (pss_one (ps_ret (pe_call G_loaded_fact hr_loaded_fact (by rfl) T.g_loaded_fact T.F_loaded_fact.kp T.b_loaded_fact .nil pass0 (pa_cons (pv 0) (pa_cons (pv 5) (pa_cons (pv 6) pa_nil)))))))
        pss_nil)
        (pss_cons (ps_set (i := 7) sc_result_fact.nd rfl (.inl rfl) (pe_ix ix_tup (pv 1) (pe_ix ix_tup (pv 2) pe_int (fun _ _ => rfl)) (fun _ _ => rfl)))
        (pss_cons (ps_if (pt_cmpR op_eq (pv 3) pe_str (nomark _))
        (pss_one (ps_ret (pv 7)))
        pss_nil)
        (pss_cons (ps_if (pt_cmpR op_in_seq (pv 3) (pe_glob rfl T.g_SHIFTS T.r_SHIFTS) (by rfl))
        (pss_cons (ps_asg (pe_call G_shifted hr_shifted (by rfl) T.g_shifted T.F_shifted.kp T.b_shifted .nil pass0 (pa_cons (pv 3) (pa_cons (pe_ix ix_tup (pv 7) pe_int (fun _ _ => rfl)) (pa_cons (pe_ix ix_tup (pv 7) pe_int (fun _ _ => rfl)) (pa_cons (pe_ix ix_tup (pv 2) pe_int (fun _ _ => rfl)) pa_nil))))) (pg_tup rfl (pgs_cons (pg_name (i := 5) sc_result_fact.nd rfl (.inl rfl)) (pgs_cons (pg_name (i := 6) sc_result_fact.nd rfl (.inl rfl)) pgs_nil))))
        (pss_one (ps_ret (pe_tup (pa_cons (pe_ix ix_tup (pv 7) pe_int (fun _ _ => rfl)) (pa_cons (pv 5) (pa_cons (pv 6) (StX.pa_star (pe_glob rfl T.g_NO_CELL T.r_NO_CELL) pa_nil))))))))
        pss_nil)
        (pss_cons (ps_set (i := 8) sc_result_fact.nd rfl (.inl rfl) (pe_ix ix_tup (pv 1) (pe_ix ix_tup (pv 2) pe_int (fun _ _ => rfl)) (fun _ _ => rfl)))
        (pss_cons (ps_set (i := 9) sc_result_fact.nd rfl (.inl rfl) (pe_lst (pa_cons (pe_ix ix_tup (pv 7) pe_int (fun _ _ => rfl)) (pa_cons (pe_ix ix_tup (pv 8) pe_int (fun _ _ => rfl)) pa_nil))))
        (C8.pss_cut (ps_if (pt_cmpR op_in_seq (pv 3) (pe_glob rfl T.g_CHAINED T.r_CHAINED) (by rfl))
        (pss_one (ps_expr (pe_bm PySem.F.plainAttrs_list PySem.F.slot_list_append PySem.F.type_list_append mt_append (pv 9) (pa_cons (pe_ix ix_tup (pv 1) (pe_glob rfl T.g_CARRY T.r_CARRY) (fun _ _ => rfl)) pa_nil))))
        pss_nil)
        (pss_cons (ps_asg (pe_call G_operated hr_operated (by rfl) T.g_operated T.F_operated.kp T.b_operated .nil pass0 (pa_cons (pv 3) (pa_cons (pv 7) (pa_cons (pv 8) pa_nil)))) (pg_tup rfl (pgs_cons (pg_name (i := 5) sc_result_fact.nd rfl (.inl rfl)) (pgs_cons (pg_name (i := 6) sc_result_fact.nd rfl (.inl rfl)) pgs_nil))))
        (pss_cons (ps_set (i := 10) sc_result_fact.nd rfl (.inl rfl) (pe_ifExp (pt_cmpR op_eq (pv 3) pe_str (nomark _)) (pe_call G_cell_of_sum hr_cell_of_sum (by rfl) T.g_cell_of_sum T.F_cell_of_sum.kp T.b_cell_of_sum .nil pass0 (pa_cons (pv 7) (pa_cons (pv 8) pa_nil))) (pe_glob rfl T.g_NO_CELL T.r_NO_CELL)))
        (pss_one (ps_ret (pe_tup (pa_cons (pe_call G_joined_flow hr_joined_flow (by rfl) T.g_joined_flow T.F_joined_flow.kp T.b_joined_flow .nil pass0 (pa_cons (pv 9) pa_nil)) (pa_cons (pv 5) (pa_cons (pv 6) (StX.pa_star (pv 10) pa_nil))))))))))))))))))), ?_⟩
    obtain ⟨xs, x1, x2, x3, x4⟩ := hS.at_
    have hL : ∀ q ∈ L, H q.1 = some q.2 := fun q hq => o.mem hq
    have k1 := x1.sq hL
    have kI := hI.sq hL
    have kn : ∀ H', SqT K H' T.c_NO_CELL [.int (-1), .int 0] := fun H' => nocell (T := T)
    have k16 : atI xs 16 = some (.str (fl c)) := atI_nat (j := 16) x3
    have fin : ∀ u f H', Same H H' → H u = none → H' u = some (.tup (Fa.row f)) → resZ gs fs c i f → Q (.ref u) H' := fun u f H' s n e z => q u f _ H' (suf [_] L) (o.push n s e) (.inl (List.mem_cons_self ..)) z
    have hfl : fs.length = 16 := hS.choose_spec.2.2
    have get : ∀ s, rg s → ∃ f r, fs[s.toNat]? = some f ∧ atI xs s = some (.ref r) ∧ TupAt K L r (Fa.row f) ∧ okR f := fun s hs => by
      obtain ⟨j, rfl⟩ := Int.eq_ofNat_of_zero_le hs.1
      have hj : j < fs.length := by
        have := hs.2
        omega
      have hf := List.getElem?_eq_getElem hj
      obtain ⟨r, hr, ht⟩ := x2 j _ hf
      exact ⟨_, r, hf, atI_nat hr, ht, hok _ (List.getElem_mem hj)⟩
    have hsh : ∀ H', SqT K H' T.c_SHIFTS ([.str "down", .str "up"]) := fun H' => KDx.tupB_ok (H := H') T.kitsh (by decide)
    have hch : ∀ H', SqT K H' T.c_CHAINED ([.str "addc", .str "subc"]) := fun H' => KDx.tupB_ok (H := H') T.kitch (by decide)
    cases i with
    | set r w =>
      refine ⟨_, rfl, ia, _, _, _, rfl, rfl, kI, at0 _ _, ?_⟩
      refine ⟨_, rfl, ?_⟩
      refine ⟨rfl, ?_⟩
      refine ⟨_, rfl, ?_⟩
      refine iteT (by decide +kernel) ?_
      refine ⟨_, rfl, ia, _, _, _, rfl, rfl, kI, atI_nat (j := 2) rfl, ?_⟩
      refine ⟨_, rfl, _, rfl, _, _, rfl, .inl (kn _), ?_⟩
      refine ⟨by show 5 ≤ sizeLine; decide, fun u hu => ?_⟩
      exact fin u _ _ (same_upd hu) hu upd_same rfl
    | move r s =>
      obtain ⟨f, rr, hf, hat, ht, ho⟩ := get s hi.2
      refine ⟨_, rfl, ia, _, _, _, rfl, rfl, kI, at0 _ _, ?_⟩
      refine ⟨_, rfl, ?_⟩
      refine ⟨rfl, ?_⟩
      refine ⟨_, rfl, ?_⟩
      refine iteF' (by decide +kernel) ?_
      refine ⟨_, rfl, ?_⟩
      refine ⟨rfl, ?_⟩
      refine ⟨_, rfl, ?_⟩
      refine iteF' (by decide +kernel) ?_
      refine ⟨_, rfl, ?_⟩
      refine ⟨rfl, ?_⟩
      refine ⟨_, rfl, ?_⟩
      refine iteF' (by decide +kernel) ?_
      have kf := ht.sq hL
      refine ⟨_, rfl, _, rfl, ia, _, _, _, rfl, rfl, kI, atI_nat (j := 2) rfl, a, _, _, _, rfl, rfl, k1, hat, ?_⟩
      refine ⟨_, rfl, ?_⟩
      refine ⟨rfl, ?_⟩
      refine ⟨_, rfl, ?_⟩
      refine iteT (by decide +kernel) ?_
      exact ⟨_, rfl, q rr f L H (suf [] L) o ht hf⟩
    | carry r =>
      refine ⟨_, rfl, ia, _, _, _, rfl, rfl, kI, at0 _ _, ?_⟩
      refine ⟨_, rfl, ?_⟩
      refine ⟨rfl, ?_⟩
      refine ⟨_, rfl, ?_⟩
      refine iteF' (by decide +kernel) ?_
      refine ⟨_, rfl, ?_⟩
      refine ⟨rfl, ?_⟩
      refine ⟨_, rfl, ?_⟩
      refine iteT (by decide +kernel) ?_
      refine ⟨_, rfl, a, _, _, _, rfl, rfl, k1, k16, ?_⟩
      refine ⟨_, _, rfl, .inl (kn _), ?_⟩
      refine ⟨by show 5 ≤ sizeLine; decide, fun u hu => ?_⟩
      exact fin u _ _ (same_upd hu) hu upd_same rfl
    | load r s d =>
      obtain ⟨f, rr, hf, hat, ht, ho⟩ := get s hi.2
      refine ⟨_, rfl, ia, _, _, _, rfl, rfl, kI, at0 _ _, ?_⟩
      refine ⟨_, rfl, ?_⟩
      refine ⟨rfl, ?_⟩
      refine ⟨_, rfl, ?_⟩
      refine iteF' (by decide +kernel) ?_
      refine ⟨_, rfl, ?_⟩
      refine ⟨rfl, ?_⟩
      refine ⟨_, rfl, ?_⟩
      refine iteF' (by decide +kernel) ?_
      refine ⟨_, rfl, ?_⟩
      refine ⟨rfl, ?_⟩
      refine ⟨_, rfl, ?_⟩
      refine iteT (by decide +kernel) ?_
      refine ⟨_, rfl, _, rfl, ?_⟩
      dsimp only [tCons, tC, tNil]
      refine ⟨L, a, fs, c, ia, "load", r, s, d, f, rfl, hL, hS, kI, hi.2.1, hf, fun p H1 s1 n1 e1 => ?_⟩
      refine ⟨p, _, rfl, SqT.of e1, rfl, ?_⟩
      refine ⟨_, _, rfl, _, _, rfl, rfl, ?_⟩
      refine ⟨_, rfl, _, rfl, _, rfl, ?_⟩
      dsimp only [tCons, tC, tNil]
      have o1 := o.push n1 s1 e1
      refine ⟨L, la, gs, _, _, rfl, fun q hq => o1.mem (List.mem_cons_of_mem _ hq), hl, ok, fun u f2 H2 hz s2 n2 e2 => ?_⟩
      exact fin u f2 H2 (s1.trans s2) (s1.free n2) e2 ⟨f, hf, hz⟩
    | sh n r s k =>
      obtain ⟨hn, hr0, hs0, hk⟩ := hi
      obtain ⟨f, rr, hf, hat, ht, ho⟩ := get s hs0
      obtain ⟨ho1, ho2, ho3⟩ := ho
      have ho : 0 ≤ f.lo ∧ f.lo ≤ f.hi ∧ f.hi ≤ 65535 := ⟨ho1, ho2, ho3⟩
      have hk2 := hk.2
      rcases hn with rfl | rfl
      · refine ⟨_, rfl, ia, _, _, _, rfl, rfl, kI, at0 _ _, ?_⟩
        refine ⟨_, rfl, ?_⟩
        refine ⟨rfl, ?_⟩
        refine ⟨_, rfl, ?_⟩
        refine iteF' (by decide +kernel) ?_
        refine ⟨_, rfl, ?_⟩
        refine ⟨rfl, ?_⟩
        refine ⟨_, rfl, ?_⟩
        refine iteF' (by decide +kernel) ?_
        refine ⟨_, rfl, ?_⟩
        refine ⟨rfl, ?_⟩
        refine ⟨_, rfl, ?_⟩
        refine iteF' (by decide +kernel) ?_
        have kf := ht.sq hL
        refine ⟨_, rfl, _, rfl, ia, _, _, _, rfl, rfl, kI, atI_nat (j := 2) rfl, a, _, _, _, rfl, rfl, k1, hat, ?_⟩
        refine ⟨_, rfl, ?_⟩
        refine ⟨rfl, ?_⟩
        refine ⟨_, rfl, ?_⟩
        refine iteF' (by decide +kernel) ?_
        refine ⟨_, rfl, _, _, rfl, .inr (hsh _), rfl, by decide +kernel, ?_⟩
        rw [if_neg Bool.false_ne_true]
        refine ⟨_, rfl, ?_⟩
        refine iteT (by decide +kernel) ?_
        refine ⟨_, rfl, _, rfl, rr, _, _, _, rfl, rfl, kf, atI_nat (j := 1) rfl, _, rfl, rr, _, _, _, rfl, rfl, kf, atI_nat (j := 2) rfl, _, rfl, ia, _, _, _, rfl, rfl, kI, atI_nat (j := 3) rfl, ?_⟩
        dsimp only [tCons, tC, tNil]
        refine ⟨"down", f.lo, f.hi, k, rfl, ho.1, by omega, by omega, ho.2.2, hk.1, by omega, fun p H1 s1 n1 e1 => ?_⟩
        refine ⟨p, _, rfl, SqT.of e1, rfl, ?_⟩
        refine ⟨_, _, rfl, _, _, rfl, rfl, ?_⟩
        have o1 := o.push n1 s1 e1
        have kf1 : SqT K H1 rr (Fa.row f) := ht.sq fun q hq => o1.mem (List.mem_cons_of_mem _ hq)
        refine ⟨_, rfl, rr, _, _, _, rfl, rfl, kf1, at0 _ _, ?_⟩
        refine ⟨_, rfl, _, rfl, _, _, rfl, .inl (kn _), ?_⟩
        refine ⟨by show 5 ≤ sizeLine; decide, fun u hu => ?_⟩
        exact fin u _ _ (s1.trans (same_upd hu)) (s1.free hu) upd_same ⟨f, hf, rfl⟩
      · refine ⟨_, rfl, ia, _, _, _, rfl, rfl, kI, at0 _ _, ?_⟩
        refine ⟨_, rfl, ?_⟩
        refine ⟨rfl, ?_⟩
        refine ⟨_, rfl, ?_⟩
        refine iteF' (by decide +kernel) ?_
        refine ⟨_, rfl, ?_⟩
        refine ⟨rfl, ?_⟩
        refine ⟨_, rfl, ?_⟩
        refine iteF' (by decide +kernel) ?_
        refine ⟨_, rfl, ?_⟩
        refine ⟨rfl, ?_⟩
        refine ⟨_, rfl, ?_⟩
        refine iteF' (by decide +kernel) ?_
        have kf := ht.sq hL
        refine ⟨_, rfl, _, rfl, ia, _, _, _, rfl, rfl, kI, atI_nat (j := 2) rfl, a, _, _, _, rfl, rfl, k1, hat, ?_⟩
        refine ⟨_, rfl, ?_⟩
        refine ⟨rfl, ?_⟩
        refine ⟨_, rfl, ?_⟩
        refine iteF' (by decide +kernel) ?_
        refine ⟨_, rfl, _, _, rfl, .inr (hsh _), rfl, by decide +kernel, ?_⟩
        rw [if_neg Bool.false_ne_true]
        refine ⟨_, rfl, ?_⟩
        refine iteT (by decide +kernel) ?_
        refine ⟨_, rfl, _, rfl, rr, _, _, _, rfl, rfl, kf, atI_nat (j := 1) rfl, _, rfl, rr, _, _, _, rfl, rfl, kf, atI_nat (j := 2) rfl, _, rfl, ia, _, _, _, rfl, rfl, kI, atI_nat (j := 3) rfl, ?_⟩
        dsimp only [tCons, tC, tNil]
        refine ⟨"up", f.lo, f.hi, k, rfl, ho.1, by omega, by omega, ho.2.2, hk.1, by omega, fun p H1 s1 n1 e1 => ?_⟩
        refine ⟨p, _, rfl, SqT.of e1, rfl, ?_⟩
        refine ⟨_, _, rfl, _, _, rfl, rfl, ?_⟩
        have o1 := o.push n1 s1 e1
        have kf1 : SqT K H1 rr (Fa.row f) := ht.sq fun q hq => o1.mem (List.mem_cons_of_mem _ hq)
        refine ⟨_, rfl, rr, _, _, _, rfl, rfl, kf1, at0 _ _, ?_⟩
        refine ⟨_, rfl, _, rfl, _, _, rfl, .inl (kn _), ?_⟩
        refine ⟨by show 5 ≤ sizeLine; decide, fun u hu => ?_⟩
        exact fin u _ _ (s1.trans (same_upd hu)) (s1.free hu) upd_same ⟨f, hf, rfl⟩
    | ar n r s t =>
      obtain ⟨hn, hr0, hs0, ht0⟩ := hi
      obtain ⟨f, rr, hf, hat, ht, ho⟩ := get s hs0
      obtain ⟨g, r2, hg2, hat2, ht2, ho2⟩ := get t ht0
      have nn : ∀ m : Str, n = m → m ∉ ar12 → False := fun m e hm => hm (e ▸ hn)
      refine ⟨_, rfl, ia, _, _, _, rfl, rfl, kI, at0 _ _, ?_⟩
      refine ⟨_, rfl, ?_⟩
      refine ⟨rfl, ?_⟩
      refine ⟨_, rfl, ?_⟩
      refine iteF' (decide_eq_false fun z => nn _ (V.str.inj z) (by decide +kernel)) ?_
      refine ⟨_, rfl, ?_⟩
      refine ⟨rfl, ?_⟩
      refine ⟨_, rfl, ?_⟩
      refine iteF' (decide_eq_false fun z => nn _ (V.str.inj z) (by decide +kernel)) ?_
      refine ⟨_, rfl, ?_⟩
      refine ⟨rfl, ?_⟩
      refine ⟨_, rfl, ?_⟩
      refine iteF' (decide_eq_false fun z => nn _ (V.str.inj z) (by decide +kernel)) ?_
      have kf := ht.sq hL
      refine ⟨_, rfl, _, rfl, ia, _, _, _, rfl, rfl, kI, atI_nat (j := 2) rfl, a, _, _, _, rfl, rfl, k1, hat, ?_⟩
      refine ⟨_, rfl, ?_⟩
      refine ⟨rfl, ?_⟩
      refine ⟨_, rfl, ?_⟩
      refine iteF' (decide_eq_false fun z => nn _ (V.str.inj z) (by decide +kernel)) ?_
      refine ⟨_, rfl, _, (["down", "up"] : List Str).map V.str, rfl, .inr (hsh _), rfl, by decide +kernel, ?_⟩
      rw [if_neg Bool.false_ne_true, inV_str]
      refine ⟨_, rfl, ?_⟩
      refine iteF' (decide_eq_false fun z => ?_) ?_
      · simp only [List.mem_cons, List.not_mem_nil, or_false] at z
        rcases z with z | z <;> exact nn _ z (by decide +kernel)
      have kg := ht2.sq hL
      refine ⟨_, rfl, _, rfl, ia, _, _, _, rfl, rfl, kI, atI_nat (j := 3) rfl, a, _, _, _, rfl, rfl, k1, hat2, ?_⟩
      refine ⟨_, rfl, rr, _, _, _, rfl, rfl, kf, at0 _ _, _, rfl, r2, _, _, _, rfl, rfl, kg, at0 _ _, ?_⟩
      refine ⟨by show 2 ≤ sizeLine; decide, fun p hp => ?_⟩
      have o1 : Wt P1 P2 H0 (upd H p (.lst ([f.sec, g.sec].map fun x => V.str (fl x)))) ((p, .lst ([f.sec, g.sec].map fun x => V.str (fl x))) :: L) := o.add hp
      refine ⟨fun σ H' => ∃ bs : List Bool, σ = [some (.ref la), some (.ref a), some (.ref ia), some (.str n), none, none, none, some (.ref rr), some (.ref r2), some (.ref p), none] ∧ bs.any id = (f.sec || g.sec || (chB n && c)) ∧ Wt P1 P2 H0 H' ((p, .lst (bs.map fun x => V.str (fl x))) :: L), ?_, ?_⟩
      · refine ⟨_, rfl, _, (["addc", "subc"] : List Str).map V.str, rfl, .inr (hch _), rfl, by decide +kernel, ?_⟩
        rw [if_neg Bool.false_ne_true, inV_str]
        refine ⟨_, rfl, ?_⟩
        refine ite2 (fun e => ?_) (fun e => ?_)
        · have e := of_decide_eq_true e
          have hb : chB n = true := decide_eq_true (by simpa using e)
          have k1' : SqT K _ a xs := x1.sq fun q hq => o1.mem (List.mem_cons_of_mem _ hq)
          have hp1 := o1.mem (q := (p, .lst ([f.sec, g.sec].map fun x => V.str (fl x)))) (List.mem_cons_self ..)
          (repeat (first | refine ⟨_, rfl, ?_⟩ | refine ⟨_, _, rfl, rfl, ?_⟩ | refine ⟨rfl, ?_⟩ | refine .inl ⟨_, rfl, ?_⟩ | refine .inr ⟨_, rfl, ?_⟩ | refine ⟨.inr ⟨by decide, by decide⟩, ?_⟩ | refine ⟨⟨by decide, by decide⟩, ?_⟩ | refine ⟨⟨by decide, by decide, by decide⟩, ?_⟩ | refine ⟨.inr ⟨by omega, by omega⟩, ?_⟩ | refine ⟨(by show (0 : Int) < _; first | decide | omega), ?_⟩ | refine ⟨Nat.le_trans (Nat.le_of_ble_eq_true rfl : _ ≤ 50) (by decide), ?_⟩ | refine ⟨_, _, _, _, rfl, rfl, upd_same, rfl, ?_⟩ | refine ⟨_, _, _, _, rfl, rfl, SqL.of upd_same, rfl, ?_⟩ | refine ⟨_, _, _, _, rfl, rfl, SqT.of upd_same, rfl, ?_⟩ | refine ⟨_, _, rfl, .inl (SqL.of upd_same), ?_⟩ | refine ⟨_, _, rfl, .inr (SqT.of upd_same), ?_⟩ | (refine' ⟨_, _, _, _, rfl, rfl, _, _, _⟩; rotate_left 2; (focus (first | assumption | exact SqL.of (by assumption) | exact SqT.of (by assumption) | exact Same.seq (by assumption) (by assumption))); (focus (exact rfl))) | (refine' ⟨_, _, rfl, _, _⟩; rotate_left 1; (focus (first | exact .inl (by assumption) | exact .inl (SqL.of (by assumption)) | exact .inr (by assumption) | exact .inr (SqT.of (by assumption)))))))
          refine ⟨.inl ⟨rfl, _, SqL.of hp1⟩, ?_⟩
          refine ⟨_, rfl, a, _, _, _, rfl, rfl, k1', k16, ?_⟩
          refine ⟨p, _, _, rfl, rfl, hp1, by show 2 < sizeLine; decide, ?_⟩
          refine ⟨[f.sec, g.sec, c], rfl, ?_, o1.put (u' := .lst ([f.sec, g.sec, c].map fun x => V.str (fl x))) 0 rfl⟩
          rw [hb]
          cases f.sec <;> cases g.sec <;> cases c <;> rfl
        · have hb : chB n = false := decide_eq_false fun z => e (decide_eq_true (by simpa using z))
          refine ⟨[f.sec, g.sec], rfl, ?_, o1⟩
          rw [hb]
          cases f.sec <;> cases g.sec <;> rfl
      · clear o1
        rintro σ H1 ⟨bs, rfl, hb, o2⟩
        have kf2 : SqT K H1 rr (Fa.row f) := ht.sq fun q hq => o2.mem (List.mem_cons_of_mem _ hq)
        have kg2 : SqT K H1 r2 (Fa.row g) := ht2.sq fun q hq => o2.mem (List.mem_cons_of_mem _ hq)
        refine ⟨_, rfl, _, rfl, _, rfl, ?_⟩
        dsimp only [tCons, tC, tNil]
        refine ⟨n, rr, r2, f, g, rfl, kf2, kg2, ho, ho2, fun p2 H2 s2 n2 e2 => ?_⟩
        refine ⟨p2, _, rfl, SqT.of e2, rfl, ?_⟩
        refine ⟨_, _, rfl, _, _, rfl, rfl, ?_⟩
        have o3 := o2.push n2 s2 e2
        refine ⟨_, rfl, ?_⟩
        refine ⟨rfl, ?_⟩
        refine ⟨_, rfl, ?_⟩
        refine ite2 (fun e => ?_) (fun e => ?_)
        · have e : n = "add" := V.str.inj (of_decide_eq_true e)
          refine ⟨_, rfl, _, rfl, ?_⟩
          dsimp only [tCons, tC, tNil]
          refine ⟨rr, r2, f, g, rfl, ht.sq (fun q hq => o3.mem (List.mem_cons_of_mem _ (List.mem_cons_of_mem _ hq))), ht2.sq (fun q hq => o3.mem (List.mem_cons_of_mem _ (List.mem_cons_of_mem _ hq))), fun p3 H3 s3 kc => ?_⟩
          have o4 := o3.mono s3
          refine ⟨_, rfl, ?_⟩
          dsimp only [tCons, tC, tNil]
          refine ⟨p, bs, _, rfl, .inl (SqL.of (o4.mem (q := (p, .lst (bs.map fun x => V.str (fl x)))) (by simp))), hb, ?_⟩
          refine ⟨_, rfl, _, rfl, _, rfl, _, _, rfl, .inl kc, ?_⟩
          refine ⟨by show 5 ≤ sizeLine; decide, fun u hu => ?_⟩
          have o9 := o4.add (u := .tup (Fa.row (arM n f g c))) hu
          have em : ∀ H : Hp, ∀ x y : Int, x = (arM n f g c).cell → y = (arM n f g c).plus → Q (.ref u) (upd H u (.tup (Fa.row (arM n f g c)))) → Q (.ref u) (upd H u (.tup ([.str (fl (f.sec || g.sec || (chB n && c))), .int (opM n f g).1, .int (opM n f g).2] ++ [.int x, .int y]))) := fun H x y a b h => by
            rw [a, b]
            exact h
          refine em _ _ _ (by show _ = (if n = "add" then (cellM f g).1 else -1); rw [if_pos e]) (by show _ = (if n = "add" then (cellM f g).2 else 0); rw [if_pos e]) (q u (arM n f g c) _ _ (suf [_, _, _] L) o9 (.inl (List.mem_cons_self ..)) ⟨f, g, hf, hg2, rfl⟩)
        · have e : ¬ n = "add" := fun z => e (decide_eq_true (by rw [z]))
          refine ⟨_, rfl, ?_⟩
          dsimp only [tCons, tC, tNil]
          refine ⟨p, bs, _, rfl, .inl (SqL.of (o3.mem (q := (p, .lst (bs.map fun x => V.str (fl x)))) (by simp))), hb, ?_⟩
          refine ⟨_, rfl, _, rfl, _, rfl, _, _, rfl, .inl (kn _), ?_⟩
          refine ⟨by show 5 ≤ sizeLine; decide, fun u hu => ?_⟩
          have o9 := o3.add (u := .tup (Fa.row (arM n f g c))) hu
          have em : ∀ H : Hp, ∀ x y : Int, x = (arM n f g c).cell → y = (arM n f g c).plus → Q (.ref u) (upd H u (.tup (Fa.row (arM n f g c)))) → Q (.ref u) (upd H u (.tup ([.str (fl (f.sec || g.sec || (chB n && c))), .int (opM n f g).1, .int (opM n f g).2] ++ [.int x, .int y]))) := fun H x y a b h => by
            rw [a, b]
            exact h
          refine em _ _ _ (by show _ = (if n = "add" then (cellM f g).1 else -1); rw [if_neg e]) (by show _ = (if n = "add" then (cellM f g).2 else 0); rw [if_neg e]) (q u (arM n f g c) _ _ (suf [_, _, _] L) o9 (.inl (List.mem_cons_self ..)) ⟨f, g, hf, hg2, rfl⟩)
    | store r s d => exact absurd hg (by show ¬ (0 : Int) ≤ -1; decide)
    | clear => exact absurd hg (by show ¬ (0 : Int) ≤ -1; decide)
    | other n ys => exact absurd hg (by show ¬ (0 : Int) ≤ -1; decide)
end
end K70

set_option Elab.async false
set_option linter.all false
set_option maxRecDepth 100000
set_option maxHeartbeats 4000000
namespace K70
open PySem PySem.Spec PyProof.Rows L2 Lw GxR WD
/-! ### next_state -/
theorem cutA {xs : List V} {g : Nat} : cutV xs none (some (g : Int)) = xs.take g := by
  unfold cutV
  have e := HT.sIx_nat xs.length xs.length g
  rw [HT.sIx_none, e, List.drop_zero, Nat.sub_zero]
  rcases Nat.le_total g xs.length with z | z
  · rw [Nat.min_eq_left z]
  · rw [Nat.min_eq_right z, List.take_of_length_le (Nat.le_refl _), List.take_of_length_le z]
theorem cutB {xs : List V} {g : Nat} (h : xs.length = 17) (hg : g < 16) : cutV xs (some ((g : Int) + 1)) (some 16) = (xs.drop (g + 1)).take (15 - g) := by
  unfold cutV
  have e := HT.sIx_nat xs.length xs.length 16
  have e2 := HT.sIx_nat xs.length 0 (g + 1)
  rw [show ((16 : Nat) : Int) = 16 from rfl] at e
  rw [show ((g + 1 : Nat) : Int) = (g : Int) + 1 by omega] at e2
  rw [e, e2, h, Nat.min_eq_left (by omega), Nat.min_eq_left (by omega)]
  congr 1
  omega
theorem set_parts {rs : List Addr} {x y : V} {u : Addr} {g : Nat} (h : rs.length = 16) (hg : g < 16) : (rs.map V.ref ++ [x]).take g ++ (V.ref u :: (((rs.map V.ref ++ [x]).drop (g + 1)).take (15 - g) ++ [y])) = (rs.set g u).map V.ref ++ [y] := by
  have l : (rs.map V.ref).length = 16 := by rw [List.length_map]; exact h
  have e3 : ((rs.map V.ref).drop (g + 1)).take (15 - g) = (rs.map V.ref).drop (g + 1) := List.take_of_length_le (by rw [List.length_drop]; omega)
  rw [List.take_append_of_le_length (by omega), List.drop_append_of_le_length (by omega), List.take_append_of_le_length (by rw [List.length_drop]; omega), e3]
  rw [List.set_eq_take_append_cons_drop, if_pos (by omega), List.map_append, List.map_cons, List.map_take, List.map_drop, List.append_assoc, List.cons_append]
def seven : List Str := ["clear", "store", "jump", "below", "call", "ret", "halt"]
theorem ins_given {i : Ins} (hi : i.ok) (h : 0 ≤ i.given) : i.given < 16 ∧ ∃ (n : Str) (ys : List V), i.row = .str n :: .int i.given :: ys ∧ n ∉ seven ∧ i.carries = caB n ∧ ∀ gs fs c f, resZ gs fs c i f → nxZ gs fs c i (fs.set i.given.toNat f) (if i.carries = true then f.sec else c) := by
  cases i with
  | set r w => exact ⟨hi.1.2, "set", _, rfl, by decide +kernel, Eq.symm (show caB _ = false by decide +kernel), fun gs fs c f z => ⟨f, z, rfl, rfl⟩⟩
  | move r s => exact ⟨hi.1.2, "move", _, rfl, by decide +kernel, Eq.symm (show caB _ = false by decide +kernel), fun gs fs c f z => ⟨f, z, rfl, rfl⟩⟩
  | carry r => exact ⟨hi.2, "carry", _, rfl, by decide +kernel, Eq.symm (show caB _ = false by decide +kernel), fun gs fs c f z => ⟨f, z, rfl, rfl⟩⟩
  | load r s d => exact ⟨hi.1.2, "load", _, rfl, by decide +kernel, Eq.symm (show caB _ = false by decide +kernel), fun gs fs c f z => ⟨f, z, rfl, rfl⟩⟩
  | sh n r s k =>
    refine ⟨hi.2.1.2, n, _, rfl, ?_, ?_, fun gs fs c f z => ⟨f, z, rfl, rfl⟩⟩
    · rcases hi.1 with rfl | rfl <;> decide +kernel
    · refine Eq.symm (show caB n = false from ?_)
      rcases hi.1 with rfl | rfl <;> decide +kernel
  | ar n r s t =>
    refine ⟨hi.2.1.2, n, _, rfl, ?_, rfl, fun gs fs c f z => ⟨f, z, rfl, rfl⟩⟩
    have hn := hi.1
    have key : ∀ m ∈ ar12, m ∉ seven := by decide +kernel
    exact key n hn
  | store r s d => exact absurd h (by show ¬ (0 : Int) ≤ -1; decide)
  | clear => exact absurd h (by show ¬ (0 : Int) ≤ -1; decide)
  | other n ys => exact absurd h (by show ¬ (0 : Int) ≤ -1; decide)
section
variable {P : Program} {w : World} {K : PySem.W.Frag} {mg : Str → Option Value} {base : Heap} {P1 P2 : Addr}
theorem ok_next (T : Tx K mg) : FnOk P w K mg base CX0 6 T.a_next_state T.d_next_state ["layout", "state", "instruction"] (spNext K P1 P2) := by
  have G_given_register : FnOk P w K mg base CX0 1 T.a_given_register T.d_given_register ["instruction"] (spGiven K) := ok_given T
  have G_result_fact : FnOk P w K mg base CX0 5 T.a_result_fact T.d_result_fact ["layout", "state", "instruction"] (spRes K P1 P2) := ok_res T
  have G_addresses : FnOk P w K mg base CX0 1 T.a_addresses T.d_addresses ["state", "instruction"] (spAddrs K) := ok_addrs T
  have G_without_cell : FnOk P w K mg base CX0 1 T.a_without_cell T.d_without_cell ["fact"] (spWo K) := ok_wo T
  refine T.F_next_state.ok sc_next_state (fun vs H Q E h => ?_) (fun cdv A outer s H vs Q E hr h => ?_)
  · obtain ⟨H0, L, la, a, ia, gs, fs, c, i, rfl, _⟩ := h
    rfl
  · obtain ⟨H0, L, la, a, ia, gs, fs, c, i, rfl, o, hl, ok, hS, hok, hI, hi, q⟩ := h
    have hr_given_register : Room 1 _ := hr.mono (by decide)
    have hr_result_fact : Room 5 _ := hr
    have hr_addresses : Room 1 _ := hr.mono (by decide)
    have hr_without_cell : Room 1 _ := hr.mono (by decide)
    refine ⟨_, (pss_cons (ps_set (i := 3) sc_next_state.nd rfl (.inl rfl) (pe_ix ix_tup (pv 2) pe_int (fun _ _ => rfl)))
        (pss_cons (ps_set (i := 4) sc_next_state.nd rfl (.inl rfl) (pe_call G_given_register hr_given_register (by rfl) T.g_given_register T.F_given_register.kp T.b_given_register .nil pass0 (pa_cons (pv 2) pa_nil)))
        (pss_cons (ps_if (pt_cmpR op_ge (pv 4) pe_int (nomark _))
        (pss_cons (ps_set (i := 5) sc_next_state.nd rfl (.inl rfl) (pe_call G_result_fact hr_result_fact (by rfl) T.g_result_fact T.F_result_fact.kp T.b_result_fact .nil pass0 (pa_cons (pv 0) (pa_cons (pv 1) (pa_cons (pv 2) pa_nil)))))
        (pss_cons (ps_set (i := 6) sc_next_state.nd rfl (.inl rfl) (pe_ifExp (pt_cmpR op_in_seq (pv 3) (pe_glob rfl T.g_CARRYING T.r_CARRYING) (by rfl)) (pe_ix ix_tup (pv 5) pe_int (fun _ _ => rfl)) (pe_ix ix_tup (pv 1) (pe_glob rfl T.g_CARRY T.r_CARRY) (fun _ _ => rfl))))
        (pss_one (ps_ret (pe_tup (StX.pa_star (pe_slice sl_tupA (pv 1) po_none (po_some (pv 4))) (pa_cons (pv 5) (StX.pa_star (pe_slice sl_tupA (pv 1) (po_some (pe_op op_add (pv 4) pe_int)) (po_some (pe_glob rfl T.g_CARRY T.r_CARRY))) (pa_cons (pv 6) pa_nil)))))))))
        pss_nil)
        (pss_cons (ps_if (pt_cmpR op_eq (pv 3) pe_str (nomark _))
        (pss_one (ps_ret (pe_tup (StX.pa_star (pe_slice sl_tupA (pv 1) po_none (po_some (pe_glob rfl T.g_CARRY T.r_CARRY))) (pa_cons pe_str pa_nil)))))
        pss_nil)
        (pss_cons (ps_if (pt_cmpR op_eq (pv 3) pe_str (nomark _))
        (pss_cons (ps_asg (pe_call G_addresses hr_addresses (by rfl) T.g_addresses T.F_addresses.kp T.b_addresses .nil pass0 (pa_cons (pv 1) (pa_cons (pv 2) pa_nil))) (pg_tup rfl (pgs_cons (pg_name (i := 7) sc_next_state.nd rfl (.inr rfl)) (pgs_cons (pg_name (i := 8) sc_next_state.nd rfl (.inr rfl)) pgs_nil))))
        (pss_cons (ps_setLc (i := 9) (own := [("fact", 5)]) (g := gName 5) (by rfl) sc_next_state.nd rfl rfl (sw_true rfl rfl rfl (by decide +kernel)) (pi_tup (pe_slice sl_tupA (pv 1) po_none (po_some (pe_glob rfl T.g_REGISTERS T.r_REGISTERS)))) (blkOk_by (N := n_next_state) (sc := defScope s_next_state) (by decide +kernel)) (fun _ _ _ _ _ => pg_name (i := 5) sc_next_state.nd rfl (Or.inl rfl)) (fun _ _ _ _ _ => pts_nil) (fun _ _ _ _ _ => (pe_ifExp (pt_chain op_le op_le (pv 7) (pe_ix (show IxR _ (rIxT K) from ix_tup) (pv 5) pe_int (fun _ _ => rfl)) (pv 8)) (pe_call G_without_cell hr_without_cell (by rfl) T.g_without_cell T.F_without_cell.kp T.b_without_cell .nil pass0 (pa_cons (pv 5) pa_nil)) (pv 5))))
        (pss_one (ps_ret (pe_tup (StX.pa_star (pv 9) (pa_cons (pe_ix ix_tup (pv 1) (pe_glob rfl T.g_CARRY T.r_CARRY) (fun _ _ => rfl)) pa_nil)))))))
        pss_nil)
        (pss_one (ps_ret (pv 1)))))))), ?_⟩
    obtain ⟨rs, x1, x2, x3⟩ := hS
    have hS : StAt K L a fs c := ⟨rs, x1, x2, x3⟩
    have hl16 : rs.length = 16 := by rw [x2.length]; exact x3
    have hx17 : (rs.map V.ref ++ [V.str (fl c)]).length = 17 := by rw [List.length_append, List.length_map, hl16]; rfl
    have h16 : (rs.map V.ref ++ [V.str (fl c)])[16]? = some (.str (fl c)) := by
      rw [List.getElem?_append_right (by rw [List.length_map, hl16]; exact Nat.le_refl _), List.length_map, hl16]
      rfl
    have hL : ∀ q ∈ L, H q.1 = some q.2 := fun q hq => o.mem hq
    have kI := hI.sq hL
    by_cases hg : 0 ≤ i.given
    · obtain ⟨hg16, n, ys, er, hn, hcar, hnx⟩ := ins_given hi hg
      have kI2 := kI
      rw [er] at kI2
      obtain ⟨j, ej⟩ := Int.eq_ofNat_of_zero_le hg
      refine ⟨_, rfl, ia, _, _, _, rfl, rfl, kI2, at0 _ _, ?_⟩
      refine ⟨_, rfl, ?_⟩
      dsimp only [tCons, tC, tNil]
      refine ⟨ia, n, _, rfl, kI2, fun z => absurd z hn, fun _ => ⟨i.given, ys, rfl, ?_⟩⟩
      rw [ej]
      refine ⟨_, rfl, ?_⟩
      refine ⟨_, _, rfl, rfl, ?_⟩
      refine ⟨_, rfl, ?_⟩
      have hj16 : j < 16 := by omega
      refine iteT (decide_eq_true (by omega)) ?_
      refine ⟨_, rfl, _, rfl, _, rfl, ?_⟩
      dsimp only [tCons, tC, tNil]
      refine ⟨H0, L, la, a, ia, gs, fs, c, i, rfl, o, hl, ok, hS, hok, hI, hi, hg, fun u f N H1 sN o1 hu hz => ?_⟩
      have kst : SqT K H1 a (rs.map V.ref ++ [.str (fl c)]) := x1.mono (fun q hq => sN.subset hq) |>.sq fun q hq => o1.mem hq
      have ku : SqT K H1 u (Fa.row f) := hu.sq fun q hq => o1.mem hq
      have hca := KDx.tupB_ok (H := H1) T.kitca (by decide)
      have w1 : ¬ (HT.sIx (rs.map V.ref ++ [V.str (fl c)]).length 0 none = 0 ∧ HT.sIx (rs.map V.ref ++ [V.str (fl c)]).length (rs.map V.ref ++ [V.str (fl c)]).length (some (j : Int)) = (rs.map V.ref ++ [V.str (fl c)]).length) := fun z => by
        have := z.2
        rw [HT.sIx_nat, hx17] at this
        omega
      have w2 : ¬ (HT.sIx (rs.map V.ref ++ [V.str (fl c)]).length 0 (some ((j : Int) + 1)) = 0 ∧ HT.sIx (rs.map V.ref ++ [V.str (fl c)]).length (rs.map V.ref ++ [V.str (fl c)]).length (some 16) = (rs.map V.ref ++ [V.str (fl c)]).length) := fun z => by
        have := z.1
        rw [show (j : Int) + 1 = ((j + 1 : Nat) : Int) by omega, HT.sIx_nat, hx17] at this
        omega
      have hnz := hnx gs fs c f hz
      refine ⟨_, rfl, _, _, rfl, .inr hca, rfl, by decide +kernel, ?_⟩
      rw [if_neg Bool.false_ne_true, inV_str]
      refine ⟨_, rfl, ?_⟩
      refine ite2 (fun e => ?_) (fun e => ?_)
      · refine ⟨_, rfl, u, _, _, _, rfl, rfl, ku, at0 _ _, ?_⟩
        rw [if_pos (hcar.trans e)] at hnz
        refine ⟨_, rfl, ?_⟩
        dsimp only [tNoPart]
        refine ⟨_, rfl, _, rfl, a, _, rfl, kst, (fun z => absurd z w1), fun _ p1 hp1 => ?_⟩
        rw [cutA]
        have o2 := o1.add (u := .tup ((rs.map V.ref ++ [V.str (fl c)]).take j)) hp1
        have kst2 : SqT K _ a (rs.map V.ref ++ [.str (fl c)]) := (x1.mono (fun q hq => sN.subset hq)).sq fun q hq => o2.mem (List.mem_cons_of_mem _ hq)
        refine ⟨p1, _, rfl, .inl (SqT.of upd_same), ?_⟩
        refine ⟨_, rfl, _, rfl, _, rfl, _, _, rfl, rfl, ?_⟩
        refine ⟨_, rfl, _, rfl, a, _, rfl, kst2, (fun z => absurd z w2), fun _ p2 hp2 => ?_⟩
        dsimp only
        rw [cutB hx17 hj16]
        have o3 := o2.add (u := .tup (((rs.map V.ref ++ [V.str (fl c)]).drop (j + 1)).take (15 - j))) hp2
        refine ⟨p2, _, rfl, .inl (SqT.of upd_same), ?_⟩
        refine ⟨_, rfl, ?_⟩
        dsimp only [tNil]
        have esp := set_parts (x := V.str (fl c)) (y := V.str (fl f.sec)) (u := u) hl16 hj16
        refine ⟨?_, fun p3 hp3 => ?_⟩
        · refine Nat.le_trans (Nat.le_of_eq (congrArg List.length esp)) ?_
          rw [List.length_append, List.length_map, List.length_set, hl16]
          show 17 ≤ sizeLine
          decide
        have o4 := o3.add (u := .tup ((rs.set j u).map V.ref ++ [V.str (fl f.sec)])) hp3
        rw [← esp] at o4
        refine q p3 (fs.set i.given.toNat f) f.sec _ _ (sN.trans (suf [_, _, _] N)) o4 ⟨rs.set j u, .inl (by rw [esp]; exact List.mem_cons_self ..), ?_, ?_⟩ hnz
        · rw [ej]
          refine paired_set ?_ j (paired_imp (fun _ _ z => z.mono fun q hq => by simp [sN.subset hq]) x2)
          exact hu.mono fun q hq => by simp [hq]
        · rw [List.length_set]
          exact x3
      · refine ⟨_, rfl, a, _, _, _, rfl, rfl, kst, atI_nat (j := 16) h16, ?_⟩
        rw [if_neg (fun z => e (hcar.symm.trans z))] at hnz
        refine ⟨_, rfl, ?_⟩
        dsimp only [tNoPart]
        refine ⟨_, rfl, _, rfl, a, _, rfl, kst, (fun z => absurd z w1), fun _ p1 hp1 => ?_⟩
        rw [cutA]
        have o2 := o1.add (u := .tup ((rs.map V.ref ++ [V.str (fl c)]).take j)) hp1
        have kst2 : SqT K _ a (rs.map V.ref ++ [.str (fl c)]) := (x1.mono (fun q hq => sN.subset hq)).sq fun q hq => o2.mem (List.mem_cons_of_mem _ hq)
        refine ⟨p1, _, rfl, .inl (SqT.of upd_same), ?_⟩
        refine ⟨_, rfl, _, rfl, _, rfl, _, _, rfl, rfl, ?_⟩
        refine ⟨_, rfl, _, rfl, a, _, rfl, kst2, (fun z => absurd z w2), fun _ p2 hp2 => ?_⟩
        dsimp only
        rw [cutB hx17 hj16]
        have o3 := o2.add (u := .tup (((rs.map V.ref ++ [V.str (fl c)]).drop (j + 1)).take (15 - j))) hp2
        refine ⟨p2, _, rfl, .inl (SqT.of upd_same), ?_⟩
        refine ⟨_, rfl, ?_⟩
        dsimp only [tNil]
        have esp := set_parts (x := V.str (fl c)) (y := V.str (fl c)) (u := u) hl16 hj16
        refine ⟨?_, fun p3 hp3 => ?_⟩
        · refine Nat.le_trans (Nat.le_of_eq (congrArg List.length esp)) ?_
          rw [List.length_append, List.length_map, List.length_set, hl16]
          show 17 ≤ sizeLine
          decide
        have o4 := o3.add (u := .tup ((rs.set j u).map V.ref ++ [V.str (fl c)])) hp3
        rw [← esp] at o4
        refine q p3 (fs.set i.given.toNat f) c _ _ (sN.trans (suf [_, _, _] N)) o4 ⟨rs.set j u, .inl (by rw [esp]; exact List.mem_cons_self ..), ?_, ?_⟩ hnz
        · rw [ej]
          refine paired_set ?_ j (paired_imp (fun _ _ z => z.mono fun q hq => by simp [sN.subset hq]) x2)
          exact hu.mono fun q hq => by simp [hq]
        · rw [List.length_set]
          exact x3
    · have kst : SqT K H a (rs.map V.ref ++ [.str (fl c)]) := x1.sq hL
      have ht16 : (rs.map V.ref ++ [V.str (fl c)]).take 16 = rs.map V.ref := by
        rw [List.take_append_of_le_length (by rw [List.length_map, hl16]; exact Nat.le_refl _), List.take_of_length_le (by rw [List.length_map, hl16]; exact Nat.le_refl _)]
      cases i with
      | set r w => exact absurd hi.1.1 hg
      | move r s => exact absurd hi.1.1 hg
      | carry r => exact absurd hi.1 hg
      | load r s d => exact absurd hi.1.1 hg
      | sh n r s k => exact absurd hi.2.1.1 hg
      | ar n r s t => exact absurd hi.2.1.1 hg
      | clear =>
        refine ⟨_, rfl, ia, _, _, _, rfl, rfl, kI, at0 _ _, ?_⟩
        refine ⟨_, rfl, ?_⟩
        dsimp only [tCons, tC, tNil]
        refine ⟨ia, "clear", _, rfl, kI, fun _ => ?_, fun z => absurd (by decide +kernel) z⟩
        refine ⟨_, rfl, ?_⟩
        refine ⟨_, _, rfl, rfl, ?_⟩
        refine ⟨_, rfl, ?_⟩
        refine iteF' (by decide) ?_
        refine ⟨_, rfl, ?_⟩
        refine ⟨rfl, ?_⟩
        refine ⟨_, rfl, ?_⟩
        refine iteT (by decide +kernel) ?_
        refine ⟨_, rfl, ?_⟩
        dsimp only [tNoPart]
        refine ⟨_, rfl, a, _, rfl, kst, (fun z => absurd z (not16 hx17)), fun _ p1 hp1 => ?_⟩
        rw [cut16 hx17, ht16]
        have o2 := o.add (u := .tup (rs.map V.ref)) hp1
        refine ⟨p1, _, rfl, .inl (SqT.of upd_same), ?_⟩
        refine ⟨?_, fun p2 hp2 => ?_⟩
        · rw [List.length_append, List.length_map, hl16]
          show 17 ≤ sizeLine
          decide
        have o3 := o2.add (u := .tup (rs.map V.ref ++ [V.str (fl false)])) hp2
        exact q p2 fs false _ _ (suf [_, _] L) o3 ⟨rs, .inl (List.mem_cons_self ..), paired_imp (fun _ _ z => z.mono fun q hq => by simp [hq]) x2, x3⟩ ⟨rfl, rfl⟩
      | other n ys =>
        have n7 : n ∈ (["clear", "store", "jump", "below", "call", "ret", "halt"] : List Str) ∧ n ≠ "clear" ∧ n ≠ "store" := by
          have key : ∀ m ∈ (["jump", "below", "call", "ret", "halt"] : List Str), m ∈ (["clear", "store", "jump", "below", "call", "ret", "halt"] : List Str) ∧ m ≠ "clear" ∧ m ≠ "store" := by decide +kernel
          exact key n hi
        refine ⟨_, rfl, ia, _, _, _, rfl, rfl, kI, at0 _ _, ?_⟩
        refine ⟨_, rfl, ?_⟩
        dsimp only [tCons, tC, tNil]
        refine ⟨ia, n, _, rfl, kI, fun _ => ?_, fun z => absurd (n7.1) z⟩
        refine ⟨_, rfl, ?_⟩
        refine ⟨_, _, rfl, rfl, ?_⟩
        refine ⟨_, rfl, ?_⟩
        refine iteF' (by decide) ?_
        refine ⟨_, rfl, ?_⟩
        refine ⟨rfl, ?_⟩
        refine ⟨_, rfl, ?_⟩
        refine iteF' (decide_eq_false fun z => n7.2.1 (V.str.inj z)) ?_
        refine ⟨_, rfl, ?_⟩
        refine ⟨rfl, ?_⟩
        refine ⟨_, rfl, ?_⟩
        refine iteF' (decide_eq_false fun z => n7.2.2 (V.str.inj z)) ?_
        exact ⟨_, rfl, q a fs c L H (suf [] L) o hS ⟨rfl, rfl⟩⟩
      | store r s d =>
        refine ⟨_, rfl, ia, _, _, _, rfl, rfl, kI, at0 _ _, ?_⟩
        refine ⟨_, rfl, ?_⟩
        dsimp only [tCons, tC, tNil]
        refine ⟨ia, "store", _, rfl, kI, fun _ => ?_, fun z => absurd (by decide +kernel) z⟩
        refine ⟨_, rfl, ?_⟩
        refine ⟨_, _, rfl, rfl, ?_⟩
        refine ⟨_, rfl, ?_⟩
        refine iteF' (by decide) ?_
        refine ⟨_, rfl, ?_⟩
        refine ⟨rfl, ?_⟩
        refine ⟨_, rfl, ?_⟩
        refine iteF' (by decide +kernel) ?_
        refine ⟨_, rfl, ?_⟩
        refine ⟨rfl, ?_⟩
        refine ⟨_, rfl, ?_⟩
        refine iteT (by decide +kernel) ?_
        refine ⟨_, rfl, _, rfl, ?_⟩
        dsimp only [tCons, tC, tNil]
        obtain ⟨j, rfl⟩ := Int.eq_ofNat_of_zero_le hi.2.1
        have hj : j < fs.length := by
          have := hi.2.2
          omega
        have hf := List.getElem?_eq_getElem hj
        refine ⟨L, a, fs, c, ia, "store", r, j, d, _, rfl, hL, hS, kI, hi.2.1, hf, fun p1 H1 s1 n1 e1 => ?_⟩
        refine ⟨p1, _, rfl, SqT.of e1, rfl, ?_⟩
        refine ⟨_, _, rfl, _, _, rfl, rfl, ?_⟩
        have o1 := o.push n1 s1 e1
        dsimp only [tNoPart]
        have ksl : SqT K H1 a (rs.map V.ref ++ [.str (fl c)]) := x1.sq fun q hq => o1.mem (List.mem_cons_of_mem _ hq)
        refine ⟨_, rfl, _, rfl, a, _, rfl, ksl, (fun z => absurd z (not16 hx17)), fun _ t ht => ?_⟩
        rw [cut16 hx17, ht16]
        have o2 := o1.add (u := .tup (rs.map V.ref)) ht
        have htB : (t, HO.tup (rs.map V.ref)) ∈ (t, HO.tup (rs.map V.ref)) :: (p1, HO.tup [.int (fs[j].lo + d, fs[j].hi + d).1, .int (fs[j].lo + d, fs[j].hi + d).2]) :: L := List.mem_cons_self ..
        have sB : L <:+ (t, HO.tup (rs.map V.ref)) :: (p1, HO.tup [.int (fs[j].lo + d, fs[j].hi + d).1, .int (fs[j].lo + d, fs[j].hi + d).2]) :: L := suf [_, _] L
        generalize (t, HO.tup (rs.map V.ref)) :: (p1, HO.tup [.int (fs[j].lo + d, fs[j].hi + d).1, .int (fs[j].lo + d, fs[j].hi + d).2]) :: L = B at o2 htB sB
        refine ⟨t, rfl, ⟨_, SqT.of upd_same⟩, fun D hD => lc_tup (K := K) (a := t) (xs := rs.map V.ref) (fun i H => ∃ (M : List (Addr × HO)) (us : List Addr), Wt P1 P2 H0 H (((D, HO.lst (us.map V.ref)) :: M) ++ B) ∧ Paired (fun r f => TupAt K (M ++ B) r (Fa.row f)) us ((fs.map (cutF (fs[j].lo + d) (fs[j].hi + d))).take i) ∧ us.length = i) ⟨[], [], (o2.add (u := .lst []) hD : Wt P1 P2 H0 _ _), .nil, rfl⟩ ?_ ?_ ?_⟩
        · rintro i H5 _ ⟨M, us, o5, _⟩
          exact SqT.of (o5.mem (q := (t, .tup (rs.map V.ref))) (by simp [htB]))
        · rintro i x H5 hx ⟨M, us, o5, hp, hu⟩
          rw [List.getElem?_map] at hx
          obtain ⟨r5, hr5, rfl⟩ := Option.map_eq_some_iff.mp hx
          obtain ⟨f5, hf5, t5⟩ := pr_get x2 hr5
          have k5 : SqT K H5 r5 (Fa.row f5) := t5.sq fun q hq => o5.mem (List.mem_append_right _ (sB.subset hq))
          have hcf : (fs.map (cutF (fs[j].lo + d) (fs[j].hi + d)))[i]? = some (cutF (fs[j].lo + d) (fs[j].hi + d) f5) := by
            rw [List.getElem?_map, hf5]
            rfl
          have hi5 : i < 16 := by
            have := (List.getElem?_eq_some_iff.mp hf5).1
            omega
          refine ⟨rfl, ?_⟩
          unfold tYes
          dsimp only
          rw [if_pos rfl]
          refine ⟨_, rfl, _, rfl, r5, _, _, _, rfl, rfl, k5, atI_nat (j := 3) rfl, ?_⟩
          refine ⟨_, _, rfl, rfl, ?_⟩
          refine ⟨_, rfl, ?_⟩
          refine ite2 (fun e1 => ?_) (fun e1 => ?_)
          · have e1 : fs[j].lo + d ≤ f5.cell := of_decide_eq_true e1
            refine ⟨_, rfl, ?_⟩
            refine ⟨_, _, rfl, rfl, ?_⟩
            refine ⟨_, rfl, ?_⟩
            refine ite2 (fun e2 => ?_) (fun e2 => ?_)
            · have e2 : f5.cell ≤ fs[j].hi + d := of_decide_eq_true e2
              refine ⟨_, rfl, ?_⟩
              dsimp only [tCons, tC, tNil]
              refine ⟨r5, f5, rfl, k5, fun v H6 s6 n6 e6 => ?_⟩
              have o6 := o5.push n6 s6 e6
              have o7 := o6.put (u' := .lst (us.map V.ref ++ [.ref v])) 1 rfl
              refine ⟨us.map V.ref, o6.mem (q := (D, .lst (us.map V.ref))) (by simp), Nat.lt_of_le_of_lt (show (us.map V.ref).length ≤ 16 by rw [List.length_map]; omega) (by show 16 < sizeLine; decide), (v, HO.tup (Fa.row ⟨f5.sec, f5.lo, f5.hi, -1, 0⟩)) :: M, us ++ [v], ?_, ?_, by rw [List.length_append, hu]; rfl⟩
              · rw [List.map_append]
                exact o7.perm (.swap _ _ _)
              · rw [List.take_add_one, hcf]
                refine paired_app (paired_imp (fun _ _ z => z.mono fun q hq => List.mem_cons_of_mem _ hq) hp) (.cons ?_ .nil)
                rw [show cutF (fs[j].lo + d) (fs[j].hi + d) f5 = ⟨f5.sec, f5.lo, f5.hi, -1, 0⟩ from if_pos ⟨e1, e2⟩]
                exact .inl (List.mem_cons_self ..)
            · have e2 : ¬ f5.cell ≤ fs[j].hi + d := fun z => e2 (decide_eq_true z)
              refine ⟨_, rfl, ?_⟩
              have o7 := o5.put (u' := .lst (us.map V.ref ++ [.ref r5])) 0 rfl
              refine ⟨us.map V.ref, o5.mem (q := (D, .lst (us.map V.ref))) (by simp), Nat.lt_of_le_of_lt (show (us.map V.ref).length ≤ 16 by rw [List.length_map]; omega) (by show 16 < sizeLine; decide), M, us ++ [r5], ?_, ?_, by rw [List.length_append, hu]; rfl⟩
              · rw [List.map_append]
                exact o7
              · rw [List.take_add_one, hcf]
                refine paired_app hp (.cons ?_ .nil)
                rw [show cutF (fs[j].lo + d) (fs[j].hi + d) f5 = f5 from if_neg (fun z => e2 z.2)]
                exact t5.mono fun q hq => List.mem_append_right _ (sB.subset hq)
          · have e1 : ¬ fs[j].lo + d ≤ f5.cell := fun z => e1 (decide_eq_true z)
            refine ⟨_, rfl, ?_⟩
            refine iteF' rfl ?_
            refine ⟨_, rfl, ?_⟩
            have o7 := o5.put (u' := .lst (us.map V.ref ++ [.ref r5])) 0 rfl
            refine ⟨us.map V.ref, o5.mem (q := (D, .lst (us.map V.ref))) (by simp), Nat.lt_of_le_of_lt (show (us.map V.ref).length ≤ 16 by rw [List.length_map]; omega) (by show 16 < sizeLine; decide), M, us ++ [r5], ?_, ?_, by rw [List.length_append, hu]; rfl⟩
            · rw [List.map_append]
              exact o7
            · rw [List.take_add_one, hcf]
              refine paired_app hp (.cons ?_ .nil)
              rw [show cutF (fs[j].lo + d) (fs[j].hi + d) f5 = f5 from if_neg (fun z => e1 z.1)]
              exact t5.mono fun q hq => List.mem_append_right _ (sB.subset hq)
        · rintro H5 ⟨M, us, o5, hp, hu⟩
          rw [List.take_of_length_le (by rw [List.length_map, List.length_map]; omega)] at hp
          have ksl5 : SqT K H5 a (rs.map V.ref ++ [.str (fl c)]) := x1.sq fun q hq => o5.mem (List.mem_append_right _ (sB.subset hq))
          rw [List.length_map, hl16] at hu
          refine ⟨_, rfl, D, _, rfl, .inr (SqL.of (o5.mem (q := (D, .lst (us.map V.ref))) (by simp))), ?_⟩
          refine ⟨_, rfl, a, _, _, _, rfl, rfl, ksl5, atI_nat (j := 16) h16, ?_⟩
          refine ⟨?_, fun p2 hp2 => ?_⟩
          · rw [List.length_append, List.length_map, hu]
            show 17 ≤ sizeLine
            decide
          have o6 := o5.add (u := .tup (us.map V.ref ++ [V.str (fl c)])) hp2
          refine q p2 (fs.map (cutF (fs[j].lo + d) (fs[j].hi + d))) c _ _ (sB.trans (suf ((p2, HO.tup (us.map V.ref ++ [V.str (fl c)])) :: (D, HO.lst (us.map V.ref)) :: M) B)) o6 ⟨us, .inl (List.mem_cons_self ..), ?_, ?_⟩ ⟨⟨_, hf, rfl⟩, rfl⟩
          · exact paired_imp (fun _ _ z => z.mono fun q hq => List.mem_cons_of_mem _ (List.mem_cons_of_mem _ hq)) hp
          · rw [List.length_map]
            exact x3
end
end K70

set_option Elab.async false
set_option linter.all false
set_option maxRecDepth 100000
set_option maxHeartbeats 4000000
namespace K70
open PySem PySem.Spec PyProof.Rows L2 Lw GxR WD
/-! ### the law's layouts and instructions -/
def spLay (K : PySem.W.Frag) (P1 P2 : Addr) : Sp := fun vs H Q _ => ∃ H0 p L, vs = [.ref p] ∧ Wd P1 P2 H0 H p L ∧ ∀ a gs N H', L <:+ N → Wd P1 P2 H0 H' p N → LayAt K N a gs → LayOk gs → Q (.ref a) H'
def spIns (K : PySem.W.Frag) (P1 P2 : Addr) : Sp := fun vs H Q _ => ∃ H0 p L, vs = [.ref p] ∧ Wd P1 P2 H0 H p L ∧ ∀ a (i : Ins) N H', L <:+ N → Wd P1 P2 H0 H' p N → (a, HO.tup i.row) ∈ N → i.ok → Q (.ref a) H'
def names29 : List Str := ["set", "move", "add", "addc", "sub", "subc", "mul", "high", "div", "and", "or", "xor", "less", "downby", "down", "up", "carry", "clear", "load", "store", "load", "store", "add", "add", "below", "jump", "call", "ret", "halt"]
theorem names_rest : ∀ n ∈ names29, n = "set" ∨ n = "below" ∨ n = "move" ∨ n = "carry" ∨ n ∈ (["clear", "ret", "halt"] : List Str) ∨ n ∈ (["jump", "call"] : List Str) ∨ n = "load" ∨ n = "store" ∨ n = "down" ∨ n = "up" ∨ n ∈ ar12 := by decide +kernel
section
variable {P : Program} {w : World} {K : PySem.W.Frag} {mg : Str → Option Value} {base : Heap} {P1 P2 : Addr}
theorem lay_snoc {gs : List Rg} {g : Rg} (ok : LayOk gs) (h : ∀ x ∈ gs, x.start + x.size ≤ g.start) (hs : 1 ≤ g.size) (hm : 0 ≤ g.most ∧ g.most ≤ 65535) (hl : gs.length ≤ 900) : LayOk (gs ++ [g]) := by
  refine ⟨fun i j x y hij hx hy => ?_, fun x hx => ?_, fun x hx => ?_, by rw [List.length_append]; simp; omega⟩
  · have hj : j < gs.length + 1 := by
      have := (List.getElem?_eq_some_iff.mp hy).1
      simpa using this
    rw [List.getElem?_append_left (by omega)] at hx
    by_cases z : j < gs.length
    · rw [List.getElem?_append_left z] at hy
      exact ok.sorted _ _ _ _ hij hx hy
    · have : j = gs.length := by omega
      subst this
      rw [List.getElem?_append_right (Nat.le_refl _), Nat.sub_self] at hy
      cases hy
      exact h x (List.mem_of_getElem? hx)
  · rcases List.mem_append.mp hx with z | z
    · exact ok.sized x z
    · rw [List.mem_singleton.mp z]
      exact hs
  · rcases List.mem_append.mp hx with z | z
    · exact ok.most x z
    · rw [List.mem_singleton.mp z]
      exact hm
theorem ok_lay (T : Tx K mg) : FnOk P w K mg base CX0 3 T.a_law_layout T.d_law_layout ["source"] (spLay K P1 P2) := by
  have G_law_draw : FnOk P w K mg base CX0 1 T.a_law_draw T.d_law_draw ["source", "many"] spDraw := ok_draw T
  have G_law_word : FnOk P w K mg base CX0 2 T.a_law_word T.d_law_word ["source"] (spWord P1 P2) := ok_word T
  refine T.F_law_layout.ok sc_law_layout (fun vs H Q E h => ?_) (fun cdv A outer s H vs Q E hr h => ?_)
  · obtain ⟨H0, p, L, rfl, _⟩ := h
    rfl
  · obtain ⟨H0, p, L, rfl, o, q⟩ := h
    have hr_law_draw : Room 1 _ := hr.mono (by decide)
    have hr_law_word : Room 2 _ := hr.mono (by decide)
    refine ⟨_, (pss_cons (ps_set (i := 1) sc_law_layout.nd rfl (.inl rfl) (pe_lst pa_nil))
        (pss_cons (ps_set (i := 2) sc_law_layout.nd rfl (.inl rfl) (pe_call G_law_draw hr_law_draw (by rfl) T.g_law_draw T.F_law_draw.kp T.b_law_draw .nil pass0 (pa_cons (pv 0) (pa_cons pe_int pa_nil))))
        (pss_cons (ps_for PassesOwn.never rfl (pi_range1 rfl T.z_range (pa_cons (pe_call G_law_draw hr_law_draw (by rfl) T.g_law_draw T.F_law_draw.kp T.b_law_draw .nil pass0 (pa_cons (pv 0) (pa_cons pe_int pa_nil))) pa_nil)) (pg_name (i := 3) sc_law_layout.nd rfl (.inl rfl))
        (pss_cons (ps_set (i := 4) sc_law_layout.nd rfl (.inl rfl) (pe_op op_add pe_int (pe_ix ix_list (pe_lst (pa_cons (pe_call G_law_draw hr_law_draw (by rfl) T.g_law_draw T.F_law_draw.kp T.b_law_draw .nil pass0 (pa_cons (pv 0) (pa_cons pe_int pa_nil))) (pa_cons (pe_call G_law_draw hr_law_draw (by rfl) T.g_law_draw T.F_law_draw.kp T.b_law_draw .nil pass0 (pa_cons (pv 0) (pa_cons pe_int pa_nil))) pa_nil))) (pe_callTy call_int1 (by rfl) T.z_int (by decide +kernel) (pa_cons (pe_cmpR op_eq (pe_call G_law_draw hr_law_draw (by rfl) T.g_law_draw T.F_law_draw.kp T.b_law_draw .nil pass0 (pa_cons (pv 0) (pa_cons pe_int pa_nil))) pe_int (nomark _)) pa_nil)) (fun _ _ => rfl))))
        (pss_cons (ps_expr (pe_bm PySem.F.plainAttrs_list PySem.F.slot_list_append PySem.F.type_list_append mt_append (pv 1) (pa_cons (pe_tup (pa_cons (pv 2) (pa_cons (pv 4) (pa_cons (pe_ix ix_list (pe_lst (pa_cons pe_str (pa_cons pe_str pa_nil))) (pe_call G_law_draw hr_law_draw (by rfl) T.g_law_draw T.F_law_draw.kp T.b_law_draw .nil pass0 (pa_cons (pv 0) (pa_cons pe_int pa_nil))) (fun _ _ => rfl)) (pa_cons (pe_call G_law_word hr_law_word (by rfl) T.g_law_word T.F_law_word.kp T.b_law_word .nil pass0 (pa_cons (pv 0) pa_nil)) pa_nil))))) pa_nil)))
        (pss_one (ps_set (i := 2) sc_law_layout.nd rfl (.inl rfl) (pe_op op_add (pe_op op_add (pv 2) (pv 4)) (pe_ix ix_list (pe_lst (pa_cons pe_int (pa_cons (pe_call G_law_draw hr_law_draw (by rfl) T.g_law_draw T.F_law_draw.kp T.b_law_draw .nil pass0 (pa_cons (pv 0) (pa_cons pe_int pa_nil))) pa_nil))) (pe_call G_law_draw hr_law_draw (by rfl) T.g_law_draw T.F_law_draw.kp T.b_law_draw .nil pass0 (pa_cons (pv 0) (pa_cons pe_int pa_nil))) (fun _ _ => rfl))))))))
        (pss_one (ps_ret (pe_callTy call_tuple_of (by rfl) T.z_tuple (by decide +kernel) (pa_cons (pv 1) pa_nil))))))), ?_⟩
    (repeat (first | refine ⟨_, rfl, ?_⟩ | refine ⟨_, _, rfl, rfl, ?_⟩ | refine ⟨rfl, ?_⟩ | refine .inl ⟨_, rfl, ?_⟩ | refine .inr ⟨_, rfl, ?_⟩ | refine ⟨.inr ⟨by decide, by decide⟩, ?_⟩ | refine ⟨⟨by decide, by decide⟩, ?_⟩ | refine ⟨⟨by decide, by decide, by decide⟩, ?_⟩ | refine ⟨.inr ⟨by omega, by omega⟩, ?_⟩ | refine ⟨(by show (0 : Int) < _; first | decide | omega), ?_⟩ | refine ⟨Nat.le_trans (Nat.le_of_ble_eq_true rfl : _ ≤ 50) (by decide), ?_⟩ | refine ⟨_, _, _, _, rfl, rfl, upd_same, rfl, ?_⟩ | refine ⟨_, _, _, _, rfl, rfl, SqL.of upd_same, rfl, ?_⟩ | refine ⟨_, _, _, _, rfl, rfl, SqT.of upd_same, rfl, ?_⟩ | refine ⟨_, _, rfl, .inl (SqL.of upd_same), ?_⟩ | refine ⟨_, _, rfl, .inr (SqT.of upd_same), ?_⟩ | (refine' ⟨_, _, _, _, rfl, rfl, _, _, _⟩; rotate_left 2; (focus (first | assumption | exact SqL.of (by assumption) | exact SqT.of (by assumption) | exact Same.seq (by assumption) (by assumption))); (focus (exact rfl))) | (refine' ⟨_, _, rfl, _, _⟩; rotate_left 1; (focus (first | exact .inl (by assumption) | exact .inl (SqL.of (by assumption)) | exact .inr (by assumption) | exact .inr (SqT.of (by assumption)))))))
    refine fun D hD => ?_
    have o1 := o.add (u := .lst []) hD
    refine ⟨_, rfl, ?_⟩
    dsimp only [tCons, tC, tNil]
    refine o1.draw (by first | decide | omega) (by first | decide | omega) fun e H1 e0 e1 o2 => ?_
    refine ⟨_, rfl, ?_⟩
    dsimp only [tCons, tC, tNil]
    refine o2.draw (by first | decide | omega) (by first | decide | omega) fun m H2 m0 m1 o3 => ?_
    refine ⟨_, rfl, by omega, by omega, for_range (D := { nx := _, rt := _ }) (lo := 0) (n := m.toNat) (fun i σ H' => ∃ (v3 v4 : Option V) (e : Int) (M : List (Addr × HO)) (rs : List Addr) (gs : List Rg), σ = [some (.ref p), some (.ref D), some (.int e), v3, v4] ∧ 0 ≤ e ∧ Wd P1 P2 H0 H' p (((D, HO.lst (rs.map V.ref)) :: M) ++ L) ∧ Paired (fun r g => TupAt K M r (Rg.row g)) rs gs ∧ LayOk gs ∧ (∀ g ∈ gs, g.start + g.size ≤ e) ∧ rs.length = i) ⟨none, none, e, [], [], [], rfl, e0, (o3 : Wd P1 P2 H0 H2 p _), .nil, ⟨fun i j x y _ h => by simp at h, fun _ h => by simp at h, fun _ h => by simp at h, by simp⟩, fun _ h => by simp at h, rfl⟩ ?_ ?_⟩
    · rintro i σ H3 hi ⟨v3, v4, e, M, rs, gs, rfl, he, o4, hp, ok, hend, hlen⟩
      refine ⟨_, rfl, ?_⟩
      dsimp only [tCons, tC, tNil]
      refine o4.draw (by first | decide | omega) (by first | decide | omega) fun x H4 x0 x1 o5 => ?_
      refine ⟨_, rfl, ?_⟩
      dsimp only [tCons, tC, tNil]
      refine o5.draw (by first | decide | omega) (by first | decide | omega) fun y H5 y0 y1 o6 => ?_
      refine ⟨by show 2 ≤ sizeLine; decide, fun l hl => ?_⟩
      have o7 : Wd P1 P2 H0 (upd H5 l (.lst ([x, y].map V.int))) p ((l, .lst ([x, y].map V.int)) :: _) := o6.add hl
      refine ⟨_, rfl, ?_⟩
      dsimp only [tCons, tC, tNil]
      refine o7.draw (by first | decide | omega) (by first | decide | omega) fun z H6 z0 z1 o8 => ?_
      refine ⟨rfl, ?_⟩
      refine .inr ⟨_, rfl, ?_⟩
      refine pick (fun x => 0 ≤ x ∧ x < 60) o8 (by split <;> decide) (by show _ < (2 : Int); split <;> decide) (forall_cons ⟨x0, by omega⟩ (forall_cons ⟨y0, by omega⟩ (fun _ h => by cases h))) fun sz hsz o9 => ?_
      refine ⟨_, _, rfl, rfl, ?_⟩
      clear o5 o6 o7 o8
      have hD9 := o9.mem (q := (D, .lst (rs.map V.ref))) (by simp)
      refine ⟨_, rfl, ?_⟩
      refine ⟨.inl ⟨rfl, _, SqL.of hD9⟩, ?_⟩
      refine ⟨_, rfl, _, rfl, ?_⟩
      refine ⟨by show 2 ≤ sizeLine; decide, fun l2 hl2 => ?_⟩
      have o10 := o9.add (u := .lst [.str "public", .str "secret"]) hl2
      refine ⟨_, rfl, ?_⟩
      dsimp only [tCons, tC, tNil]
      refine o10.draw (by first | decide | omega) (by first | decide | omega) fun b H7 b0 b1 o11 => ?_
      refine pickS o11 b0 b1 fun c o12 => ?_
      refine ⟨_, rfl, ?_⟩
      dsimp only [tCons, tC, tNil]
      refine ⟨H0, p, _, rfl, o12, fun mo H8 mo0 mo1 o13 => ?_⟩
      refine ⟨by show 4 ≤ sizeLine; decide, fun u hu => ?_⟩
      have o14 := o13.add (u := .tup (Rg.row ⟨e, 1 + sz, c, mo⟩)) hu
      clear o9 o10 o11 o12 o13
      refine ⟨D, rs.map V.ref, _, rfl, rfl, o14.mem (q := (D, .lst (rs.map V.ref))) (by simp), Nat.lt_of_le_of_lt (show (rs.map V.ref).length ≤ 4 by rw [List.length_map]; omega) (by show 4 < sizeLine; decide), ?_⟩
      have o15 := o14.put (u' := .lst ((rs ++ [u]).map V.ref)) 1 rfl
      rw [List.map_append] at o15
      refine ⟨_, rfl, _, rfl, _, _, rfl, rfl, ?_⟩
      refine ⟨_, rfl, ?_⟩
      dsimp only [tCons, tC, tNil]
      refine o15.draw (by first | decide | omega) (by first | decide | omega) fun g H9 g0 g1 o16 => ?_
      refine ⟨by show 2 ≤ sizeLine; decide, fun l3 hl3 => ?_⟩
      have o17 : Wd P1 P2 H0 (upd H9 l3 (.lst ([0, g].map V.int))) p ((l3, .lst ([0, g].map V.int)) :: _) := o16.add hl3
      refine ⟨_, rfl, ?_⟩
      dsimp only [tCons, tC, tNil]
      refine o17.draw (by first | decide | omega) (by first | decide | omega) fun k H10 k0 k1 o18 => ?_
      refine pick (fun x => 0 ≤ x ∧ x < 3) o18 k0 k1 (forall_cons ⟨by omega, by omega⟩ (forall_cons ⟨g0, g1⟩ (fun _ h => by cases h))) fun gg hgg o19 => ?_
      refine ⟨_, _, rfl, rfl, ?_⟩
      have hgl : gs.length = i := by rw [← hp.length, hlen]
      refine ⟨_, _, e + (1 + sz) + gg, (u, HO.tup (Rg.row ⟨e, 1 + sz, c, mo⟩)) :: M, rs ++ [u], gs ++ [⟨e, 1 + sz, c, mo⟩], rfl, by omega, ?_, ?_, ?_, fun x hx => ?_, by rw [List.length_append, hlen]; rfl⟩
      · rw [List.map_append]
        exact o19.perm (.swap _ _ _)
      · exact paired_app (paired_imp (fun _ _ z => z.mono fun q hq => List.mem_cons_of_mem _ hq) hp) (.cons (.inl (List.mem_cons_self ..)) .nil)
      · exact lay_snoc ok hend (show 1 ≤ 1 + sz by omega) ⟨mo0, mo1⟩ (by omega)
      · rcases List.mem_append.mp hx with z | z
        · have := hend x z
          omega
        · rw [List.mem_singleton.mp z]
          show e + (1 + sz) ≤ _
          omega
    · rintro σ H3 ⟨v3, v4, e, M, rs, gs, rfl, he, o4, hp, ok, hend, hlen⟩
      (repeat (first | refine ⟨_, rfl, ?_⟩ | refine ⟨_, _, rfl, rfl, ?_⟩ | refine ⟨rfl, ?_⟩ | refine .inl ⟨_, rfl, ?_⟩ | refine .inr ⟨_, rfl, ?_⟩ | refine ⟨.inr ⟨by decide, by decide⟩, ?_⟩ | refine ⟨⟨by decide, by decide⟩, ?_⟩ | refine ⟨⟨by decide, by decide, by decide⟩, ?_⟩ | refine ⟨.inr ⟨by omega, by omega⟩, ?_⟩ | refine ⟨(by show (0 : Int) < _; first | decide | omega), ?_⟩ | refine ⟨Nat.le_trans (Nat.le_of_ble_eq_true rfl : _ ≤ 50) (by decide), ?_⟩ | refine ⟨_, _, _, _, rfl, rfl, upd_same, rfl, ?_⟩ | refine ⟨_, _, _, _, rfl, rfl, SqL.of upd_same, rfl, ?_⟩ | refine ⟨_, _, _, _, rfl, rfl, SqT.of upd_same, rfl, ?_⟩ | refine ⟨_, _, rfl, .inl (SqL.of upd_same), ?_⟩ | refine ⟨_, _, rfl, .inr (SqT.of upd_same), ?_⟩ | (refine' ⟨_, _, _, _, rfl, rfl, _, _, _⟩; rotate_left 2; (focus (first | assumption | exact SqL.of (by assumption) | exact SqT.of (by assumption) | exact Same.seq (by assumption) (by assumption))); (focus (exact rfl))) | (refine' ⟨_, _, rfl, _, _⟩; rotate_left 1; (focus (first | exact .inl (by assumption) | exact .inl (SqL.of (by assumption)) | exact .inr (by assumption) | exact .inr (SqT.of (by assumption)))))))
      refine ⟨D, _, rfl, .inl ⟨SqL.of (o4.mem (q := (D, .lst (rs.map V.ref))) (by simp)), fun t ht => ?_⟩⟩
      have o5 := o4.add (u := .tup (rs.map V.ref)) ht
      exact q t gs _ _ (suf ((t, HO.tup (rs.map V.ref)) :: (D, HO.lst (rs.map V.ref)) :: M) L) o5 ⟨rs, .inl (List.mem_cons_self ..), paired_imp (fun _ _ z => z.mono fun q hq => by simp [hq]) hp⟩ ok
theorem ok_insmk (T : Tx K mg) : FnOk P w K mg base CX0 3 T.a_law_instruction T.d_law_instruction ["source"] (spIns K P1 P2) := by
  have G_law_draw : FnOk P w K mg base CX0 1 T.a_law_draw T.d_law_draw ["source", "many"] spDraw := ok_draw T
  have G_law_word : FnOk P w K mg base CX0 2 T.a_law_word T.d_law_word ["source"] (spWord P1 P2) := ok_word T
  refine T.F_law_instruction.ok sc_law_instruction (fun vs H Q E h => ?_) (fun cdv A outer s H vs Q E hr h => ?_)
  · obtain ⟨H0, p, L, rfl, _⟩ := h
    rfl
  · obtain ⟨H0, p, L, rfl, o, q⟩ := h
    have hr_law_draw : Room 1 _ := hr.mono (by decide)
    have hr_law_word : Room 2 _ := hr.mono (by decide)
    refine ⟨_, (pss_cons (ps_set (i := 1) sc_law_instruction.nd rfl (.inl rfl) (pe_lst (pa_cons pe_str (pa_cons pe_str (pa_cons pe_str (pa_cons pe_str (pa_cons pe_str (pa_cons pe_str (pa_cons pe_str (pa_cons pe_str (pa_cons pe_str (pa_cons pe_str (pa_cons pe_str (pa_cons pe_str (pa_cons pe_str (pa_cons pe_str pa_nil))))))))))))))))
        (pss_cons (ps_set (i := 1) sc_law_instruction.nd rfl (.inl rfl) (pe_op op_cat (pv 1) (pe_lst (pa_cons pe_str (pa_cons pe_str (pa_cons pe_str (pa_cons pe_str (pa_cons pe_str (pa_cons pe_str (pa_cons pe_str (pa_cons pe_str (pa_cons pe_str (pa_cons pe_str (pa_cons pe_str (pa_cons pe_str pa_nil)))))))))))))))
        (pss_cons (ps_set (i := 1) sc_law_instruction.nd rfl (.inl rfl) (pe_op op_cat (pv 1) (pe_lst (pa_cons pe_str (pa_cons pe_str (pa_cons pe_str pa_nil))))))
        (pss_cons (ps_set (i := 2) sc_law_instruction.nd rfl (.inl rfl) (pe_ix ix_list (pv 1) (pe_call G_law_draw hr_law_draw (by rfl) T.g_law_draw T.F_law_draw.kp T.b_law_draw .nil pass0 (pa_cons (pv 0) (pa_cons pe_int pa_nil))) (fun _ _ => rfl)))
        (pss_cons (ps_set (i := 3) sc_law_instruction.nd rfl (.inl rfl) (pe_call G_law_draw hr_law_draw (by rfl) T.g_law_draw T.F_law_draw.kp T.b_law_draw .nil pass0 (pa_cons (pv 0) (pa_cons pe_int pa_nil))))
        (pss_cons (ps_set (i := 4) sc_law_instruction.nd rfl (.inl rfl) (pe_call G_law_draw hr_law_draw (by rfl) T.g_law_draw T.F_law_draw.kp T.b_law_draw .nil pass0 (pa_cons (pv 0) (pa_cons pe_int pa_nil))))
        (pss_cons (ps_set (i := 5) sc_law_instruction.nd rfl (.inl rfl) (pe_call G_law_draw hr_law_draw (by rfl) T.g_law_draw T.F_law_draw.kp T.b_law_draw .nil pass0 (pa_cons (pv 0) (pa_cons pe_int pa_nil))))
        (C8.pss_cut (ps_if (pt_cmpR op_eq (pe_call G_law_draw hr_law_draw (by rfl) T.g_law_draw T.F_law_draw.kp T.b_law_draw .nil pass0 (pa_cons (pv 0) (pa_cons pe_int pa_nil))) pe_int (nomark _))
        (pss_one (ps_set (i := 4) sc_law_instruction.nd rfl (.inl rfl) (pv 3)))
        pss_nil)
        (pss_cons (ps_if (pt_cmpR op_eq (pv 2) pe_str (nomark _))
        (pss_one (ps_ret (pe_tup (pa_cons (pv 2) (pa_cons (pv 3) (pa_cons (pe_call G_law_word hr_law_word (by rfl) T.g_law_word T.F_law_word.kp T.b_law_word .nil pass0 (pa_cons (pv 0) pa_nil)) pa_nil))))))
        pss_nil)
        (pss_cons (ps_if (pt_cmpR op_eq (pv 2) pe_str (nomark _))
        (pss_one (ps_ret (pe_tup (pa_cons (pv 2) (pa_cons (pv 3) (pa_cons (pe_call G_law_word hr_law_word (by rfl) T.g_law_word T.F_law_word.kp T.b_law_word .nil pass0 (pa_cons (pv 0) pa_nil)) (pa_cons (pv 5) pa_nil)))))))
        pss_nil)
        (pss_cons (ps_if (pt_cmpR op_eq (pv 2) pe_str (nomark _))
        (pss_one (ps_ret (pe_tup (pa_cons (pv 2) (pa_cons (pv 3) (pa_cons (pv 4) pa_nil))))))
        pss_nil)
        (pss_cons (ps_if (pt_cmpR op_eq (pv 2) pe_str (nomark _))
        (pss_one (ps_ret (pe_tup (pa_cons (pv 2) (pa_cons (pv 3) pa_nil)))))
        pss_nil)
        (pss_cons (ps_if (pt_cmpR op_in_seq (pv 2) (pe_tup (pa_cons pe_str (pa_cons pe_str (pa_cons pe_str pa_nil)))) (by rfl))
        (pss_one (ps_ret (pe_tup (pa_cons (pv 2) pa_nil))))
        pss_nil)
        (pss_cons (ps_if (pt_cmpR op_in_seq (pv 2) (pe_tup (pa_cons pe_str (pa_cons pe_str pa_nil))) (by rfl))
        (pss_one (ps_ret (pe_tup (pa_cons (pv 2) (pa_cons (pv 5) pa_nil)))))
        pss_nil)
        (pss_cons (ps_if (PW.pt (pw_or (pt_cmpR op_eq (pv 2) pe_str (nomark _)) (pw_or1 (pt_cmpR op_eq (pv 2) pe_str (nomark _)))))
        (pss_one (ps_ret (pe_tup (pa_cons (pv 2) (pa_cons (pv 3) (pa_cons (pv 4) (pa_cons (pe_ix ix_list (pe_lst (pa_cons (pe_call G_law_draw hr_law_draw (by rfl) T.g_law_draw T.F_law_draw.kp T.b_law_draw .nil pass0 (pa_cons (pv 0) (pa_cons pe_int pa_nil))) (pa_cons (pe_call G_law_draw hr_law_draw (by rfl) T.g_law_draw T.F_law_draw.kp T.b_law_draw .nil pass0 (pa_cons (pv 0) (pa_cons pe_int pa_nil))) pa_nil))) (pe_callTy call_int1 (by rfl) T.z_int (by decide +kernel) (pa_cons (pe_cmpR op_eq (pe_call G_law_draw hr_law_draw (by rfl) T.g_law_draw T.F_law_draw.kp T.b_law_draw .nil pass0 (pa_cons (pv 0) (pa_cons pe_int pa_nil))) pe_int (nomark _)) pa_nil)) (fun _ _ => rfl)) pa_nil)))))))
        pss_nil)
        (pss_one (ps_ret (pe_tup (pa_cons (pv 2) (pa_cons (pv 3) (pa_cons (pv 4) (pa_cons (pv 5) pa_nil)))))))))))))))))))))), ?_⟩
    (repeat (first | refine ⟨_, rfl, ?_⟩ | refine ⟨_, _, rfl, rfl, ?_⟩ | refine ⟨rfl, ?_⟩ | refine .inl ⟨_, rfl, ?_⟩ | refine .inr ⟨_, rfl, ?_⟩ | refine ⟨.inr ⟨by decide, by decide⟩, ?_⟩ | refine ⟨⟨by decide, by decide⟩, ?_⟩ | refine ⟨⟨by decide, by decide, by decide⟩, ?_⟩ | refine ⟨.inr ⟨by omega, by omega⟩, ?_⟩ | refine ⟨(by show (0 : Int) < _; first | decide | omega), ?_⟩ | refine ⟨Nat.le_trans (Nat.le_of_ble_eq_true rfl : _ ≤ 50) (by decide), ?_⟩ | refine ⟨_, _, _, _, rfl, rfl, upd_same, rfl, ?_⟩ | refine ⟨_, _, _, _, rfl, rfl, SqL.of upd_same, rfl, ?_⟩ | refine ⟨_, _, _, _, rfl, rfl, SqT.of upd_same, rfl, ?_⟩ | refine ⟨_, _, rfl, .inl (SqL.of upd_same), ?_⟩ | refine ⟨_, _, rfl, .inr (SqT.of upd_same), ?_⟩ | (refine' ⟨_, _, _, _, rfl, rfl, _, _, _⟩; rotate_left 2; (focus (first | assumption | exact SqL.of (by assumption) | exact SqT.of (by assumption) | exact Same.seq (by assumption) (by assumption))); (focus (exact rfl))) | (refine' ⟨_, _, rfl, _, _⟩; rotate_left 1; (focus (first | exact .inl (by assumption) | exact .inl (SqL.of (by assumption)) | exact .inr (by assumption) | exact .inr (SqT.of (by assumption)))))))
    refine fun a1 h1 => ?_
    have o1 := o.add (u := .lst [.str "set", .str "move", .str "add", .str "addc", .str "sub", .str "subc", .str "mul", .str "high", .str "div", .str "and", .str "or", .str "xor", .str "less", .str "downby"]) h1
    (repeat (first | refine ⟨_, rfl, ?_⟩ | refine ⟨_, _, rfl, rfl, ?_⟩ | refine ⟨rfl, ?_⟩ | refine .inl ⟨_, rfl, ?_⟩ | refine .inr ⟨_, rfl, ?_⟩ | refine ⟨.inr ⟨by decide, by decide⟩, ?_⟩ | refine ⟨⟨by decide, by decide⟩, ?_⟩ | refine ⟨⟨by decide, by decide, by decide⟩, ?_⟩ | refine ⟨.inr ⟨by omega, by omega⟩, ?_⟩ | refine ⟨(by show (0 : Int) < _; first | decide | omega), ?_⟩ | refine ⟨Nat.le_trans (Nat.le_of_ble_eq_true rfl : _ ≤ 50) (by decide), ?_⟩ | refine ⟨_, _, _, _, rfl, rfl, upd_same, rfl, ?_⟩ | refine ⟨_, _, _, _, rfl, rfl, SqL.of upd_same, rfl, ?_⟩ | refine ⟨_, _, _, _, rfl, rfl, SqT.of upd_same, rfl, ?_⟩ | refine ⟨_, _, rfl, .inl (SqL.of upd_same), ?_⟩ | refine ⟨_, _, rfl, .inr (SqT.of upd_same), ?_⟩ | (refine' ⟨_, _, _, _, rfl, rfl, _, _, _⟩; rotate_left 2; (focus (first | assumption | exact SqL.of (by assumption) | exact SqT.of (by assumption) | exact Same.seq (by assumption) (by assumption))); (focus (exact rfl))) | (refine' ⟨_, _, rfl, _, _⟩; rotate_left 1; (focus (first | exact .inl (by assumption) | exact .inl (SqL.of (by assumption)) | exact .inr (by assumption) | exact .inr (SqT.of (by assumption)))))))
    refine fun a2 h2 => ?_
    have o2 := o1.add (u := .lst [.str "down", .str "up", .str "carry", .str "clear", .str "load", .str "store", .str "load", .str "store", .str "add", .str "add", .str "below", .str "jump"]) h2
    refine ⟨a1, a2, _, _, rfl, rfl, o2.mem (List.mem_cons_of_mem _ (List.mem_cons_self ..)), o2.mem (List.mem_cons_self ..), by show 26 ≤ sizeLine; decide, fun a3 h3 => ?_⟩
    have o3 := (o2.sub (suf [_, _] L).sublist).add (u := .lst ((names29.take 26).map V.str)) h3
    (repeat (first | refine ⟨_, rfl, ?_⟩ | refine ⟨_, _, rfl, rfl, ?_⟩ | refine ⟨rfl, ?_⟩ | refine .inl ⟨_, rfl, ?_⟩ | refine .inr ⟨_, rfl, ?_⟩ | refine ⟨.inr ⟨by decide, by decide⟩, ?_⟩ | refine ⟨⟨by decide, by decide⟩, ?_⟩ | refine ⟨⟨by decide, by decide, by decide⟩, ?_⟩ | refine ⟨.inr ⟨by omega, by omega⟩, ?_⟩ | refine ⟨(by show (0 : Int) < _; first | decide | omega), ?_⟩ | refine ⟨Nat.le_trans (Nat.le_of_ble_eq_true rfl : _ ≤ 50) (by decide), ?_⟩ | refine ⟨_, _, _, _, rfl, rfl, upd_same, rfl, ?_⟩ | refine ⟨_, _, _, _, rfl, rfl, SqL.of upd_same, rfl, ?_⟩ | refine ⟨_, _, _, _, rfl, rfl, SqT.of upd_same, rfl, ?_⟩ | refine ⟨_, _, rfl, .inl (SqL.of upd_same), ?_⟩ | refine ⟨_, _, rfl, .inr (SqT.of upd_same), ?_⟩ | (refine' ⟨_, _, _, _, rfl, rfl, _, _, _⟩; rotate_left 2; (focus (first | assumption | exact SqL.of (by assumption) | exact SqT.of (by assumption) | exact Same.seq (by assumption) (by assumption))); (focus (exact rfl))) | (refine' ⟨_, _, rfl, _, _⟩; rotate_left 1; (focus (first | exact .inl (by assumption) | exact .inl (SqL.of (by assumption)) | exact .inr (by assumption) | exact .inr (SqT.of (by assumption)))))))
    refine fun a4 h4 => ?_
    have o4 := o3.add (u := .lst [.str "call", .str "ret", .str "halt"]) h4
    refine ⟨a3, a4, _, _, rfl, rfl, o4.mem (List.mem_cons_of_mem _ (List.mem_cons_self ..)), o4.mem (List.mem_cons_self ..), by show 29 ≤ sizeLine; decide, fun a5 h5 => ?_⟩
    have o5 : Wd P1 P2 H0 _ p ((a5, .lst (names29.map V.str)) :: _) := o4.add h5
    have o6 := o5.sub ((suf [(a4, HO.lst [.str "call", .str "ret", .str "halt"]), (a3, HO.lst ((names29.take 26).map V.str))] L).sublist.cons_cons _)
    clear o o1 o2 o3 o4 o5
    refine ⟨_, rfl, _, rfl, ?_⟩
    dsimp only [tCons, tC, tNil]
    refine o6.draw (m := 29) (by decide) (by decide) fun z H6 z0 z1 o7 => ?_
    obtain ⟨n, hn, hz⟩ := at_map V.str (l := names29) z0 z1
    refine ⟨a5, _, _, _, rfl, rfl, SqL.of (o7.mem (List.mem_cons_self ..)), hz, ?_⟩
    have o8 := o7.sub (List.sublist_cons_self _ _)
    clear o6 o7 hz
    refine ⟨_, rfl, ?_⟩
    dsimp only [tCons, tC, tNil]
    refine o8.draw (by first | decide | omega) (by first | decide | omega) fun f1 H7 f10 f11 o9 => ?_
    refine ⟨_, rfl, ?_⟩
    dsimp only [tCons, tC, tNil]
    refine o9.draw (by first | decide | omega) (by first | decide | omega) fun f2 H8 f20 f21 o10 => ?_
    refine ⟨_, rfl, ?_⟩
    dsimp only [tCons, tC, tNil]
    refine o10.draw (by first | decide | omega) (by first | decide | omega) fun f3 H9 f30 f31 o11 => ?_
    clear o8 o9 o10
    refine ⟨fun σ H' => ∃ x y z : Int, σ = [some (.ref p), some (.ref a5), some (.str n), some (.int x), some (.int y), some (.int z)] ∧ rg x ∧ rg y ∧ rg z ∧ Wd P1 P2 H0 H' p L, ?_, ?_⟩
    · skip
      refine ⟨_, rfl, ?_⟩
      dsimp only [tCons, tC, tNil]
      refine o11.draw (by first | decide | omega) (by first | decide | omega) fun b H10 b0 b1 o12 => ?_
      (repeat (first | refine ⟨_, rfl, ?_⟩ | refine ⟨_, _, rfl, rfl, ?_⟩ | refine ⟨rfl, ?_⟩ | refine .inl ⟨_, rfl, ?_⟩ | refine .inr ⟨_, rfl, ?_⟩ | refine ⟨.inr ⟨by decide, by decide⟩, ?_⟩ | refine ⟨⟨by decide, by decide⟩, ?_⟩ | refine ⟨⟨by decide, by decide, by decide⟩, ?_⟩ | refine ⟨.inr ⟨by omega, by omega⟩, ?_⟩ | refine ⟨(by show (0 : Int) < _; first | decide | omega), ?_⟩ | refine ⟨Nat.le_trans (Nat.le_of_ble_eq_true rfl : _ ≤ 50) (by decide), ?_⟩ | refine ⟨_, _, _, _, rfl, rfl, upd_same, rfl, ?_⟩ | refine ⟨_, _, _, _, rfl, rfl, SqL.of upd_same, rfl, ?_⟩ | refine ⟨_, _, _, _, rfl, rfl, SqT.of upd_same, rfl, ?_⟩ | refine ⟨_, _, rfl, .inl (SqL.of upd_same), ?_⟩ | refine ⟨_, _, rfl, .inr (SqT.of upd_same), ?_⟩ | (refine' ⟨_, _, _, _, rfl, rfl, _, _, _⟩; rotate_left 2; (focus (first | assumption | exact SqL.of (by assumption) | exact SqT.of (by assumption) | exact Same.seq (by assumption) (by assumption))); (focus (exact rfl))) | (refine' ⟨_, _, rfl, _, _⟩; rotate_left 1; (focus (first | exact .inl (by assumption) | exact .inl (SqL.of (by assumption)) | exact .inr (by assumption) | exact .inr (SqT.of (by assumption)))))))
      refine ite2 (fun _ => ?_) (fun _ => ?_)
      · exact ⟨_, rfl, f1, f1, f3, rfl, ⟨f10, f11⟩, ⟨f10, f11⟩, ⟨f30, f31⟩, o12⟩
      · exact ⟨f1, f2, f3, rfl, ⟨f10, f11⟩, ⟨f20, f21⟩, ⟨f30, f31⟩, o12⟩
    · clear o11
      rintro σ H ⟨x, y, z, rfl, hx, hy, hz, o⟩
      refine ⟨_, rfl, ?_⟩
      refine ⟨rfl, ?_⟩
      refine ⟨_, rfl, ?_⟩
      refine ite2 (fun e1 => ?_) (fun e1 => ?_)
      · have e1 : n = "set" := V.str.inj (of_decide_eq_true e1)
        subst e1
        refine ⟨_, rfl, _, rfl, _, rfl, ?_⟩
        dsimp only [tCons, tC, tNil]
        refine ⟨H0, p, L, rfl, o, fun wv H2 w0 w1 o2 => ?_⟩
        refine ⟨by show 3 ≤ sizeLine; decide, fun u hu => ?_⟩
        have o3 := o2.add (u := .tup (Ins.set x wv).row) hu
        exact q u (.set x wv) _ _ (suf [_] L) o3 (List.mem_cons_self ..) ⟨hx, w0, w1⟩
      · have e1 : ¬ n = "set" := fun z => e1 (decide_eq_true (by rw [z]))
        refine ⟨_, rfl, ?_⟩
        refine ⟨rfl, ?_⟩
        refine ⟨_, rfl, ?_⟩
        refine ite2 (fun e2 => ?_) (fun e2 => ?_)
        · have e2 : n = "below" := V.str.inj (of_decide_eq_true e2)
          subst e2
          refine ⟨_, rfl, _, rfl, _, rfl, ?_⟩
          dsimp only [tCons, tC, tNil]
          refine ⟨H0, p, L, rfl, o, fun wv H2 w0 w1 o2 => ?_⟩
          refine ⟨_, rfl, ?_⟩
          refine ⟨by show 4 ≤ sizeLine; decide, fun u hu => ?_⟩
          have o3 := o2.add (u := .tup (Ins.other "below" [.int x, .int wv, .int z]).row) hu
          exact q u (.other "below" [.int x, .int wv, .int z]) _ _ (suf [_] L) o3 (List.mem_cons_self ..) (by show ("below" : Str) ∈ _; decide +kernel)
        · have e2 : ¬ n = "below" := fun z => e2 (decide_eq_true (by rw [z]))
          refine ⟨_, rfl, ?_⟩
          refine ⟨rfl, ?_⟩
          refine ⟨_, rfl, ?_⟩
          refine ite2 (fun e3 => ?_) (fun e3 => ?_)
          · have e3 : n = "move" := V.str.inj (of_decide_eq_true e3)
            subst e3
            refine ⟨_, rfl, _, rfl, _, rfl, ?_⟩
            refine ⟨by show 3 ≤ sizeLine; decide, fun u hu => ?_⟩
            have o3 := o.add (u := .tup (Ins.move x y).row) hu
            exact q u (.move x y) _ _ (suf [_] L) o3 (List.mem_cons_self ..) ⟨hx, hy⟩
          · have e3 : ¬ n = "move" := fun z => e3 (decide_eq_true (by rw [z]))
            refine ⟨_, rfl, ?_⟩
            refine ⟨rfl, ?_⟩
            refine ⟨_, rfl, ?_⟩
            refine ite2 (fun e4 => ?_) (fun e4 => ?_)
            · have e4 : n = "carry" := V.str.inj (of_decide_eq_true e4)
              subst e4
              refine ⟨_, rfl, _, rfl, ?_⟩
              refine ⟨by show 2 ≤ sizeLine; decide, fun u hu => ?_⟩
              have o3 := o.add (u := .tup (Ins.carry x).row) hu
              exact q u (.carry x) _ _ (suf [_] L) o3 (List.mem_cons_self ..) hx
            · have e4 : ¬ n = "carry" := fun z => e4 (decide_eq_true (by rw [z]))
              refine ⟨_, rfl, ?_⟩
              refine ⟨by show 3 ≤ sizeLine; decide, fun t1 ht1 => ?_⟩
              have o1 := o.add (u := .tup [.str "clear", .str "ret", .str "halt"]) ht1
              refine ⟨t1, (["clear", "ret", "halt"] : List Str).map V.str, rfl, .inr (SqT.of upd_same), rfl, by decide +kernel, ?_⟩
              rw [if_neg Bool.false_ne_true, inV_str]
              refine ⟨_, rfl, ?_⟩
              refine ite2 (fun e5 => ?_) (fun e5 => ?_)
              · have e5 : n = "clear" ∨ n = "ret" ∨ n = "halt" := by simpa using of_decide_eq_true e5
                refine ⟨_, rfl, ?_⟩
                refine ⟨by show 1 ≤ sizeLine; decide, fun u hu => ?_⟩
                have o3 := o1.add (u := .tup [.str n]) hu
                by_cases z : n = "clear"
                · subst z
                  exact q u .clear _ _ (suf [_, _] L) o3 (List.mem_cons_self ..) trivial
                · refine q u (.other n []) _ _ (suf [_, _] L) o3 (List.mem_cons_self ..) ?_
                  rcases e5 with rfl | rfl | rfl
                  · exact absurd rfl z
                  · show ("ret" : Str) ∈ _
                    decide +kernel
                  · show ("halt" : Str) ∈ _
                    decide +kernel
              · have e5 : ¬ n ∈ (["clear", "ret", "halt"] : List Str) := fun z => e5 (decide_eq_true z)
                generalize upd H t1 _ = H1 at o1 ⊢
                refine ⟨_, rfl, ?_⟩
                refine ⟨by show 2 ≤ sizeLine; decide, fun t2 ht2 => ?_⟩
                have o2 := o1.add (u := .tup [.str "jump", .str "call"]) ht2
                refine ⟨t2, (["jump", "call"] : List Str).map V.str, rfl, .inr (SqT.of upd_same), rfl, by decide +kernel, ?_⟩
                rw [if_neg Bool.false_ne_true, inV_str]
                refine ⟨_, rfl, ?_⟩
                refine ite2 (fun e6 => ?_) (fun e6 => ?_)
                · have e6 : n = "jump" ∨ n = "call" := by simpa using of_decide_eq_true e6
                  refine ⟨_, rfl, _, rfl, ?_⟩
                  refine ⟨by show 2 ≤ sizeLine; decide, fun u hu => ?_⟩
                  have o3 := o2.add (u := .tup [.str n, .int z]) hu
                  refine q u (.other n [.int z]) _ _ (suf [_, _, _] L) o3 (List.mem_cons_self ..) ?_
                  rcases e6 with rfl | rfl
                  · show ("jump" : Str) ∈ _
                    decide +kernel
                  · show ("call" : Str) ∈ _
                    decide +kernel
                · have e6 : ¬ n ∈ (["jump", "call"] : List Str) := fun z => e6 (decide_eq_true z)
                  generalize upd H1 t2 _ = H2 at o2 ⊢
                  have o := o2
                  clear o1 o2
                  refine ⟨_, rfl, ?_⟩
                  refine ⟨rfl, ?_⟩
                  refine ⟨_, rfl, ?_⟩
                  refine ite2 (fun e7 => ?_) (fun e7 => ?_)
                  · have e7 : n = "load" := V.str.inj (of_decide_eq_true e7)
                    subst e7
                    refine ⟨_, rfl, _, rfl, _, rfl, ?_⟩
                    refine ⟨_, rfl, ?_⟩
                    dsimp only [tCons, tC, tNil]
                    refine o.draw (by first | decide | omega) (by first | decide | omega) fun d1 H3 d10 d11 o3 => ?_
                    refine ⟨_, rfl, ?_⟩
                    dsimp only [tCons, tC, tNil]
                    refine o3.draw (by first | decide | omega) (by first | decide | omega) fun d2 H4 d20 d21 o4 => ?_
                    refine ⟨by show 2 ≤ sizeLine; decide, fun l hl => ?_⟩
                    have o5 : Wd P1 P2 H0 (upd H4 l (.lst ([d1, d2].map V.int))) p ((l, .lst ([d1, d2].map V.int)) :: _) := o4.add hl
                    refine ⟨_, rfl, ?_⟩
                    dsimp only [tCons, tC, tNil]
                    refine o5.draw (by first | decide | omega) (by first | decide | omega) fun b H5 b0 b1 o6 => ?_
                    refine ⟨rfl, ?_⟩
                    refine .inr ⟨_, rfl, ?_⟩
                    refine pick (fun x => 0 ≤ x) o6 (by split <;> decide) (by show _ < (2 : Int); split <;> decide) (forall_cons d10 (forall_cons d20 (fun _ h => by cases h))) fun dd hdd o7 => ?_
                    refine ⟨by show 4 ≤ sizeLine; decide, fun u hu => ?_⟩
                    have o8 := o7.add (u := .tup (Ins.load x y dd).row) hu
                    exact q u (.load x y dd) _ _ (suf [_, _, _] L) o8 (List.mem_cons_self ..) ⟨hx, hy⟩
                  · have e7 : ¬ n = "load" := fun z => e7 (decide_eq_true (by rw [z]))
                    refine ⟨_, rfl, ?_⟩
                    refine ⟨rfl, ?_⟩
                    refine ⟨_, rfl, ?_⟩
                    refine ite2 (fun e8 => ?_) (fun e8 => ?_)
                    · have e8 : n = "store" := V.str.inj (of_decide_eq_true e8)
                      subst e8
                      refine ⟨_, rfl, _, rfl, _, rfl, ?_⟩
                      refine ⟨_, rfl, ?_⟩
                      dsimp only [tCons, tC, tNil]
                      refine o.draw (by first | decide | omega) (by first | decide | omega) fun d1 H3 d10 d11 o3 => ?_
                      refine ⟨_, rfl, ?_⟩
                      dsimp only [tCons, tC, tNil]
                      refine o3.draw (by first | decide | omega) (by first | decide | omega) fun d2 H4 d20 d21 o4 => ?_
                      refine ⟨by show 2 ≤ sizeLine; decide, fun l hl => ?_⟩
                      have o5 : Wd P1 P2 H0 (upd H4 l (.lst ([d1, d2].map V.int))) p ((l, .lst ([d1, d2].map V.int)) :: _) := o4.add hl
                      refine ⟨_, rfl, ?_⟩
                      dsimp only [tCons, tC, tNil]
                      refine o5.draw (by first | decide | omega) (by first | decide | omega) fun b H5 b0 b1 o6 => ?_
                      refine ⟨rfl, ?_⟩
                      refine .inr ⟨_, rfl, ?_⟩
                      refine pick (fun x => 0 ≤ x) o6 (by split <;> decide) (by show _ < (2 : Int); split <;> decide) (forall_cons d10 (forall_cons d20 (fun _ h => by cases h))) fun dd hdd o7 => ?_
                      refine ⟨by show 4 ≤ sizeLine; decide, fun u hu => ?_⟩
                      have o8 := o7.add (u := .tup (Ins.store x y dd).row) hu
                      exact q u (.store x y dd) _ _ (suf [_, _, _] L) o8 (List.mem_cons_self ..) ⟨hx, hy⟩
                    · have e8 : ¬ n = "store" := fun z => e8 (decide_eq_true (by rw [z]))
                      refine ⟨_, rfl, _, rfl, _, rfl, _, rfl, ?_⟩
                      refine ⟨by show 4 ≤ sizeLine; decide, fun u hu => ?_⟩
                      have o3 := o.add (u := .tup [.str n, .int x, .int y, .int z]) hu
                      rcases names_rest n hn with w | w | w | w | w | w | w | w | w | w | w
                      · exact absurd w e1
                      · exact absurd w e2
                      · exact absurd w e3
                      · exact absurd w e4
                      · exact absurd w e5
                      · exact absurd w e6
                      · exact absurd w e7
                      · exact absurd w e8
                      · exact q u (.sh n x y z) _ _ (suf [_, _, _] L) o3 (List.mem_cons_self ..) ⟨.inl w, hx, hy, hz⟩
                      · exact q u (.sh n x y z) _ _ (suf [_, _, _] L) o3 (List.mem_cons_self ..) ⟨.inr w, hx, hy, hz⟩
                      · exact q u (.ar n x y z) _ _ (suf [_, _, _] L) o3 (List.mem_cons_self ..) ⟨w, hx, hy, hz⟩
end
end K70

set_option Elab.async false
set_option linter.all false
set_option maxRecDepth 100000
set_option maxHeartbeats 4000000
namespace K70
open PySem PySem.Spec PyProof.Rows L2 Lw GxR WD
theorem mem_dropL {L B : List (Addr × HO)} {D : Addr} {ys : List V} {a : Addr} {xs : List V} (h : (a, HO.tup xs) ∈ L ++ ((D, HO.lst ys) :: B)) : (a, HO.tup xs) ∈ L ++ B := by
  rcases List.mem_append.mp h with z | z
  · exact List.mem_append_left _ z
  · rcases List.mem_cons.mp z with e | z
    · cases e
    · exact List.mem_append_right _ z
theorem TupAt.dropL {K : PySem.W.Frag} {L B : List (Addr × HO)} {D : Addr} {ys : List V} {a : Addr} {xs : List V} (h : TupAt K (L ++ ((D, HO.lst ys) :: B)) a xs) : TupAt K (L ++ B) a xs := by
  rcases h with h | h
  · exact .inl (mem_dropL h)
  · exact .inr h
theorem StAt.dropL {K : PySem.W.Frag} {L B : List (Addr × HO)} {D : Addr} {ys : List V} {a : Addr} {fs : List Fa} {c : Bool} (h : StAt K (L ++ ((D, HO.lst ys) :: B)) a fs c) : StAt K (L ++ B) a fs c := by
  obtain ⟨rs, h1, h2, h3⟩ := h
  exact ⟨rs, TupAt.dropL h1, paired_imp (fun _ _ z => TupAt.dropL z) h2, h3⟩
theorem LayAt.dropL {K : PySem.W.Frag} {L B : List (Addr × HO)} {D : Addr} {ys : List V} {a : Addr} {gs : List Rg} (h : LayAt K (L ++ ((D, HO.lst ys) :: B)) a gs) : LayAt K (L ++ B) a gs := by
  obtain ⟨rs, h1, h2⟩ := h
  exact ⟨rs, TupAt.dropL h1, paired_imp (fun _ _ z => TupAt.dropL z) h2⟩
theorem ok_r {fs : List Fa} (h : ∀ f ∈ fs, Fa.ok f) : ∀ f ∈ fs, okR f := fun f hf => ⟨(h f hf).1, (h f hf).2.1, (h f hf).2.2.1⟩
theorem wt0 {P1 P2 : Addr} {HH : Hp} : Wt P1 P2 HH HH [] := by
  have t0 : TriplesOk (#[] : Array Value).toList := by
    trivial
  exact ⟨#[], #[], t0, t0, Same.refl HH, fun q hq => (by cases hq), (by simp), fun q hq => (by cases hq)⟩
def spOrder (K : PySem.W.Frag) : Sp := fun vs H Q _ => ∃ (a : Addr) (ns : List Int) (at_ : Int), vs = [.ref a, .int at_] ∧ SqL K H a (ns.map V.int) ∧ ns.length ≤ 63 ∧ 0 ≤ at_ ∧ at_ ≤ 100 ∧ ∀ H', Same H H' → Q (.bl true) H'
/-- what the turns keep -/
def TI (K : PySem.W.Frag) (P1 P2 : Addr) (H0 : Hp) (la : Addr) (gs : List Rg) (H : Hp) (N : List (Addr × HO)) (st wi ot : Addr) : Prop := ∃ fs c hs d ks e, Wt P1 P2 H0 H N ∧ LayAt K N la gs ∧ StAt K N st fs c ∧ (∀ f ∈ fs, okR f) ∧ StAt K N wi hs d ∧ (∀ f ∈ hs, okR f) ∧ StAt K N ot ks e ∧ (∀ f ∈ ks, okR f) ∧ Paired fitP fs hs ∧ ffB c d = true
theorem row_name {i : Ins} (hi : i.ok) : ∃ n ys, i.row = .str n :: ys ∧ (n = "load" ∨ n = "store" → ∃ x y z, i = .load x y z ∨ i = .store x y z) := by
  have no : ∀ l : List Str, ("load" : Str) ∉ l → ("store" : Str) ∉ l → ∀ n ∈ l, ¬ (n = "load" ∨ n = "store") := fun l h1 h2 n hn z => by
    rcases z with rfl | rfl
    · exact h1 hn
    · exact h2 hn
  cases i with
  | set r w => exact ⟨"set", _, rfl, fun z => absurd z (by decide +kernel)⟩
  | move r s => exact ⟨"move", _, rfl, fun z => absurd z (by decide +kernel)⟩
  | carry r => exact ⟨"carry", _, rfl, fun z => absurd z (by decide +kernel)⟩
  | load r s d => exact ⟨"load", _, rfl, fun _ => ⟨r, s, d, .inl rfl⟩⟩
  | store r s d => exact ⟨"store", _, rfl, fun _ => ⟨r, s, d, .inr rfl⟩⟩
  | clear => exact ⟨"clear", _, rfl, fun z => absurd z (by decide +kernel)⟩
  | sh n r s k =>
    refine ⟨n, _, rfl, fun z => absurd z ?_⟩
    rcases hi.1 with rfl | rfl <;> decide +kernel
  | ar n r s t => exact ⟨n, _, rfl, fun z => absurd z (no ar12 (by decide +kernel) (by decide +kernel) n hi.1)⟩
  | other n ys => exact ⟨n, _, rfl, fun z => absurd z (no _ (by decide +kernel) (by decide +kernel) n hi)⟩
section
variable {P : Program} {w : World} {K : PySem.W.Frag} {mg : Str → Option Value} {base : Heap}
theorem ok_order (T : Tx K mg) (P1 P2 : Addr) : FnOk P w K mg base CX0 7 T.a_law_order_holds T.d_law_order_holds ["script", "at"] (spOrder K) := by
  have G_law_source : FnOk P w K mg base CX0 1 T.a_law_source T.d_law_source ["script", "k"] (spSource K) := ok_source T
  have G_law_draw : FnOk P w K mg base CX0 1 T.a_law_draw T.d_law_draw ["source", "many"] spDraw := ok_draw T
  have G_law_layout : FnOk P w K mg base CX0 3 T.a_law_layout T.d_law_layout ["source"] (spLay K P1 P2) := ok_lay T
  have G_law_state : FnOk P w K mg base CX0 4 T.a_law_state T.d_law_state ["source"] (spStMk K P1 P2) := ok_stmk T
  have G_law_wider : FnOk P w K mg base CX0 3 T.a_law_wider T.d_law_wider ["source", "state"] (spWs K P1 P2) := ok_ws T
  have G_law_fits : FnOk P w K mg base CX0 2 T.a_law_fits T.d_law_fits ["state", "other"] (spLFits K) := ok_lfits T
  have G_law_instruction : FnOk P w K mg base CX0 3 T.a_law_instruction T.d_law_instruction ["source"] (spIns K P1 P2) := ok_insmk T
  have G_next_state : FnOk P w K mg base CX0 6 T.a_next_state T.d_next_state ["layout", "state", "instruction"] (spNext K P1 P2) := ok_next T
  have G_union : FnOk P w K mg base CX0 3 T.a_union T.d_union ["state", "other"] (spUnion K P1 P2) := ok_union T
  refine T.F_law_order_holds.ok sc_law_order_holds (fun vs H Q E h => ?_) (fun cdv A outer s H vs Q E hr h => ?_)
  · obtain ⟨a, ns, at_, rfl, _⟩ := h
    rfl
  · obtain ⟨a, ns, at_, rfl, hS, hlen, ha0, ha1, q⟩ := h
    have hr_law_source : Room 1 _ := hr.mono (by decide)
    have hr_law_draw : Room 1 _ := hr.mono (by decide)
    have hr_law_layout : Room 3 _ := hr.mono (by decide)
    have hr_law_state : Room 4 _ := hr.mono (by decide)
    have hr_law_wider : Room 3 _ := hr.mono (by decide)
    have hr_law_fits : Room 2 _ := hr.mono (by decide)
    have hr_law_instruction : Room 3 _ := hr.mono (by decide)
    have hr_next_state : Room 6 _ := hr
    have hr_union : Room 3 _ := hr.mono (by decide)
    refine ⟨_, (pss_cons (ps_set (i := 2) sc_law_order_holds.nd rfl (.inl rfl) (pe_call G_law_source hr_law_source (by rfl) T.g_law_source T.F_law_source.kp T.b_law_source .nil pass0 (pa_cons (pv 0) (pa_cons (pv 1) pa_nil))))
        (pss_cons (ps_set (i := 3) sc_law_order_holds.nd rfl (.inl rfl) (pe_call G_law_layout hr_law_layout (by rfl) T.g_law_layout T.F_law_layout.kp T.b_law_layout .nil pass0 (pa_cons (pv 2) pa_nil)))
        (pss_cons (ps_set (i := 4) sc_law_order_holds.nd rfl (.inr rfl) (pe_call G_law_state hr_law_state (by rfl) T.g_law_state T.F_law_state.kp T.b_law_state .nil pass0 (pa_cons (pe_call G_law_source hr_law_source (by rfl) T.g_law_source T.F_law_source.kp T.b_law_source .nil pass0 (pa_cons (pv 0) (pa_cons (pe_op op_add (pv 1) pe_int) pa_nil))) pa_nil)))
        (pss_cons (ps_set (i := 5) sc_law_order_holds.nd rfl (.inl rfl) (pe_call G_law_wider hr_law_wider (by rfl) T.g_law_wider T.F_law_wider.kp T.b_law_wider .nil pass0 (pa_cons (pe_call G_law_source hr_law_source (by rfl) T.g_law_source T.F_law_source.kp T.b_law_source .nil pass0 (pa_cons (pv 0) (pa_cons (pe_op op_add (pv 1) pe_int) pa_nil))) (pa_cons (pv 4) pa_nil))))
        (pss_cons (ps_set (i := 6) sc_law_order_holds.nd rfl (.inl rfl) (pe_call G_law_state hr_law_state (by rfl) T.g_law_state T.F_law_state.kp T.b_law_state .nil pass0 (pa_cons (pe_call G_law_source hr_law_source (by rfl) T.g_law_source T.F_law_source.kp T.b_law_source .nil pass0 (pa_cons (pv 0) (pa_cons (pe_op op_add (pv 1) pe_int) pa_nil))) pa_nil)))
        (pss_cons (ps_if (pt_not (pt_val (pe_call G_law_fits hr_law_fits (by rfl) T.g_law_fits T.F_law_fits.kp T.b_law_fits .nil pass0 (pa_cons (pv 4) (pa_cons (pv 5) pa_nil)))))
        (pss_one (ps_ret pe_bl))
        pss_nil)
        (pss_cons (ps_for PassesOwn.never rfl (pi_range1 rfl T.z_range (pa_cons (pe_op op_add pe_int (pe_call G_law_draw hr_law_draw (by rfl) T.g_law_draw T.F_law_draw.kp T.b_law_draw .nil pass0 (pa_cons (pv 2) (pa_cons pe_int pa_nil)))) pa_nil)) (pg_name (i := 7) sc_law_order_holds.nd rfl (.inl rfl))
        (pss_cons (ps_set (i := 8) sc_law_order_holds.nd rfl (.inl rfl) (pe_call G_law_instruction hr_law_instruction (by rfl) T.g_law_instruction T.F_law_instruction.kp T.b_law_instruction .nil pass0 (pa_cons (pe_call G_law_source hr_law_source (by rfl) T.g_law_source T.F_law_source.kp T.b_law_source .nil pass0 (pa_cons (pv 0) (pa_cons (pe_op op_add (pe_op op_add (pv 1) pe_int) (pv 7)) pa_nil))) pa_nil)))
        (pss_cons (ps_setLc (i := 9) (own := [("k", 11)]) (g := gName 11) (by rfl) sc_law_order_holds.nd rfl rfl (sw_true rfl rfl rfl (by decide +kernel)) (pi_range1 rfl T.z_range (pa_cons pe_int pa_nil)) (blkOk_by (N := n_law_order_holds) (sc := defScope s_law_order_holds) (by decide +kernel)) (fun _ _ _ _ _ => pg_name (i := 11) sc_law_order_holds.nd rfl (Or.inl rfl)) (fun _ _ _ _ _ => pts_one (pt_cmpR op_lt (pe_ix (show IxR _ (rIxT K) from ix_tup) (pe_ix (show IxR _ (rIxT K) from ix_tup) (pv 4) (pv 11) (fun _ _ => rfl)) pe_int (fun _ _ => rfl)) pe_int (nomark _))) (fun _ _ _ _ _ => (pv 11)))
        (C8.pss_cut (ps_if (PW.pt (pw_and (pt_cmpR op_in_seq (pe_ix ix_tup (pv 8) pe_int (fun _ _ => rfl)) (pe_tup (pa_cons pe_str (pa_cons pe_str pa_nil))) (by rfl)) (pw_and1 (pt_cmpR op_gt (pe_callB call_len_seq (by rfl) T.z_len (by decide +kernel) (pa_cons (pv 9) pa_nil)) pe_int (nomark _)))))
        (pss_one (ps_set (i := 8) sc_law_order_holds.nd rfl (.inl rfl) (pe_tup (pa_cons (pe_ix ix_tup (pv 8) pe_int (fun _ _ => rfl)) (pa_cons (pe_ix ix_tup (pv 8) pe_int (fun _ _ => rfl)) (pa_cons (pe_ix ix_list (pv 9) (pe_op op_mod (pe_ix ix_tup (pv 8) pe_int (fun _ _ => rfl)) (pe_callB call_len_seq (by rfl) T.z_len (by decide +kernel) (pa_cons (pv 9) pa_nil))) (fun _ _ => rfl)) (pa_cons (pe_ix ix_tup (pv 8) pe_int (fun _ _ => rfl)) pa_nil)))))))
        pss_nil)
        (pss_cons (ps_set (i := 10) sc_law_order_holds.nd rfl (.inl rfl) (pe_call G_next_state hr_next_state (by rfl) T.g_next_state T.F_next_state.kp T.b_next_state .nil pass0 (pa_cons (pv 3) (pa_cons (pe_call G_union hr_union (by rfl) T.g_union T.F_union.kp T.b_union .nil pass0 (pa_cons (pv 4) (pa_cons (pv 6) pa_nil))) (pa_cons (pv 8) pa_nil)))))
        (pss_cons (ps_set (i := 4) sc_law_order_holds.nd rfl (.inr rfl) (pe_call G_next_state hr_next_state (by rfl) T.g_next_state T.F_next_state.kp T.b_next_state .nil pass0 (pa_cons (pv 3) (pa_cons (pv 4) (pa_cons (pv 8) pa_nil)))))
        (pss_cons (ps_set (i := 5) sc_law_order_holds.nd rfl (.inl rfl) (pe_call G_next_state hr_next_state (by rfl) T.g_next_state T.F_next_state.kp T.b_next_state .nil pass0 (pa_cons (pv 3) (pa_cons (pv 5) (pa_cons (pv 8) pa_nil)))))
        (pss_cons (ps_set (i := 6) sc_law_order_holds.nd rfl (.inl rfl) (pe_call G_next_state hr_next_state (by rfl) T.g_next_state T.F_next_state.kp T.b_next_state .nil pass0 (pa_cons (pv 3) (pa_cons (pv 6) (pa_cons (pv 8) pa_nil)))))
        (pss_cons (ps_if (pt_not (pt_val (pe_call G_law_fits hr_law_fits (by rfl) T.g_law_fits T.F_law_fits.kp T.b_law_fits .nil pass0 (pa_cons (pv 4) (pa_cons (pv 5) pa_nil)))))
        (pss_one (ps_ret pe_bl))
        pss_nil)
        (pss_one (ps_if (pt_not (pt_val (pe_call G_law_fits hr_law_fits (by rfl) T.g_law_fits T.F_law_fits.kp T.b_law_fits .nil pass0 (pa_cons (pe_call G_union hr_union (by rfl) T.g_union T.F_union.kp T.b_union .nil pass0 (pa_cons (pv 4) (pa_cons (pv 6) pa_nil))) (pa_cons (pv 10) pa_nil)))))
        (pss_one (ps_ret pe_bl))
        pss_nil)))))))))))
        (pss_one (ps_ret pe_bl))))))))), ?_⟩
    have w0 : Wt P1 P2 H H [] := wt0
    refine ⟨_, rfl, _, rfl, ?_⟩
    dsimp only [tCons, tC, tNil]
    refine ⟨a, ns, _, rfl, hS, hlen, ha0, fun p x y hp hx => ?_⟩
    have o1 := w0.src (y := y) hp hx
    refine ⟨_, rfl, ?_⟩
    dsimp only [tCons, tC, tNil]
    refine ⟨H, p, _, rfl, o1, fun la gs N1 H1 s1 o2 hlay ok => ?_⟩
    obtain ⟨x0, y0, hx0, w2⟩ := o2.lay
    refine ⟨_, rfl, _, rfl, _, _, rfl, rfl, ?_⟩
    dsimp only [tCons, tC, tNil]
    refine ⟨a, ns, _, rfl, w2.same.seq hS, hlen, by omega, fun p2 x y hp hx => ?_⟩
    have o3 := w2.src (y := y) hp hx
    refine ⟨H, p2, _, rfl, o3, fun st fs c N2 H2 s2 o4 hst hok => ?_⟩
    have w4 := o4.drop
    refine ⟨_, rfl, _, rfl, _, _, rfl, rfl, ?_⟩
    dsimp only [tCons, tC, tNil]
    refine ⟨a, ns, _, rfl, w4.same.seq hS, hlen, by omega, fun p3 x y hp hx => ?_⟩
    have o5 := w4.src (y := y) hp hx
    refine ⟨_, rfl, ?_⟩
    dsimp only [tCons, tC, tNil]
    refine ⟨H, p3, _, st, fs, c, rfl, o5, hst, hok, fun wi hs d N3 H3 s3 o6 hwi hok2 hff hfit => ?_⟩
    have w6 := o6.drop
    refine ⟨_, rfl, _, rfl, _, _, rfl, rfl, ?_⟩
    dsimp only [tCons, tC, tNil]
    refine ⟨a, ns, _, rfl, w6.same.seq hS, hlen, by omega, fun p4 x y hp hx => ?_⟩
    have o7 := w6.src (y := y) hp hx
    refine ⟨H, p4, _, rfl, o7, fun ot ks e N4 H4 s4 o8 hot hok3 => ?_⟩
    have w8 := o8.drop
    have ob := w8
    obtain ⟨_, _, _, _, ob⟩ := ob
    refine ⟨_, rfl, _, rfl, ?_⟩
    dsimp only [tCons, tC, tNil]
    refine ⟨H, N4, st, wi, fs, c, hs, d, rfl, ob, hst.mono (fun q hq => (s3.trans s4).subset hq), hwi.mono (fun q hq => s4.subset hq), fun H5 s5 => ?_⟩
    have w9 := w8.mono s5
    rw [hff, fitP.all hfit]
    refine ⟨_, rfl, ?_⟩
    refine iteF' rfl ?_
    obtain ⟨A2, hA2⟩ := s2.trans (s3.trans s4)
    have hst4 := hst.mono fun q hq => (s3.trans s4).subset hq
    have hwi4 := hwi.mono fun q hq => s4.subset hq
    subst hA2
    have o9 := w9.take hx0
    have ti : ∀ H', Wt P1 P2 H H' (A2 ++ N1) → TI K P1 P2 H la gs H' (A2 ++ N1) st wi ot := fun H' w => ⟨fs, c, hs, d, ks, e, w, hlay.mono fun q hq => List.mem_append_right _ hq, hst4.dropL, ok_r hok, hwi4.dropL, ok_r hok2, hot.dropL, ok_r hok3, hfit, hff⟩
    clear hst4 hwi4 hot hwi hst hlay w8 w9 w6 w4 w2 o1 o2 o3 o4 o5 o6 o7 o8 ob
    refine ⟨_, rfl, ?_⟩
    dsimp only [tCons, tC, tNil]
    refine o9.draw (m := 3) (by decide) (by decide) fun v H6 v0 v1 o10 => ?_
    refine ⟨_, _, rfl, rfl, ?_⟩
    refine ⟨_, rfl, by omega, by omega, for_range (D := { nx := _, rt := _ }) (lo := 0) (n := (1 + v).toNat) (fun i σ H' => ∃ (st wi ot : Addr) (N : List (Addr × HO)) (v7 v8 v9 v10 : Option V), σ = [some (.ref a), some (.int at_), some (.ref p), some (.ref la), some (.ref st), some (.ref wi), some (.ref ot), v7, v8, v9, v10, none] ∧ TI K P1 P2 H la gs H' N st wi ot) ⟨st, wi, ot, _, none, none, none, none, rfl, ti _ o10.drop⟩ ?_ ?_⟩
    · clear ti o9 o10 hfit hff hok hok2 hok3
      rintro i σ H7 hi ⟨st, wi, ot, N, v7, v8, v9, v10, rfl, fs, c, hs, d, ks, e, w, hlay, hst, k1, hwi, k2, hot, k3, hpf, hff⟩
      refine ⟨_, rfl, _, rfl, _, _, rfl, rfl, _, rfl, _, _, rfl, rfl, ?_⟩
      dsimp only [tCons, tC, tNil]
      refine ⟨a, ns, _, rfl, w.same.seq hS, hlen, by omega, fun p5 x y hp hx => ?_⟩
      have o := w.src (y := y) hp hx
      refine ⟨H, p5, _, rfl, o, fun r i5 N5 H8 s5 o5 hr hi5 => ?_⟩
      have w5 := o5.drop
      obtain ⟨xs, x1, x2, x3, x4⟩ := (hst.mono fun q hq => s5.subset hq).at_
      have hfl : fs.length = 16 := hst.choose_spec.2.2
      (repeat (first | refine ⟨_, rfl, ?_⟩ | refine ⟨_, _, rfl, rfl, ?_⟩ | refine ⟨rfl, ?_⟩ | refine .inl ⟨_, rfl, ?_⟩ | refine .inr ⟨_, rfl, ?_⟩ | refine ⟨.inr ⟨by decide, by decide⟩, ?_⟩ | refine ⟨⟨by decide, by decide⟩, ?_⟩ | refine ⟨⟨by decide, by decide, by decide⟩, ?_⟩ | refine ⟨.inr ⟨by omega, by omega⟩, ?_⟩ | refine ⟨(by show (0 : Int) < _; first | decide | omega), ?_⟩ | refine ⟨Nat.le_trans (Nat.le_of_ble_eq_true rfl : _ ≤ 50) (by decide), ?_⟩ | refine ⟨_, _, _, _, rfl, rfl, upd_same, rfl, ?_⟩ | refine ⟨_, _, _, _, rfl, rfl, SqL.of upd_same, rfl, ?_⟩ | refine ⟨_, _, _, _, rfl, rfl, SqT.of upd_same, rfl, ?_⟩ | refine ⟨_, _, rfl, .inl (SqL.of upd_same), ?_⟩ | refine ⟨_, _, rfl, .inr (SqT.of upd_same), ?_⟩ | (refine' ⟨_, _, _, _, rfl, rfl, _, _, _⟩; rotate_left 2; (focus (first | assumption | exact SqL.of (by assumption) | exact SqT.of (by assumption) | exact Same.seq (by assumption) (by assumption))); (focus (exact rfl))) | (refine' ⟨_, _, rfl, _, _⟩; rotate_left 1; (focus (first | exact .inl (by assumption) | exact .inl (SqL.of (by assumption)) | exact .inr (by assumption) | exact .inr (SqT.of (by assumption)))))))
      refine ⟨by decide, by decide, fun D hD => lc_range (lo := 0) (n := 16) (fun k H' => ∃ ls : List Int, Wt P1 P2 H H' ((D, .lst (ls.map V.int)) :: N5) ∧ (∀ z ∈ ls, rg z) ∧ ls.length ≤ k) ⟨[], (w5.add (u := .lst []) hD : Wt P1 P2 H _ _), fun _ h => (by cases h), Nat.zero_le _⟩ ?_ ?_⟩
      · rintro k H9 hk ⟨ls, w6, hls, hll⟩
        have hif : fs[k]? = some (fs[k]'(by omega)) := List.getElem?_eq_getElem (by omega)
        obtain ⟨r1, hr1, t1⟩ := x2 k _ hif
        have hL9 : ∀ q ∈ N5, H9 q.1 = some q.2 := fun q hq => w6.mem (List.mem_cons_of_mem _ hq)
        have hi0 : ∀ (zs : List V) (v : V), zs[k]? = some v → atI zs (0 + (k : Int)) = some v := fun zs v h => by
          rw [Int.zero_add]
          exact atI_nat h
        refine ⟨rfl, ?_⟩
        refine ⟨_, rfl, _, rfl, st, _, _, _, rfl, rfl, x1.sq hL9, hi0 _ _ hr1, r1, _, _, _, rfl, rfl, t1.sq hL9, atI_nat (j := 2) rfl, ?_⟩
        refine ⟨_, _, rfl, rfl, ?_⟩
        refine ⟨_, rfl, ?_⟩
        refine ite2 (fun _ => ?_) (fun _ => ?_)
        · refine ⟨_, rfl, ls.map V.int, w6.mem (q := (D, .lst (ls.map V.int))) (List.mem_cons_self ..), Nat.lt_of_le_of_lt (show (ls.map V.int).length ≤ 16 by rw [List.length_map]; omega) (by show 16 < sizeLine; decide), ls ++ [0 + (k : Int)], ?_, ?_, by rw [List.length_append]; exact Nat.succ_le_succ hll⟩
          · rw [List.map_append]
            exact w6.put 0 rfl
          · intro t ht
            rcases List.mem_append.mp ht with z | z
            · exact hls t z
            · rw [List.mem_singleton.mp z]
              exact ⟨by omega, by omega⟩
        · exact ⟨ls, w6, hls, by omega⟩
      · rintro H9 ⟨ls, w6, hls, hll⟩
        obtain ⟨n, ys, er, hls2⟩ := row_name hi5
        have hr6 := w6.mem (q := (r, .tup i5.row)) (List.mem_cons_of_mem _ hr)
        have kr : SqT K H9 r (.str n :: ys) := SqT.of (er ▸ hr6)
        refine ⟨fun σ H' => ∃ (r2 : Addr) (i2 : Ins) (N6 : List (Addr × HO)), σ = [some (.ref a), some (.int at_), some (.ref p), some (.ref la), some (.ref st), some (.ref wi), some (.ref ot), some (.int (0 + (i : Int))), some (.ref r2), some (.ref D), v10, none] ∧ Wt P1 P2 H H' N6 ∧ N5 <:+ N6 ∧ (r2, HO.tup i2.row) ∈ N6 ∧ i2.ok, ?_, ?_⟩
        · refine ⟨_, rfl, r, _, _, _, rfl, rfl, kr, at0 _ _, ?_⟩
          refine ⟨by show 2 ≤ sizeLine; decide, fun t ht => ?_⟩
          have w7 := w6.add (u := .tup [.str "load", .str "store"]) ht
          refine ⟨t, (["load", "store"] : List Str).map V.str, rfl, .inr (SqT.of upd_same), rfl, by decide +kernel, ?_⟩
          rw [if_neg Bool.false_ne_true, inV_str]
          refine ⟨_, rfl, ?_⟩
          generalize upd H9 t _ = H10 at w7 ⊢
          refine ite2 (fun e1 => ?_) (fun e1 => ?_)
          · obtain ⟨z1, z2, z3, hz⟩ := hls2 (by simpa using of_decide_eq_true e1)
            have hD7 : SqL K H10 D (ls.map V.int) := SqL.of (w7.mem (q := (D, .lst (ls.map V.int))) (by simp))
            refine ⟨_, rfl, D, _, rfl, .inl hD7, ?_⟩
            refine ⟨_, _, rfl, rfl, ?_⟩
            refine ⟨_, rfl, ?_⟩
            refine ite2 (fun e2 => ?_) (fun e2 => ?_)
            · have e2 : (0 : Int) < ((ls.map V.int).length : Int) := of_decide_eq_true e2
              clear er hr6 kr hls2
              rcases hz with rfl | rfl
              · skip
                have kr2 : SqT K H10 r (Ins.row (.load z1 z2 z3)) := SqT.of (w7.mem (q := (r, .tup (Ins.row (.load z1 z2 z3)))) (by simp [hr]))
                refine ⟨_, rfl, r, _, _, _, rfl, rfl, kr2, at0 _ _, _, rfl, r, _, _, _, rfl, rfl, kr2, atI_nat (j := 1) rfl, ?_⟩
                refine ⟨_, rfl, _, rfl, r, _, _, _, rfl, rfl, kr2, atI_nat (j := 2) rfl, _, rfl, D, _, rfl, .inl hD7, ?_⟩
                refine ⟨_, _, rfl, rfl, e2, ?_⟩
                obtain ⟨zz, hzz, hat⟩ := at_all (R := rg) (Int.emod_nonneg z2 (by omega)) (show z2 % ((ls.map V.int).length : Int) < ls.length by rw [List.length_map] at e2 ⊢; exact Int.emod_lt_of_pos _ e2) hls
                refine ⟨D, _, _, _, rfl, rfl, hD7, hat, ?_⟩
                refine ⟨_, rfl, r, _, _, _, rfl, rfl, kr2, atI_nat (j := 3) rfl, ?_⟩
                refine ⟨by show 4 ≤ sizeLine; decide, fun u hu => ?_⟩
                have w8 := w7.add (u := .tup (Ins.row (.load z1 zz z3))) hu
                exact ⟨u, .load z1 zz z3, _, rfl, w8, suf [_, _, _] N5, List.mem_cons_self .., hi5.1, hzz⟩
              · skip
                have kr2 : SqT K H10 r (Ins.row (.store z1 z2 z3)) := SqT.of (w7.mem (q := (r, .tup (Ins.row (.store z1 z2 z3)))) (by simp [hr]))
                refine ⟨_, rfl, r, _, _, _, rfl, rfl, kr2, at0 _ _, _, rfl, r, _, _, _, rfl, rfl, kr2, atI_nat (j := 1) rfl, ?_⟩
                refine ⟨_, rfl, _, rfl, r, _, _, _, rfl, rfl, kr2, atI_nat (j := 2) rfl, _, rfl, D, _, rfl, .inl hD7, ?_⟩
                refine ⟨_, _, rfl, rfl, e2, ?_⟩
                obtain ⟨zz, hzz, hat⟩ := at_all (R := rg) (Int.emod_nonneg z2 (by omega)) (show z2 % ((ls.map V.int).length : Int) < ls.length by rw [List.length_map] at e2 ⊢; exact Int.emod_lt_of_pos _ e2) hls
                refine ⟨D, _, _, _, rfl, rfl, hD7, hat, ?_⟩
                refine ⟨_, rfl, r, _, _, _, rfl, rfl, kr2, atI_nat (j := 3) rfl, ?_⟩
                refine ⟨by show 4 ≤ sizeLine; decide, fun u hu => ?_⟩
                have w8 := w7.add (u := .tup (Ins.row (.store z1 zz z3))) hu
                exact ⟨u, .store z1 zz z3, _, rfl, w8, suf [_, _, _] N5, List.mem_cons_self .., hi5.1, hzz⟩
            · exact ⟨r, i5, _, rfl, w7, suf [_, _] N5, by simp [hr], hi5⟩
          · exact ⟨r, i5, _, rfl, w7, suf [_, _] N5, by simp [hr], hi5⟩
        · clear hr6 kr w6 hls hll er hls2 x1 x2 x3 x4 w5 o5 o
          rintro σ H10 ⟨r2, i2, N6, rfl, w7, s7, hr2, hi2⟩
          have s6 : N <:+ N6 := s5.trans s7
          have hst6 := hst.mono (M := N6) fun q hq => s6.subset hq
          have hot6 := hot.mono (M := N6) fun q hq => s6.subset hq
          refine ⟨_, rfl, _, rfl, _, rfl, ?_⟩
          dsimp only [tCons, tC, tNil]
          refine ⟨H, N6, st, ot, fs, c, ks, e, rfl, w7, hst6, hot6, fun u N7 H11 s8 w8 hu => ?_⟩
          refine ⟨_, rfl, ?_⟩
          dsimp only [tCons, tC, tNil]
          refine ⟨H, N7, la, u, r2, gs, _, _, i2, rfl, w8, hlay.mono (fun q hq => (s6.trans s8).subset hq), ok, hu, zip_okR k1 k3, .inl (s8.subset hr2), hi2, fun af gaf caf N8 H12 s9 w9 haf hnaf => ?_⟩
          have s8' : N6 <:+ N8 := s8.trans s9
          refine ⟨_, rfl, _, rfl, _, rfl, ?_⟩
          dsimp only [tCons, tC, tNil]
          refine ⟨H, N8, la, st, r2, gs, fs, c, i2, rfl, w9, hlay.mono (fun q hq => (s6.trans s8').subset hq), ok, hst6.mono (fun q hq => s8'.subset hq), k1, .inl (s8'.subset hr2), hi2, fun st2 fs2 c2 N9 H13 s10 w10 hst2 hn2 => ?_⟩
          have s9' : N6 <:+ N9 := s8'.trans s10
          refine ⟨_, rfl, _, rfl, _, rfl, ?_⟩
          dsimp only [tCons, tC, tNil]
          refine ⟨H, N9, la, wi, r2, gs, hs, d, i2, rfl, w10, hlay.mono (fun q hq => (s6.trans s9').subset hq), ok, hwi.mono (fun q hq => (s6.trans s9').subset hq), k2, .inl (s9'.subset hr2), hi2, fun wi2 hs2 d2 N10 H14 s11 w11 hwi2 hn3 => ?_⟩
          have s10' : N6 <:+ N10 := s9'.trans s11
          refine ⟨_, rfl, _, rfl, _, rfl, ?_⟩
          dsimp only [tCons, tC, tNil]
          refine ⟨H, N10, la, ot, r2, gs, ks, e, i2, rfl, w11, hlay.mono (fun q hq => (s6.trans s10').subset hq), ok, hot6.mono (fun q hq => s10'.subset hq), k3, .inl (s10'.subset hr2), hi2, fun ot2 ks2 e2 N11 H15 s12 w12 hot2 hn4 => ?_⟩
          have hst3 := hst2.mono (M := N11) fun q hq => (s11.trans s12).subset hq
          have hwi3 := hwi2.mono (M := N11) fun q hq => s12.subset hq
          have haf3 := haf.mono (M := N11) fun q hq => (s10.trans (s11.trans s12)).subset hq
          have hlay3 := hlay.mono (M := N11) fun q hq => (s6.trans (s10'.trans s12)).subset hq
          have l1 : fs.length = ks.length := by rw [hst.choose_spec.2.2, hot.choose_spec.2.2]
          have m1 := next_mono ok hpf hff k1 k2 hn2 hn3
          have zk := zip_okR k1 k3
          have m2 := next_mono ok (zip_l l1) (show ffB c (c || e) = true by cases c <;> cases e <;> rfl) k1 zk hn2 hnaf
          have m3 := next_mono ok (zip_r l1) (show ffB e (c || e) = true by cases c <;> cases e <;> rfl) k3 zk hn4 hnaf
          have ob := w12
          obtain ⟨_, _, _, _, ob⟩ := ob
          refine ⟨_, rfl, _, rfl, ?_⟩
          dsimp only [tCons, tC, tNil]
          refine ⟨H, N11, st2, wi2, fs2, c2, hs2, d2, rfl, ob, hst3, hwi3, fun H16 s16 => ?_⟩
          have w16 := w12.mono s16
          rw [m1.2, fitP.all m1.1]
          refine ⟨_, rfl, ?_⟩
          refine iteF' rfl ?_
          refine ⟨_, rfl, _, rfl, ?_⟩
          dsimp only [tCons, tC, tNil]
          refine ⟨H, N11, st2, ot2, fs2, c2, ks2, e2, rfl, w16, hst3, hot2, fun u2 N12 H17 s17 w17 hu2 => ?_⟩
          have ob := w17
          obtain ⟨_, _, _, _, ob⟩ := ob
          refine ⟨_, rfl, ?_⟩
          dsimp only [tCons, tC, tNil]
          refine ⟨H, N12, u2, af, _, _, gaf, caf, rfl, ob, hu2, haf3.mono (fun q hq => s17.subset hq), fun H18 s18 => ?_⟩
          have w18 := w17.mono s18
          have hfin : ffB (c2 || e2) caf = true := by
            have := of_ff m2.2
            have := of_ff m3.2
            refine ff_of fun z => ?_
            rcases Bool.or_eq_true_iff.mp z with z | z
            · exact of_ff m2.2 z
            · exact of_ff m3.2 z
          rw [hfin, fitP.all (zip_lub m2.1 m3.1)]
          refine ⟨_, rfl, ?_⟩
          refine iteF' rfl ?_
          exact ⟨st2, wi2, ot2, N12, _, _, _, _, rfl, fs2, c2, hs2, d2, ks2, e2, w18, hlay3.mono (fun q hq => s17.subset hq), hst3.mono (fun q hq => s17.subset hq), next_ok ok hi2 k1 hn2, hwi3.mono (fun q hq => s17.subset hq), next_ok ok hi2 k2 hn3, hot2.mono (fun q hq => s17.subset hq), next_ok ok hi2 k3 hn4, m1.1, m1.2⟩
    · rintro σ H7 ⟨st, wi, ot, N, v7, v8, v9, v10, rfl, fs, c, hs, d, ks, e, w, _⟩
      exact q _ w.same
end
end K70

set_option Elab.async false
set_option linter.all false
set_option maxRecDepth 100000
set_option maxHeartbeats 4000000
namespace K70
open PySem PySem.Spec PyProof.Rows L2 Lw GxR WD
def spLaw (K : PySem.W.Frag) : Sp := fun vs H Q _ => ∃ (a : Addr) (ns : List Int), vs = [.ref a] ∧ SqL K H a (ns.map V.int) ∧ ns.length ≤ 63 ∧ ∀ H', Q (.bl true) H'
section
variable {w : World} {K : PySem.W.Frag} {mg : Str → Option Value} {base : Heap}
theorem ok_law' {P : Program} (T : Tx K mg) {f : Addr} {fd : FuncData} (F : Fun K "law" "law" s_law f fd) : FnOk P w K mg base CX0 8 f fd ["script"] (spLaw K) := by
  have G_law_order_holds : FnOk P w K mg base CX0 7 T.a_law_order_holds T.d_law_order_holds ["script", "at"] (spOrder K) := ok_order T T.c_NO_CELL T.c_NO_CELL
  refine F.ok sc_law (fun vs H Q E h => ?_) (fun cdv A outer s H vs Q E hr h => ?_)
  · obtain ⟨a, ns, rfl, _⟩ := h
    rfl
  · obtain ⟨a, ns, rfl, hS, hlen, q⟩ := h
    have hr_law_order_holds : Room 7 _ := hr
    refine ⟨_, (pss_cons (ps_for PassesOwn.never rfl (pi_range1 rfl T.z_range (pa_cons pe_int pa_nil)) (pg_name (i := 1) sc_law.nd rfl (.inl rfl))
        (pss_one (ps_if (pt_not (pt_val (pe_call G_law_order_holds hr_law_order_holds (by rfl) T.g_law_order_holds T.F_law_order_holds.kp T.b_law_order_holds .nil pass0 (pa_cons (pv 0) (pa_cons (pe_op op_mul pe_int (pv 1)) pa_nil)))))
        (pss_one (ps_ret pe_bl))
        pss_nil)))
        (pss_one (ps_ret pe_bl))), ?_⟩
    refine ⟨9, rfl, by decide, by decide, for_range (lo := 0) (n := 9) (fun i σ H' => ∃ v, σ = [some (.ref a), v] ∧ Same H H') ⟨none, rfl, Same.refl H⟩ ?_ ?_⟩
    · rintro i σ H' hi ⟨v, rfl, sm⟩
      refine ⟨_, rfl, _, rfl, _, _, rfl, rfl, .inl ⟨by decide, by decide⟩, ?_⟩
      dsimp only [tCons, tC, tNil]
      refine ⟨a, ns, _, rfl, sm.seq hS, hlen, by omega, by omega, fun H2 s2 => ?_⟩
      refine ⟨_, rfl, ?_⟩
      refine iteF' rfl ?_
      exact ⟨_, rfl, sm.trans s2⟩
    · rintro σ H' ⟨v, rfl, sm⟩
      exact q _
end
theorem all_mk {l : PySem.W.OpenLaw} {w : World} {K : PySem.W.Frag} {h : Heap} {mg : Str → Option Value} {fa : Addr} (X : K.In h) (G : h.Ns mainGlobals mg) (hfa : mg "law" = some (.ref fa))
    {f1 : Addr} {od1 an1 : Option Addr} {sl1 : Array (Option Value)} {oc1 kV1 dc1 pm1 cd1 ct1 : Value}
    {f2 : Addr} {od2 an2 : Option Addr} {sl2 : Array (Option Value)} {oc2 kV2 dc2 pm2 cd2 ct2 : Value}
    {f3 : Addr} {od3 an3 : Option Addr} {sl3 : Array (Option Value)} {oc3 kV3 dc3 pm3 cd3 ct3 : Value}
    {f4 : Addr} {od4 an4 : Option Addr} {sl4 : Array (Option Value)} {oc4 kV4 dc4 pm4 cd4 ct4 : Value}
    {f5 : Addr} {od5 an5 : Option Addr} {sl5 : Array (Option Value)} {oc5 kV5 dc5 pm5 cd5 ct5 : Value}
    {f6 : Addr} {od6 an6 : Option Addr} {sl6 : Array (Option Value)} {oc6 kV6 dc6 pm6 cd6 ct6 : Value}
    {f7 : Addr} {od7 an7 : Option Addr} {sl7 : Array (Option Value)} {oc7 kV7 dc7 pm7 cd7 ct7 : Value}
    {f8 : Addr} {od8 an8 : Option Addr} {sl8 : Array (Option Value)} {oc8 kV8 dc8 pm8 cd8 ct8 : Value}
    {f9 : Addr} {od9 an9 : Option Addr} {sl9 : Array (Option Value)} {oc9 kV9 dc9 pm9 cd9 ct9 : Value}
    {f10 : Addr} {od10 an10 : Option Addr} {sl10 : Array (Option Value)} {oc10 kV10 dc10 pm10 cd10 ct10 : Value}
    {f11 : Addr} {od11 an11 : Option Addr} {sl11 : Array (Option Value)} {oc11 kV11 dc11 pm11 cd11 ct11 : Value}
    {f12 : Addr} {od12 an12 : Option Addr} {sl12 : Array (Option Value)} {oc12 kV12 dc12 pm12 cd12 ct12 : Value}
    {f13 : Addr} {od13 an13 : Option Addr} {sl13 : Array (Option Value)} {oc13 kV13 dc13 pm13 cd13 ct13 : Value}
    {f14 : Addr} {od14 an14 : Option Addr} {sl14 : Array (Option Value)} {oc14 kV14 dc14 pm14 cd14 ct14 : Value}
    {f15 : Addr} {od15 an15 : Option Addr} {sl15 : Array (Option Value)} {oc15 kV15 dc15 pm15 cd15 ct15 : Value}
    {f16 : Addr} {od16 an16 : Option Addr} {sl16 : Array (Option Value)} {oc16 kV16 dc16 pm16 cd16 ct16 : Value}
    {f17 : Addr} {od17 an17 : Option Addr} {sl17 : Array (Option Value)} {oc17 kV17 dc17 pm17 cd17 ct17 : Value}
    {f18 : Addr} {od18 an18 : Option Addr} {sl18 : Array (Option Value)} {oc18 kV18 dc18 pm18 cd18 ct18 : Value}
    {f19 : Addr} {od19 an19 : Option Addr} {sl19 : Array (Option Value)} {oc19 kV19 dc19 pm19 cd19 ct19 : Value}
    {f20 : Addr} {od20 an20 : Option Addr} {sl20 : Array (Option Value)} {oc20 kV20 dc20 pm20 cd20 ct20 : Value}
    {f21 : Addr} {od21 an21 : Option Addr} {sl21 : Array (Option Value)} {oc21 kV21 dc21 pm21 cd21 ct21 : Value}
    {f22 : Addr} {od22 an22 : Option Addr} {sl22 : Array (Option Value)} {oc22 kV22 dc22 pm22 cd22 ct22 : Value}
    {f23 : Addr} {od23 an23 : Option Addr} {sl23 : Array (Option Value)} {oc23 kV23 dc23 pm23 cd23 ct23 : Value}
    {f24 : Addr} {od24 an24 : Option Addr} {sl24 : Array (Option Value)} {oc24 kV24 dc24 pm24 cd24 ct24 : Value}
    {f25 : Addr} {od25 an25 : Option Addr} {sl25 : Array (Option Value)} {oc25 kV25 dc25 pm25 cd25 ct25 : Value}
    {f26 : Addr} {od26 an26 : Option Addr} {sl26 : Array (Option Value)} {oc26 kV26 dc26 pm26 cd26 ct26 : Value}
    {f27 : Addr} {od27 an27 : Option Addr} {sl27 : Array (Option Value)} {oc27 kV27 dc27 pm27 cd27 ct27 : Value}
    {f28 : Addr} {od28 an28 : Option Addr} {sl28 : Array (Option Value)} {oc28 kV28 dc28 pm28 cd28 ct28 : Value}
    {f29 : Addr} {od29 an29 : Option Addr} {sl29 : Array (Option Value)} {oc29 kV29 dc29 pm29 cd29 ct29 : Value}
    {f30 : Addr} {od30 an30 : Option Addr} {sl30 : Array (Option Value)} {oc30 kV30 dc30 pm30 cd30 ct30 : Value}
    {f31 : Addr} {od31 an31 : Option Addr} {sl31 : Array (Option Value)} {oc31 kV31 dc31 pm31 cd31 ct31 : Value}
    {c_GIVES_NOTHING : Addr}
    {t_GREATEST_WORD : Tok}
    {t_REGISTERS : Tok}
    {t_CARRY : Tok}
    {c_NO_CELL : Addr}
    {t_WORD : Tok}
    {c_CARRYING : Addr}
    {c_CHAINED : Addr}
    {c_SHIFTS : Addr}
    (a1 : PySem.W.nsIn K mainGlobals "joined_flow" = some (some (.ref f1))) (l1 : K.lookup f1 = some ⟨oc1, od1, .func (PySem.W.fnOf "joined_flow" "joined_flow" (defArgs s_joined_flow) (defBody s_joined_flow) (defScope s_joined_flow) .none kV1 dc1 pm1 an1 cd1 ct1), sl1⟩) (c1 : PySem.W.codeIn K cd1 "joined_flow" = true) (k1 : PySem.W.keepIn K (.ref f1) = true)
    (a2 : PySem.W.nsIn K mainGlobals "mask" = some (some (.ref f2))) (l2 : K.lookup f2 = some ⟨oc2, od2, .func (PySem.W.fnOf "mask" "mask" (defArgs s_mask) (defBody s_mask) (defScope s_mask) .none kV2 dc2 pm2 an2 cd2 ct2), sl2⟩) (c2 : PySem.W.codeIn K cd2 "mask" = true) (k2 : PySem.W.keepIn K (.ref f2) = true)
    (a3 : PySem.W.nsIn K mainGlobals "given_register" = some (some (.ref f3))) (l3 : K.lookup f3 = some ⟨oc3, od3, .func (PySem.W.fnOf "given_register" "given_register" (defArgs s_given_register) (defBody s_given_register) (defScope s_given_register) .none kV3 dc3 pm3 an3 cd3 ct3), sl3⟩) (c3 : PySem.W.codeIn K cd3 "given_register" = true) (k3 : PySem.W.keepIn K (.ref f3) = true)
    (a4 : PySem.W.nsIn K mainGlobals "region_end" = some (some (.ref f4))) (l4 : K.lookup f4 = some ⟨oc4, od4, .func (PySem.W.fnOf "region_end" "region_end" (defArgs s_region_end) (defBody s_region_end) (defScope s_region_end) .none kV4 dc4 pm4 an4 cd4 ct4), sl4⟩) (c4 : PySem.W.codeIn K cd4 "region_end" = true) (k4 : PySem.W.keepIn K (.ref f4) = true)
    (a5 : PySem.W.nsIn K mainGlobals "region_at" = some (some (.ref f5))) (l5 : K.lookup f5 = some ⟨oc5, od5, .func (PySem.W.fnOf "region_at" "region_at" (defArgs s_region_at) (defBody s_region_at) (defScope s_region_at) .none kV5 dc5 pm5 an5 cd5 ct5), sl5⟩) (c5 : PySem.W.codeIn K cd5 "region_at" = true) (k5 : PySem.W.keepIn K (.ref f5) = true)
    (a6 : PySem.W.nsIn K mainGlobals "fact_union" = some (some (.ref f6))) (l6 : K.lookup f6 = some ⟨oc6, od6, .func (PySem.W.fnOf "fact_union" "fact_union" (defArgs s_fact_union) (defBody s_fact_union) (defScope s_fact_union) .none kV6 dc6 pm6 an6 cd6 ct6), sl6⟩) (c6 : PySem.W.codeIn K cd6 "fact_union" = true) (k6 : PySem.W.keepIn K (.ref f6) = true)
    (a7 : PySem.W.nsIn K mainGlobals "union" = some (some (.ref f7))) (l7 : K.lookup f7 = some ⟨oc7, od7, .func (PySem.W.fnOf "union" "union" (defArgs s_union) (defBody s_union) (defScope s_union) .none kV7 dc7 pm7 an7 cd7 ct7), sl7⟩) (c7 : PySem.W.codeIn K cd7 "union" = true) (k7 : PySem.W.keepIn K (.ref f7) = true)
    (a8 : PySem.W.nsIn K mainGlobals "addresses" = some (some (.ref f8))) (l8 : K.lookup f8 = some ⟨oc8, od8, .func (PySem.W.fnOf "addresses" "addresses" (defArgs s_addresses) (defBody s_addresses) (defScope s_addresses) .none kV8 dc8 pm8 an8 cd8 ct8), sl8⟩) (c8 : PySem.W.codeIn K cd8 "addresses" = true) (k8 : PySem.W.keepIn K (.ref f8) = true)
    (a9 : PySem.W.nsIn K mainGlobals "safe_region" = some (some (.ref f9))) (l9 : K.lookup f9 = some ⟨oc9, od9, .func (PySem.W.fnOf "safe_region" "safe_region" (defArgs s_safe_region) (defBody s_safe_region) (defScope s_safe_region) .none kV9 dc9 pm9 an9 cd9 ct9), sl9⟩) (c9 : PySem.W.codeIn K cd9 "safe_region" = true) (k9 : PySem.W.keepIn K (.ref f9) = true)
    (a10 : PySem.W.nsIn K mainGlobals "next_state" = some (some (.ref f10))) (l10 : K.lookup f10 = some ⟨oc10, od10, .func (PySem.W.fnOf "next_state" "next_state" (defArgs s_next_state) (defBody s_next_state) (defScope s_next_state) .none kV10 dc10 pm10 an10 cd10 ct10), sl10⟩) (c10 : PySem.W.codeIn K cd10 "next_state" = true) (k10 : PySem.W.keepIn K (.ref f10) = true)
    (a11 : PySem.W.nsIn K mainGlobals "without_cell" = some (some (.ref f11))) (l11 : K.lookup f11 = some ⟨oc11, od11, .func (PySem.W.fnOf "without_cell" "without_cell" (defArgs s_without_cell) (defBody s_without_cell) (defScope s_without_cell) .none kV11 dc11 pm11 an11 cd11 ct11), sl11⟩) (c11 : PySem.W.codeIn K cd11 "without_cell" = true) (k11 : PySem.W.keepIn K (.ref f11) = true)
    (a12 : PySem.W.nsIn K mainGlobals "result_fact" = some (some (.ref f12))) (l12 : K.lookup f12 = some ⟨oc12, od12, .func (PySem.W.fnOf "result_fact" "result_fact" (defArgs s_result_fact) (defBody s_result_fact) (defScope s_result_fact) .none kV12 dc12 pm12 an12 cd12 ct12), sl12⟩) (c12 : PySem.W.codeIn K cd12 "result_fact" = true) (k12 : PySem.W.keepIn K (.ref f12) = true)
    (a13 : PySem.W.nsIn K mainGlobals "loaded_fact" = some (some (.ref f13))) (l13 : K.lookup f13 = some ⟨oc13, od13, .func (PySem.W.fnOf "loaded_fact" "loaded_fact" (defArgs s_loaded_fact) (defBody s_loaded_fact) (defScope s_loaded_fact) .none kV13 dc13 pm13 an13 cd13 ct13), sl13⟩) (c13 : PySem.W.codeIn K cd13 "loaded_fact" = true) (k13 : PySem.W.keepIn K (.ref f13) = true)
    (a14 : PySem.W.nsIn K mainGlobals "cell_of_sum" = some (some (.ref f14))) (l14 : K.lookup f14 = some ⟨oc14, od14, .func (PySem.W.fnOf "cell_of_sum" "cell_of_sum" (defArgs s_cell_of_sum) (defBody s_cell_of_sum) (defScope s_cell_of_sum) .none kV14 dc14 pm14 an14 cd14 ct14), sl14⟩) (c14 : PySem.W.codeIn K cd14 "cell_of_sum" = true) (k14 : PySem.W.keepIn K (.ref f14) = true)
    (a15 : PySem.W.nsIn K mainGlobals "as_words" = some (some (.ref f15))) (l15 : K.lookup f15 = some ⟨oc15, od15, .func (PySem.W.fnOf "as_words" "as_words" (defArgs s_as_words) (defBody s_as_words) (defScope s_as_words) .none kV15 dc15 pm15 an15 cd15 ct15), sl15⟩) (c15 : PySem.W.codeIn K cd15 "as_words" = true) (k15 : PySem.W.keepIn K (.ref f15) = true)
    (a16 : PySem.W.nsIn K mainGlobals "shifted" = some (some (.ref f16))) (l16 : K.lookup f16 = some ⟨oc16, od16, .func (PySem.W.fnOf "shifted" "shifted" (defArgs s_shifted) (defBody s_shifted) (defScope s_shifted) .none kV16 dc16 pm16 an16 cd16 ct16), sl16⟩) (c16 : PySem.W.codeIn K cd16 "shifted" = true) (k16 : PySem.W.keepIn K (.ref f16) = true)
    (a17 : PySem.W.nsIn K mainGlobals "operated" = some (some (.ref f17))) (l17 : K.lookup f17 = some ⟨oc17, od17, .func (PySem.W.fnOf "operated" "operated" (defArgs s_operated) (defBody s_operated) (defScope s_operated) .none kV17 dc17 pm17 an17 cd17 ct17), sl17⟩) (c17 : PySem.W.codeIn K cd17 "operated" = true) (k17 : PySem.W.keepIn K (.ref f17) = true)
    (a18 : PySem.W.nsIn K mainGlobals "top_of_bits" = some (some (.ref f18))) (l18 : K.lookup f18 = some ⟨oc18, od18, .func (PySem.W.fnOf "top_of_bits" "top_of_bits" (defArgs s_top_of_bits) (defBody s_top_of_bits) (defScope s_top_of_bits) .none kV18 dc18 pm18 an18 cd18 ct18), sl18⟩) (c18 : PySem.W.codeIn K cd18 "top_of_bits" = true) (k18 : PySem.W.keepIn K (.ref f18) = true)
    (a19 : PySem.W.nsIn K mainGlobals "_law_source" = some (some (.ref f19))) (l19 : K.lookup f19 = some ⟨oc19, od19, .func (PySem.W.fnOf "_law_source" "_law_source" (defArgs s_law_source) (defBody s_law_source) (defScope s_law_source) .none kV19 dc19 pm19 an19 cd19 ct19), sl19⟩) (c19 : PySem.W.codeIn K cd19 "_law_source" = true) (k19 : PySem.W.keepIn K (.ref f19) = true)
    (a20 : PySem.W.nsIn K mainGlobals "_law_draw" = some (some (.ref f20))) (l20 : K.lookup f20 = some ⟨oc20, od20, .func (PySem.W.fnOf "_law_draw" "_law_draw" (defArgs s_law_draw) (defBody s_law_draw) (defScope s_law_draw) .none kV20 dc20 pm20 an20 cd20 ct20), sl20⟩) (c20 : PySem.W.codeIn K cd20 "_law_draw" = true) (k20 : PySem.W.keepIn K (.ref f20) = true)
    (a21 : PySem.W.nsIn K mainGlobals "_law_word" = some (some (.ref f21))) (l21 : K.lookup f21 = some ⟨oc21, od21, .func (PySem.W.fnOf "_law_word" "_law_word" (defArgs s_law_word) (defBody s_law_word) (defScope s_law_word) .none kV21 dc21 pm21 an21 cd21 ct21), sl21⟩) (c21 : PySem.W.codeIn K cd21 "_law_word" = true) (k21 : PySem.W.keepIn K (.ref f21) = true)
    (a22 : PySem.W.nsIn K mainGlobals "_law_fact" = some (some (.ref f22))) (l22 : K.lookup f22 = some ⟨oc22, od22, .func (PySem.W.fnOf "_law_fact" "_law_fact" (defArgs s_law_fact) (defBody s_law_fact) (defScope s_law_fact) .none kV22 dc22 pm22 an22 cd22 ct22), sl22⟩) (c22 : PySem.W.codeIn K cd22 "_law_fact" = true) (k22 : PySem.W.keepIn K (.ref f22) = true)
    (a23 : PySem.W.nsIn K mainGlobals "_law_state" = some (some (.ref f23))) (l23 : K.lookup f23 = some ⟨oc23, od23, .func (PySem.W.fnOf "_law_state" "_law_state" (defArgs s_law_state) (defBody s_law_state) (defScope s_law_state) .none kV23 dc23 pm23 an23 cd23 ct23), sl23⟩) (c23 : PySem.W.codeIn K cd23 "_law_state" = true) (k23 : PySem.W.keepIn K (.ref f23) = true)
    (a24 : PySem.W.nsIn K mainGlobals "_law_fact_fits" = some (some (.ref f24))) (l24 : K.lookup f24 = some ⟨oc24, od24, .func (PySem.W.fnOf "_law_fact_fits" "_law_fact_fits" (defArgs s_law_fact_fits) (defBody s_law_fact_fits) (defScope s_law_fact_fits) .none kV24 dc24 pm24 an24 cd24 ct24), sl24⟩) (c24 : PySem.W.codeIn K cd24 "_law_fact_fits" = true) (k24 : PySem.W.keepIn K (.ref f24) = true)
    (a25 : PySem.W.nsIn K mainGlobals "_law_fits" = some (some (.ref f25))) (l25 : K.lookup f25 = some ⟨oc25, od25, .func (PySem.W.fnOf "_law_fits" "_law_fits" (defArgs s_law_fits) (defBody s_law_fits) (defScope s_law_fits) .none kV25 dc25 pm25 an25 cd25 ct25), sl25⟩) (c25 : PySem.W.codeIn K cd25 "_law_fits" = true) (k25 : PySem.W.keepIn K (.ref f25) = true)
    (a26 : PySem.W.nsIn K mainGlobals "_law_wider_fact" = some (some (.ref f26))) (l26 : K.lookup f26 = some ⟨oc26, od26, .func (PySem.W.fnOf "_law_wider_fact" "_law_wider_fact" (defArgs s_law_wider_fact) (defBody s_law_wider_fact) (defScope s_law_wider_fact) .none kV26 dc26 pm26 an26 cd26 ct26), sl26⟩) (c26 : PySem.W.codeIn K cd26 "_law_wider_fact" = true) (k26 : PySem.W.keepIn K (.ref f26) = true)
    (a27 : PySem.W.nsIn K mainGlobals "_law_wider" = some (some (.ref f27))) (l27 : K.lookup f27 = some ⟨oc27, od27, .func (PySem.W.fnOf "_law_wider" "_law_wider" (defArgs s_law_wider) (defBody s_law_wider) (defScope s_law_wider) .none kV27 dc27 pm27 an27 cd27 ct27), sl27⟩) (c27 : PySem.W.codeIn K cd27 "_law_wider" = true) (k27 : PySem.W.keepIn K (.ref f27) = true)
    (a28 : PySem.W.nsIn K mainGlobals "_law_layout" = some (some (.ref f28))) (l28 : K.lookup f28 = some ⟨oc28, od28, .func (PySem.W.fnOf "_law_layout" "_law_layout" (defArgs s_law_layout) (defBody s_law_layout) (defScope s_law_layout) .none kV28 dc28 pm28 an28 cd28 ct28), sl28⟩) (c28 : PySem.W.codeIn K cd28 "_law_layout" = true) (k28 : PySem.W.keepIn K (.ref f28) = true)
    (a29 : PySem.W.nsIn K mainGlobals "_law_instruction" = some (some (.ref f29))) (l29 : K.lookup f29 = some ⟨oc29, od29, .func (PySem.W.fnOf "_law_instruction" "_law_instruction" (defArgs s_law_instruction) (defBody s_law_instruction) (defScope s_law_instruction) .none kV29 dc29 pm29 an29 cd29 ct29), sl29⟩) (c29 : PySem.W.codeIn K cd29 "_law_instruction" = true) (k29 : PySem.W.keepIn K (.ref f29) = true)
    (a30 : PySem.W.nsIn K mainGlobals "_law_order_holds" = some (some (.ref f30))) (l30 : K.lookup f30 = some ⟨oc30, od30, .func (PySem.W.fnOf "_law_order_holds" "_law_order_holds" (defArgs s_law_order_holds) (defBody s_law_order_holds) (defScope s_law_order_holds) .none kV30 dc30 pm30 an30 cd30 ct30), sl30⟩) (c30 : PySem.W.codeIn K cd30 "_law_order_holds" = true) (k30 : PySem.W.keepIn K (.ref f30) = true)
    (a31 : PySem.W.nsIn K mainGlobals "law" = some (some (.ref f31))) (l31 : K.lookup f31 = some ⟨oc31, od31, .func (PySem.W.fnOf "law" "law" (defArgs s_law) (defBody s_law) (defScope s_law) .none kV31 dc31 pm31 an31 cd31 ct31), sl31⟩) (c31 : PySem.W.codeIn K cd31 "law" = true) (k31 : PySem.W.keepIn K (.ref f31) = true)
    (g_GIVES_NOTHING : PySem.W.nsIn K mainGlobals "GIVES_NOTHING" = some (some (.ref c_GIVES_NOTHING)))
    (g_GREATEST_WORD : PySem.W.nsIn K mainGlobals "GREATEST_WORD" = some (some (.int (65535) t_GREATEST_WORD)))
    (g_REGISTERS : PySem.W.nsIn K mainGlobals "REGISTERS" = some (some (.int (16) t_REGISTERS)))
    (g_CARRY : PySem.W.nsIn K mainGlobals "CARRY" = some (some (.int (16) t_CARRY)))
    (g_NO_CELL : PySem.W.nsIn K mainGlobals "NO_CELL" = some (some (.ref c_NO_CELL)))
    (g_WORD : PySem.W.nsIn K mainGlobals "WORD" = some (some (.int (65536) t_WORD)))
    (g_CARRYING : PySem.W.nsIn K mainGlobals "CARRYING" = some (some (.ref c_CARRYING)))
    (g_CHAINED : PySem.W.nsIn K mainGlobals "CHAINED" = some (some (.ref c_CHAINED)))
    (g_SHIFTS : PySem.W.nsIn K mainGlobals "SHIFTS" = some (some (.ref c_SHIFTS)))
    (z_abs : PySem.W.nsIn K mainGlobals "abs" = some none)
    (z_int : PySem.W.nsIn K mainGlobals "int" = some none)
    (z_len : PySem.W.nsIn K mainGlobals "len" = some none)
    (z_list : PySem.W.nsIn K mainGlobals "list" = some none)
    (z_max : PySem.W.nsIn K mainGlobals "max" = some none)
    (z_min : PySem.W.nsIn K mainGlobals "min" = some none)
    (z_range : PySem.W.nsIn K mainGlobals "range" = some none)
    (z_tuple : PySem.W.nsIn K mainGlobals "tuple" = some none)
    (kitnc : WD.datB K 1 (.ref c_NO_CELL) (.tuple [.int (-1), .int 0]) = true)
    (kitca : KDx.tupB K c_CARRYING ["add", "addc", "sub", "subc"] = true)
    (kitch : KDx.tupB K c_CHAINED ["addc", "subc"] = true)
    (kitsh : KDx.tupB K c_SHIFTS ["down", "up"] = true)
    (kitgn : KDx.tupB K c_GIVES_NOTHING ["clear", "store", "jump", "below", "call", "ret", "halt"] = true)
    : ∃ fd : FuncData, (∀ (s : Shared) (v : Value), BindsTo s fd ⟨[v], []⟩ [("script", v)]) ∧ ∀ base : Heap, K.In base → base.Ns mainGlobals mg → FnOk l.prog w K mg base CX0 8 fa fd ["script"] (spLaw K) := by
  have e := hfa.symm.trans (PySem.W.mg_of X G a31)
  cases e
  have F1 := fun_mk (st := s_joined_flow) l1 c1 k1
  have b1 := F1.binds (ps := ["flows"]) fun _ _ _ _ _ _ us hl => match us, hl with | [_], _ => rfl
  have F2 := fun_mk (st := s_mask) l2 c2 k2
  have b2 := F2.binds (ps := ["count"]) fun _ _ _ _ _ _ us hl => match us, hl with | [_], _ => rfl
  have F3 := fun_mk (st := s_given_register) l3 c3 k3
  have b3 := F3.binds (ps := ["instruction"]) fun _ _ _ _ _ _ us hl => match us, hl with | [_], _ => rfl
  have F4 := fun_mk (st := s_region_end) l4 c4 k4
  have b4 := F4.binds (ps := ["region"]) fun _ _ _ _ _ _ us hl => match us, hl with | [_], _ => rfl
  have F5 := fun_mk (st := s_region_at) l5 c5 k5
  have b5 := F5.binds (ps := ["layout", "address"]) fun _ _ _ _ _ _ us hl => match us, hl with | [_, _], _ => rfl
  have F6 := fun_mk (st := s_fact_union) l6 c6 k6
  have b6 := F6.binds (ps := ["fact", "other"]) fun _ _ _ _ _ _ us hl => match us, hl with | [_, _], _ => rfl
  have F7 := fun_mk (st := s_union) l7 c7 k7
  have b7 := F7.binds (ps := ["state", "other"]) fun _ _ _ _ _ _ us hl => match us, hl with | [_, _], _ => rfl
  have F8 := fun_mk (st := s_addresses) l8 c8 k8
  have b8 := F8.binds (ps := ["state", "instruction"]) fun _ _ _ _ _ _ us hl => match us, hl with | [_, _], _ => rfl
  have F9 := fun_mk (st := s_safe_region) l9 c9 k9
  have b9 := F9.binds (ps := ["layout", "least", "greatest"]) fun _ _ _ _ _ _ us hl => match us, hl with | [_, _, _], _ => rfl
  have F10 := fun_mk (st := s_next_state) l10 c10 k10
  have b10 := F10.binds (ps := ["layout", "state", "instruction"]) fun _ _ _ _ _ _ us hl => match us, hl with | [_, _, _], _ => rfl
  have F11 := fun_mk (st := s_without_cell) l11 c11 k11
  have b11 := F11.binds (ps := ["fact"]) fun _ _ _ _ _ _ us hl => match us, hl with | [_], _ => rfl
  have F12 := fun_mk (st := s_result_fact) l12 c12 k12
  have b12 := F12.binds (ps := ["layout", "state", "instruction"]) fun _ _ _ _ _ _ us hl => match us, hl with | [_, _, _], _ => rfl
  have F13 := fun_mk (st := s_loaded_fact) l13 c13 k13
  have b13 := F13.binds (ps := ["layout", "least", "greatest"]) fun _ _ _ _ _ _ us hl => match us, hl with | [_, _, _], _ => rfl
  have F14 := fun_mk (st := s_cell_of_sum) l14 c14 k14
  have b14 := F14.binds (ps := ["first", "second"]) fun _ _ _ _ _ _ us hl => match us, hl with | [_, _], _ => rfl
  have F15 := fun_mk (st := s_as_words) l15 c15 k15
  have b15 := F15.binds (ps := ["least", "greatest"]) fun _ _ _ _ _ _ us hl => match us, hl with | [_, _], _ => rfl
  have F16 := fun_mk (st := s_shifted) l16 c16 k16
  have b16 := F16.binds (ps := ["name", "least", "greatest", "count"]) fun _ _ _ _ _ _ us hl => match us, hl with | [_, _, _, _], _ => rfl
  have F17 := fun_mk (st := s_operated) l17 c17 k17
  have b17 := F17.binds (ps := ["name", "first", "second"]) fun _ _ _ _ _ _ us hl => match us, hl with | [_, _, _], _ => rfl
  have F18 := fun_mk (st := s_top_of_bits) l18 c18 k18
  have b18 := F18.binds (ps := ["name", "high", "greatest"]) fun _ _ _ _ _ _ us hl => match us, hl with | [_, _, _], _ => rfl
  have F19 := fun_mk (st := s_law_source) l19 c19 k19
  have b19 := F19.binds (ps := ["script", "k"]) fun _ _ _ _ _ _ us hl => match us, hl with | [_, _], _ => rfl
  have F20 := fun_mk (st := s_law_draw) l20 c20 k20
  have b20 := F20.binds (ps := ["source", "many"]) fun _ _ _ _ _ _ us hl => match us, hl with | [_, _], _ => rfl
  have F21 := fun_mk (st := s_law_word) l21 c21 k21
  have b21 := F21.binds (ps := ["source"]) fun _ _ _ _ _ _ us hl => match us, hl with | [_], _ => rfl
  have F22 := fun_mk (st := s_law_fact) l22 c22 k22
  have b22 := F22.binds (ps := ["source"]) fun _ _ _ _ _ _ us hl => match us, hl with | [_], _ => rfl
  have F23 := fun_mk (st := s_law_state) l23 c23 k23
  have b23 := F23.binds (ps := ["source"]) fun _ _ _ _ _ _ us hl => match us, hl with | [_], _ => rfl
  have F24 := fun_mk (st := s_law_fact_fits) l24 c24 k24
  have b24 := F24.binds (ps := ["fact", "other"]) fun _ _ _ _ _ _ us hl => match us, hl with | [_, _], _ => rfl
  have F25 := fun_mk (st := s_law_fits) l25 c25 k25
  have b25 := F25.binds (ps := ["state", "other"]) fun _ _ _ _ _ _ us hl => match us, hl with | [_, _], _ => rfl
  have F26 := fun_mk (st := s_law_wider_fact) l26 c26 k26
  have b26 := F26.binds (ps := ["source", "fact"]) fun _ _ _ _ _ _ us hl => match us, hl with | [_, _], _ => rfl
  have F27 := fun_mk (st := s_law_wider) l27 c27 k27
  have b27 := F27.binds (ps := ["source", "state"]) fun _ _ _ _ _ _ us hl => match us, hl with | [_, _], _ => rfl
  have F28 := fun_mk (st := s_law_layout) l28 c28 k28
  have b28 := F28.binds (ps := ["source"]) fun _ _ _ _ _ _ us hl => match us, hl with | [_], _ => rfl
  have F29 := fun_mk (st := s_law_instruction) l29 c29 k29
  have b29 := F29.binds (ps := ["source"]) fun _ _ _ _ _ _ us hl => match us, hl with | [_], _ => rfl
  have F30 := fun_mk (st := s_law_order_holds) l30 c30 k30
  have b30 := F30.binds (ps := ["script", "at"]) fun _ _ _ _ _ _ us hl => match us, hl with | [_, _], _ => rfl
  have F31 := fun_mk (st := s_law) l31 c31 k31
  have b31 := F31.binds (ps := ["script"]) fun _ _ _ _ _ _ us hl => match us, hl with | [_], _ => rfl
  let T : Tx K mg := ⟨_, _, F1, b1, PySem.W.mg_of X G a1, _, _, F2, b2, PySem.W.mg_of X G a2, _, _, F3, b3, PySem.W.mg_of X G a3, _, _, F4, b4, PySem.W.mg_of X G a4, _, _, F5, b5, PySem.W.mg_of X G a5, _, _, F6, b6, PySem.W.mg_of X G a6, _, _, F7, b7, PySem.W.mg_of X G a7, _, _, F8, b8, PySem.W.mg_of X G a8, _, _, F9, b9, PySem.W.mg_of X G a9, _, _, F10, b10, PySem.W.mg_of X G a10, _, _, F11, b11, PySem.W.mg_of X G a11, _, _, F12, b12, PySem.W.mg_of X G a12, _, _, F13, b13, PySem.W.mg_of X G a13, _, _, F14, b14, PySem.W.mg_of X G a14, _, _, F15, b15, PySem.W.mg_of X G a15, _, _, F16, b16, PySem.W.mg_of X G a16, _, _, F17, b17, PySem.W.mg_of X G a17, _, _, F18, b18, PySem.W.mg_of X G a18, _, _, F19, b19, PySem.W.mg_of X G a19, _, _, F20, b20, PySem.W.mg_of X G a20, _, _, F21, b21, PySem.W.mg_of X G a21, _, _, F22, b22, PySem.W.mg_of X G a22, _, _, F23, b23, PySem.W.mg_of X G a23, _, _, F24, b24, PySem.W.mg_of X G a24, _, _, F25, b25, PySem.W.mg_of X G a25, _, _, F26, b26, PySem.W.mg_of X G a26, _, _, F27, b27, PySem.W.mg_of X G a27, _, _, F28, b28, PySem.W.mg_of X G a28, _, _, F29, b29, PySem.W.mg_of X G a29, _, _, F30, b30, PySem.W.mg_of X G a30, _, _, F31, b31, PySem.W.mg_of X G a31, _, PySem.W.mg_of X G g_GIVES_NOTHING, rfl, _, PySem.W.mg_of X G g_GREATEST_WORD, ⟨_, rfl⟩, _, PySem.W.mg_of X G g_REGISTERS, ⟨_, rfl⟩, _, PySem.W.mg_of X G g_CARRY, ⟨_, rfl⟩, _, PySem.W.mg_of X G g_NO_CELL, rfl, _, PySem.W.mg_of X G g_WORD, ⟨_, rfl⟩, _, PySem.W.mg_of X G g_CARRYING, rfl, _, PySem.W.mg_of X G g_CHAINED, rfl, _, PySem.W.mg_of X G g_SHIFTS, rfl, PySem.W.mg_none_of X G z_abs, PySem.W.mg_none_of X G z_int, PySem.W.mg_none_of X G z_len, PySem.W.mg_none_of X G z_list, PySem.W.mg_none_of X G z_max, PySem.W.mg_none_of X G z_min, PySem.W.mg_none_of X G z_range, PySem.W.mg_none_of X G z_tuple, kitnc, kitca, kitch, kitsh, kitgn⟩
  exact ⟨PySem.W.fnOf "law" "law" (defArgs s_law) (defBody s_law) (defScope s_law) .none kV31 dc31 pm31 an31 cd31 ct31, fun s v => .of_eq rfl, fun base _ _ => ok_law' T F31⟩
end K70
open PySem PySem.W PyProof.Rows
set_option maxHeartbeats 0 in
theorem PySem.Challenge.cw_quietsmith_k70_next_state_keeps_order_holds : PySem.Challenge.rw_quietsmith_k70_next_state_keeps_order.Holds := by
  w_on; o_law; k_head; (case hw => w_witness2)
  k_fill
  refine L2.walk_of (l := PySem.Challenge.rw_quietsmith_k70_next_state_keeps_order) (n := 63) (k := 8) (x := "script") (CX := fun _ => L2.CX0) (sp := fun w => K70.spLaw _) rfl (by decide) rfl ⟨rfl, by decide, by decide⟩ (fun w h Y => PySem.W.kIn_of Y) ?F (fun _ _ a ns hl _ hS => ⟨a, ns, rfl, hS, hl, fun _ => rfl⟩) (fun _ _ _ _ _ h => h)
  case F =>
    intro w mg fa h KX G hmg
    refine' K70.all_mk KX G hmg ?a1 ?l1 ?c1 ?k1 ?a2 ?l2 ?c2 ?k2 ?a3 ?l3 ?c3 ?k3 ?a4 ?l4 ?c4 ?k4 ?a5 ?l5 ?c5 ?k5 ?a6 ?l6 ?c6 ?k6 ?a7 ?l7 ?c7 ?k7 ?a8 ?l8 ?c8 ?k8 ?a9 ?l9 ?c9 ?k9 ?a10 ?l10 ?c10 ?k10 ?a11 ?l11 ?c11 ?k11 ?a12 ?l12 ?c12 ?k12 ?a13 ?l13 ?c13 ?k13 ?a14 ?l14 ?c14 ?k14 ?a15 ?l15 ?c15 ?k15 ?a16 ?l16 ?c16 ?k16 ?a17 ?l17 ?c17 ?k17 ?a18 ?l18 ?c18 ?k18 ?a19 ?l19 ?c19 ?k19 ?a20 ?l20 ?c20 ?k20 ?a21 ?l21 ?c21 ?k21 ?a22 ?l22 ?c22 ?k22 ?a23 ?l23 ?c23 ?k23 ?a24 ?l24 ?c24 ?k24 ?a25 ?l25 ?c25 ?k25 ?a26 ?l26 ?c26 ?k26 ?a27 ?l27 ?c27 ?k27 ?a28 ?l28 ?c28 ?k28 ?a29 ?l29 ?c29 ?k29 ?a30 ?l30 ?c30 ?k30 ?a31 ?l31 ?c31 ?k31 ?g_GIVES_NOTHING ?g_GREATEST_WORD ?g_REGISTERS ?g_CARRY ?g_NO_CELL ?g_WORD ?g_CARRYING ?g_CHAINED ?g_SHIFTS ?z_abs ?z_int ?z_len ?z_list ?z_max ?z_min ?z_range ?z_tuple ?kitnc ?kitca ?kitch ?kitsh ?kitgn
    (case a1 => k_is)
    (case l1 => k_is)
    (case c1 => k_is)
    (case k1 => k_is)
    (case a2 => k_is)
    (case l2 => k_is)
    (case c2 => k_is)
    (case k2 => k_is)
    (case a3 => k_is)
    (case l3 => k_is)
    (case c3 => k_is)
    (case k3 => k_is)
    (case a4 => k_is)
    (case l4 => k_is)
    (case c4 => k_is)
    (case k4 => k_is)
    (case a5 => k_is)
    (case l5 => k_is)
    (case c5 => k_is)
    (case k5 => k_is)
    (case a6 => k_is)
    (case l6 => k_is)
    (case c6 => k_is)
    (case k6 => k_is)
    (case a7 => k_is)
    (case l7 => k_is)
    (case c7 => k_is)
    (case k7 => k_is)
    (case a8 => k_is)
    (case l8 => k_is)
    (case c8 => k_is)
    (case k8 => k_is)
    (case a9 => k_is)
    (case l9 => k_is)
    (case c9 => k_is)
    (case k9 => k_is)
    (case a10 => k_is)
    (case l10 => k_is)
    (case c10 => k_is)
    (case k10 => k_is)
    (case a11 => k_is)
    (case l11 => k_is)
    (case c11 => k_is)
    (case k11 => k_is)
    (case a12 => k_is)
    (case l12 => k_is)
    (case c12 => k_is)
    (case k12 => k_is)
    (case a13 => k_is)
    (case l13 => k_is)
    (case c13 => k_is)
    (case k13 => k_is)
    (case a14 => k_is)
    (case l14 => k_is)
    (case c14 => k_is)
    (case k14 => k_is)
    (case a15 => k_is)
    (case l15 => k_is)
    (case c15 => k_is)
    (case k15 => k_is)
    (case a16 => k_is)
    (case l16 => k_is)
    (case c16 => k_is)
    (case k16 => k_is)
    (case a17 => k_is)
    (case l17 => k_is)
    (case c17 => k_is)
    (case k17 => k_is)
    (case a18 => k_is)
    (case l18 => k_is)
    (case c18 => k_is)
    (case k18 => k_is)
    (case a19 => k_is)
    (case l19 => k_is)
    (case c19 => k_is)
    (case k19 => k_is)
    (case a20 => k_is)
    (case l20 => k_is)
    (case c20 => k_is)
    (case k20 => k_is)
    (case a21 => k_is)
    (case l21 => k_is)
    (case c21 => k_is)
    (case k21 => k_is)
    (case a22 => k_is)
    (case l22 => k_is)
    (case c22 => k_is)
    (case k22 => k_is)
    (case a23 => k_is)
    (case l23 => k_is)
    (case c23 => k_is)
    (case k23 => k_is)
    (case a24 => k_is)
    (case l24 => k_is)
    (case c24 => k_is)
    (case k24 => k_is)
    (case a25 => k_is)
    (case l25 => k_is)
    (case c25 => k_is)
    (case k25 => k_is)
    (case a26 => k_is)
    (case l26 => k_is)
    (case c26 => k_is)
    (case k26 => k_is)
    (case a27 => k_is)
    (case l27 => k_is)
    (case c27 => k_is)
    (case k27 => k_is)
    (case a28 => k_is)
    (case l28 => k_is)
    (case c28 => k_is)
    (case k28 => k_is)
    (case a29 => k_is)
    (case l29 => k_is)
    (case c29 => k_is)
    (case k29 => k_is)
    (case a30 => k_is)
    (case l30 => k_is)
    (case c30 => k_is)
    (case k30 => k_is)
    (case a31 => k_is)
    (case l31 => k_is)
    (case c31 => k_is)
    (case k31 => k_is)
    (case g_GIVES_NOTHING => k_is)
    (case g_GREATEST_WORD => k_is)
    (case g_REGISTERS => k_is)
    (case g_CARRY => k_is)
    (case g_NO_CELL => k_is)
    (case g_WORD => k_is)
    (case g_CARRYING => k_is)
    (case g_CHAINED => k_is)
    (case g_SHIFTS => k_is)
    (case z_abs => k_is)
    (case z_int => k_is)
    (case z_len => k_is)
    (case z_list => k_is)
    (case z_max => k_is)
    (case z_min => k_is)
    (case z_range => k_is)
    (case z_tuple => k_is)
    (case kitnc => kernel_rfl)
    (case kitca => kernel_rfl)
    (case kitch => kernel_rfl)
    (case kitsh => kernel_rfl)
    (case kitgn => kernel_rfl)

