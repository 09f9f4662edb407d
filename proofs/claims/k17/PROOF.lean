import PyProof.Rows.All
import Wide.All
import OpenK.AllK
import Wide.FinOn
import HandS.ForExc
import HandS.ExcInit
import HandS.FStr
import KE.KExcSuper
import HandS.IsInst
import HandS.ExcField
import KE.KExcIs
import KE.KIsAll
import HandS.TryOnly
import HandS.ForMost
import HandS.More
import HandS.Zip
import HandS.Walk
import KE.GoesMore
import KE.GoesEnum
import HandS.TupMul
import HandS.AnyAll
import HandS.EndTab
import HandS.GenList
import HandS.Words
import HandS.Call
import HandS.ExcOwn
import HandS.Text
import HandS.TupAny
import HandS.WideBits
import HandS.DictComp
import HandS.Flow
import HandS.Codes
import PySem.Challenge.RW_quietsmith_k17_work_and_calls
set_option Elab.async false
set_option linter.all false
set_option maxRecDepth 100000
set_option maxHeartbeats 4000000
/-! An own error whose __init__ begins with super().__init__(text): its def, kept as a promise. -/
namespace QX
open PySem PySem.Spec PyProof.Rows L2
/-- the last of a row of names that differ -/
theorem last_of {ps : List Str} {us : List Value} (nd : ps.Nodup) : ∀ {i : Nat} {x : Str} {u : Value}, ps[i]? = some x → us[i]? = some u → ((ps.zip us).reverse).lookup x = some u := by
  induction ps generalizing us with
  | nil =>
    intro i x u h _
    cases i <;> cases h
  | cons p r ih =>
    intro i x u h g
    cases us with
    | nil => cases i <;> cases g
    | cons v t =>
      have n1 : p ∉ r := (List.nodup_cons.mp nd).1
      have n2 := (List.nodup_cons.mp nd).2
      rw [List.zip_cons_cons, List.reverse_cons, List.lookup_append]
      cases i with
      | zero =>
        obtain rfl : p = x := Option.some.inj h
        obtain rfl : v = u := Option.some.inj g
        have e : ((r.zip t).reverse).lookup p = none := by
          rw [List.lookup_eq_none_iff]
          intro q hq
          have h1 : q.1 ∈ r := (List.of_mem_zip (List.mem_reverse.mp hq)).1
          exact bne_iff_ne.mpr fun (z : p = q.1) => n1 (by rw [z]; exact h1)
        rw [e]
        simp [List.lookup]
      | succ i =>
        rw [ih n2 h g]
        rfl
/-- a def of a class's body that closes over __class__ -/
structure FunS (P : Program) (K : PySem.W.Frag) (x qual : Str) (st : Stmt) (D f : Addr) (fd : FuncData) : Prop where
  ex : ∃ (oc : Value) (od : Option Addr) (kV doc pm : Value) (an : Option Addr) (cda cc : Addr) (ct : Value) (osl : Array (Option Value)) (ccl : Value) (cdd : Option Addr) (vs : Array Value) (ccs : Array (Option Value)) (file : Str) (tf : Tok) (cl : Value) (cld : Option Addr) (csl : Array (Option Value)),
    fd = PySem.W.ksFn x qual (defArgs st) (defBody st) (defScope st) .none kV doc pm an (.ref cda) ct cc ∧ K.lookup f = some ⟨oc, od, .func fd, osl⟩ ∧ PySem.W.codeIn K (.ref cda) qual = true ∧
    K.lookup cda = some ⟨ccl, cdd, .fields vs, ccs⟩ ∧ vs[2]? = some (.str file tf) ∧ ((P.main.file : Str) == file) = true ∧ K.lookup cc = some ⟨cl, cld, .cell (some (.ref D)), csl⟩
/-- its scope: the parameters alone, and the two names of super() -/
structure ScS (ps : List Str) (sc : Scope) : Prop where
  kind : sc.kind = .function
  co : sc.isCoroutine = false
  gen : sc.isGenerator = false
  par : ∀ n ∈ ps, sc.names.lookup n = some .local
  nd : ps.Nodup
  cell : ∀ y ∈ sc.names, y.2 ≠ .cell
  free : ∀ y ∈ sc.names, y.2 = .free → y.1 = ("__class__" : Str)
  sup : sc.names.lookup ("super" : Str) = some .globalImplicit
  cls : sc.names.lookup ("__class__" : Str) = some .free
abbrev envS (qual : Str) (sc : Scope) (L f : Addr) (cd : Value) (cc : Addr) : Env := PySem.W.ksEnv qual sc L f cd cc
def cxS (CX : CXT) (P : Program) (w : World) (K : PySem.W.Frag) (mg : Str → Option Value) (base : Heap) (N : List Str) (qual : Str) (sc : Scope) (f : Addr) (cd : Value) (cc : Addr) (A : Around) (outer : List Env) (s : Shared) (H : Hp) (E : XK) : Cx where
  prog := P
  w := w
  K := K
  mg := mg
  base := base
  A := A.deeper (envS qual sc s.heap.objs.size f cd cc)
  N := N
  s_0 := s
  H_0 := H
  env := envS qual sc s.heap.objs.size f cd cc
  outer := outer
  stack := envS qual sc s.heap.objs.size f cd cc :: outer
  ex := []
  calm := true
  fn := fun _ => false
  pn := []
  xe := fun e s' => wpAny (model P w) (A.deeper (envS qual sc s.heap.objs.size f cd cc)) (leaving (envS qual sc s.heap.objs.size f cd cc) e) (fun _ s'' => CX outer H s E e s'') (fun e' s'' => CX outer H s E e' s'') s'
theorem kind_of {ps : List Str} {sc : Scope} (S : ScS ps sc) {y : Str} (h : sc.names.lookup y = some .free) : y = ("__class__" : Str) := S.free (y, .free) (PySem.mem_of_lookup h) rfl
theorem begin_S {CX : CXT} {P : Program} {w : World} {K : PySem.W.Frag} {mg : Str → Option Value} {base : Heap} {ps : List Str} {qual : Str} {sc : Scope} {f cc D : Addr} {cd : Value} {A : Around} {outer : List Env} {s : Shared} {h₀ : Heap} {tk : Nat} {H : Hp} {E : XK} {us : List Value} {vs : List V}
    {cl : Value} {cld : Option Addr} {csl : Array (Option Value)} (S : ScS ps sc) (hd : A.handled = none) (e0 : Env0 P w K mg base A outer s H) (hl : vs.length = ps.length) (r : Vals vs us) (lc : K.lookup cc = some ⟨cl, cld, .cell (some (.ref D)), csl⟩)
    (hns : h₀.Ns s.heap.objs.size (fun x => ((ps.zip us).reverse).lookup x)) (hk : ∀ b o, s.heap.get? b = some o → h₀.get? b = some o) :
    Inv (cxS CX P w K mg base ps qual sc f cd cc A outer s H E) [] (L2.start ps vs) H { s with heap := h₀, toks := tk } := by
  have noA : ∀ b : Addr, b ∉ (cxS CX P w K mg base ps qual sc f cd cc A outer s H E).ex := fun b z => absurd (show b ∈ ([] : List Addr) from z) (by simp)
  have one : ∀ {x : Str} {c : Addr}, (cxS CX P w K mg base ps qual sc f cd cc A outer s H E).env.cells.lookup x = some c → x = ("__class__" : Str) ∧ c = cc := by
    intro x c h
    have h2 : ([(("__class__" : Str), cc)] : List (Str × Addr)).lookup x = some c := h
    by_cases e : x = ("__class__" : Str)
    · subst e
      have h3 : some cc = some c := by simpa [List.lookup] using h2
      exact ⟨rfl, (Option.some.inj h3).symm⟩
    · have e2 : (x == ("__class__" : Str)) = false := by simpa using e
      have h3 : (none : Option Addr) = some c := by simpa [List.lookup, e2] using h2
      cases h3
  have b1 := e0.bs cc _ (e0.mod.kin _ _ lc)
  refine ⟨⟨e0.mod, S.kind, rfl, rfl, Nat.le_refl _, fun x y c h1 h2 => (one h1).1.trans (one h2).1.symm, fun y hy => ?_, (fun y c z _ => nomatch z), fun _ => hd, Around.frames_deeper e0.frames, .inr ⟨rfl, rfl⟩, fun b z => absurd z (noA b), e0.bs, e0.bsz, fun b _ _ => noA b, fun b z => absurd z (noA b), e0.funs, e0.frf⟩,
    rfl, e0.bare, Un.kept hk, ⟨_, hns, fun i y v h1 h2 h3 => ?_⟩, fun y c h => ?_, e0.hok.fresh (Nat.le_refl _), fun y c h => ?_, fun p hp => absurd (show p ∈ ([] : List (Addr × Obj)) from hp) (by simp), e0.hok.kept hk, ?_⟩
  · have hy : sc.names.lookup y = some .cell ∨ sc.names.lookup y = some .free := hy
    rcases hy with hy | hy
    · exact absurd rfl (S.cell _ (PySem.mem_of_lookup hy))
    · rw [kind_of S hy]
      exact ⟨cc, rfl⟩
  · have hi : i < vs.length := by
      have := (List.getElem?_eq_some_iff.mp h1).1
      rw [hl]
      exact this
    have ha : vs[i]? = some v := by
      unfold L2.start at h2
      rw [List.getElem?_append_left (by simpa using hi), List.getElem?_map] at h2
      cases e : vs[i]? with
      | none =>
        rw [e] at h2
        cases h2
      | some a =>
        rw [e] at h2
        cases h2
        rfl
    obtain ⟨u, hu, rv⟩ := r.get ha
    exact ⟨u, rv, .inl ⟨S.par y (List.mem_of_getElem? h1), last_of S.nd h1 hu⟩⟩
  · obtain ⟨_, rfl⟩ := one h
    exact ⟨_, ⟨_, hk _ _ b1.1, rfl⟩⟩
  · obtain ⟨_, rfl⟩ := one h
    exact b1.2
  · unfold L2.start
    show _ = ps.length
    rw [List.length_append, List.length_map, List.length_replicate]
    omega

/-- what super().__init__ wants of the class C of the error, whose __init__ stands in D -/
structure SupC (K : PySem.W.Frag) (C D : Addr) : Prop where
  ox : OexC K C
  dcl : ∃ cd, PySem.W.clsIn K D = some cd
  sub : PySem.W.mroIn K C (.ref D) = some true
  ini : PySem.W.ks_superIn K C D "__init__" = some (some (.builtin "ValueError.__init__"))
  ve : PySem.W.subIn K (.ref C) (.type "ValueError") = some true
  tp : PySem.W.nsIn K cStatics "thirdparty.any" = some none
section
variable {X : Cx} {pins : List (Addr × Obj)} {σ : L2.St} {H : Hp} {s : Shared} {a C D u : Addr} {E : Value → Shared → Prop} {A : Around}
/-- the bound __init__ called: nothing of it is told -/
theorem bound_ok {us : List Value} {Q : Value → Shared → Prop} (T : OexC X.K C) (I : Inv X pins σ H s) (e : H a = some (exo a C none)) (hu : s.heap.get? u = some (PySem.W.kxs_mw "ValueError.__init__" a)) (hl : us.length ≤ sizeLine) (h : ∀ s', Inv X pins σ H s' → Q .none s') :
    wpAny (model X.prog X.w) A (call (.ref u) us) Q E s := by
  obtain ⟨nm, q, N, bs, bm, sn, sub, ab, col, dd, k0, k1, k2, k3, k5, hC, hbm⟩ := T.cls
  obtain ⟨t1, ho⟩ := exo_at I.hok e
  have fin : ∀ h', (∀ b o, b ≠ a → s.heap.get? b = some o → h'.get? b = some o) → (∃ t2 : Addr, h'.get? a = some ({ cls := .ref C, dict := none, data := .fields #[.ref t2, .none, .none, .none, .bool false, .none] } : Obj)) → Q .none { s with heap := h' } := fun h' k hx => by
    obtain ⟨t2, hx⟩ := hx
    have J := I.write (t' := s.toks) (x := a) (e := a) (o := exo a C none) (by rw [e]; exact True.intro) (.inl rfl) k ⟨_, hx⟩ (exo_ok hx)
    have eu : upd H a (exo a C none) = H := by
      funext b
      by_cases hb : b = a
      · rw [hb, upd_same, e]
      · rw [upd_ne hb]
    rw [eu] at J
    exact h _ J
  obtain ⟨hh, g, d, tk, os⟩ := s
  refine wpAny_call (codeAny_of_tree ?_)
  show wpAny _ A.in1 (callAny (.ref u) ⟨us, []⟩) _ _ _
  simp only [callAny]
  refine wpAny_bind (wpAny_load hu ?_)
  dsimp only [PySem.W.kxs_mw]
  refine PySem.W.KFB.if_so (by decide) ?_
  refine wpAny_bind (PySem.W.check_bound_init F.excBase_ValueError.toExcCallFacts (I.kIn _ _ hC) ho rfl ?_)
  refine wpAny_bind (wpAny_pure (wpAny_pure ?_))
  refine ⟨plainId_quiet F.excBase_ValueError.init.plain _, codeAny_builtin F.excBase_ValueError.initEntry ?_⟩
  exact PySem.W.exc_init_tree ho hl fun h' k hx _ => fin h' k ⟨_, hx⟩
end

section
variable {CX : CXT} {P : Program} {w : World} {K : PySem.W.Frag} {mg : Str → Option Value} {base : Heap} {ps : List Str} {qual : Str} {sc : Scope} {f cda cc D C a : Addr} {A : Around} {outer : List Env} {s0 s : Shared} {H0 H : Hp} {E : XK} {σ : L2.St}
  {oc : Value} {od : Option Addr} {osl : Array (Option Value)} {fd : FuncData} {ccl : Value} {cdd : Option Addr} {vs : Array Value} {ccs : Array (Option Value)} {file : Str} {tf : Tok} {cl : Value} {cld : Option Addr} {csl : Array (Option Value)}
theorem sup_first {body : List Stmt} {p0 p1 p2 p3 p4 : Pos} {e : Expr} {es : List Expr} {ta : TA} {ar : Arg} {Qn : Hp → Prop} (S : ScS ps sc) (T : SupC K C D) (I : Inv (cxS CX P w K mg base ps qual sc f (.ref cda) cc A outer s0 H0 E) [] σ H s)
    (lf : K.lookup f = some ⟨oc, od, .func fd, osl⟩) (hp : (fd.params.posonlyargs ++ fd.params.args).head? = some ar) (h0 : ps[0]? = some ar.arg) (ha : σ[0]? = some (some (.ref a))) (hx : H a = some (exo a C none))
    (lcd : K.lookup cda = some ⟨ccl, cdd, .fields vs, ccs⟩) (hvs : vs[2]? = some (.str file tf)) (hfile : ((P.main.file : Str) == file) = true) (lc : K.lookup cc = some ⟨cl, cld, .cell (some (.ref D)), csl⟩)
    (hms : mg "super" = none) (htop : (P.main.scope.names.lookup ("super" : Str)).isSome = false)
    {pl : Sem Bool} (hc : eval (.Call (.Attribute (.Call (.Name "super" p0) [] [] p1) "__init__" p2) (e :: es) [] p3) (envS qual sc s0.heap.objs.size f (.ref cda) cc) = (do
      let ov ← attributeBase (.Call (.Name "super" p0) [] [] p1) "__init__" (envS qual sc s0.heap.objs.size f (.ref cda) cc) (eval (.Call (.Name "super" p0) [] [] p1) (envS qual sc s0.heap.objs.size f (.ref cda) cc))
      standAt p2.atName
      let (g, first) ← holding [ov] (getMethod ov "__init__" pl)
      callWith p3 g first (backTo p3 (starEach (e :: es) (envS qual sc s0.heap.objs.size f (.ref cda) cc))) []))
    (hA : PA (cxS CX P w K mg base ps qual sc f (.ref cda) cc A outer s0 H0 E) (e :: es) ta) (q : ta σ H fun ws H1 => ws.length ≤ 1000 ∧ H1 a = some (exo a C none) ∧ Qn H1)
    (he : starEach (e :: es) (envS qual sc s0.heap.objs.size f (.ref cda) cc) = (false, eval e (envS qual sc s0.heap.objs.size f (.ref cda) cc)) :: starEach es (envS qual sc s0.heap.objs.size f (.ref cda) cc))
    (hpl : (backTo p3 (starEach es (envS qual sc s0.heap.objs.size f (.ref cda) cc))).any (·.1) = false)
    (hsw : swapsWith (.Call (.Attribute (.Call (.Name "super" p0) [] [] p1) "__init__" p2) (e :: es) [] p3) none p4.line (envS qual sc s0.heap.objs.size f (.ref cda) cc) = pure false) :
    _root_.PySem.wpAt (model P w) (A.deeper (envS qual sc s0.heap.objs.size f (.ref cda) cc)) (.func body (envS qual sc s0.heap.objs.size f (.ref cda) cc))
      (exec (.Expr (.Call (.Attribute (.Call (.Name "super" p0) [] [] p1) "__init__" p2) (e :: es) [] p3) p4) (envS qual sc s0.heap.objs.size f (.ref cda) cc))
      (fun fl s' => match fl with
        | .next => ∃ H', Inv (cxS CX P w K mg base ps qual sc f (.ref cda) cc A outer s0 H0 E) [] σ H' s' ∧ Qn H'
        | _ => False) (cxS CX P w K mg base ps qual sc f (.ref cda) cc A outer s0 H0 E).xe s := by
  have hi : interactive (envS qual sc s0.heap.objs.size f (.ref cda) cc) = false := by
    unfold interactive
    show (sc.kind == .module && _) = false
    rw [S.kind]
    rfl
  have hkS : (envS qual sc s0.heap.objs.size f (.ref cda) cc).kindOf "super" = some .globalImplicit := S.sup
  have hkC : (envS qual sc s0.heap.objs.size f (.ref cda) cc).kindOf "__class__" = some .free := S.cls
  obtain ⟨m, hns, hm⟩ := I.loc
  obtain ⟨u0, ru, lk⟩ := hm 0 ar.arg (.ref a) h0 ha (.inl (S.par _ (List.mem_of_getElem? h0)))
  obtain rfl : u0 = Value.ref a := ru
  have ma : m ar.arg = some (.ref a) := by
    rcases lk with ⟨_, h⟩ | ⟨h, _⟩
    · exact h
    · have h2 : sc.names.lookup ar.arg = some .cell ∨ sc.names.lookup ar.arg = some .free := h
      rw [S.par _ (List.mem_of_getElem? h0)] at h2
      rcases h2 with h2 | h2 <;> cases h2
  obtain ⟨cd, hcd⟩ := T.dcl
  obtain ⟨oD, hD1, hD2⟩ : ∃ oD, s.heap.get? D = some oD ∧ oD.data = .cls cd := by
    unfold PySem.W.clsIn at hcd
    split at hcd
    · rename_i c d cd' sl ho
      cases hcd
      exact ⟨_, I.kIn _ _ ho, rfl⟩
    · cases hcd
  obtain ⟨t1, hox⟩ := exo_at I.hok hx
  obtain ⟨mb, b1, b2⟩ := I.mod.blt
  refine PySem.ks_wpAt_Expr_any ?_ hi hsw
  refine PySem.ks_wpAt_MethodCall (pl := pl) ?_ hc
  refine PySem.ks_wpAt_super_base hkS hkC (by decide) rfl (I.kIn _ _ lf) rfl hp rfl (I.kIn _ _ lcd) rfl hvs hfile htop ?_
  refine PySem.W.ks_loadName_global S.kind hkS (Calls.loadGlobal_builtin (I.mod.glob.keeps I.bk) hms (b1.keeps I.bk) ((b2 "super" (by decide)).trans (by decide +kernel)) ⟨rfl, ?_⟩)
  refine wpAny_loadName_free S.kind hkC rfl ⟨_, I.kIn _ _ lc, rfl⟩ ?_
  refine wpAny_loadName_local S.kind (S.par _ (List.mem_of_getElem? h0)) hns ma ?_
  refine PySem.ks_wpAny_isType_cls hD1 hD2 ⟨rfl, ?_⟩
  have nc : ∀ c, ({ cls := .ref C, dict := none, data := .fields #[.ref t1, .none, .none, .none, .bool false, .none] } : Obj).data ≠ .cls c := fun c z => by cases z
  obtain ⟨hh, g, d, tk, os⟩ := s
  refine PySem.ks_wpAny_call_super hD1 hD2 hox rfl nc (PySem.W.looks_mroIn I.kIn T.sub) fun h' hso k => ?_
  have I1 := I.kept (t' := tk) k
  obtain ⟨nm, qn, N, bs, bm, sn, sub, ab, col, dd, k0, k1, k2, k3, k5, hC, hbm⟩ := T.ox.cls
  have hcl : PySem.W.clsIn K C = some { name := nm, bases := bs, mro := .ref C :: bm, ns := N, qualname := qn, hasDict := true, slotNames := sn, subclasses := sub, abstract := ab, collection := col, hasDel := false } := by
    unfold PySem.W.clsIn
    rw [hC] <;> rfl
  have hini := T.ini
  unfold PySem.W.ks_superIn at hini
  rw [hcl] at hini
  have hox1 := k _ _ hox
  have J : PySem.W.InstAt h' a { cls := .ref C, dict := none, data := .fields #[.ref t1, .none, .none, .none, .bool false, .none] } C none := ⟨hox1, rfl, rfl, trivial⟩
  refine PySem.W.kxs_getMethod PySem.W.kxs_ValueError hso (PySem.W.looks_opaque I1.kIn T.tp) (l₀ := .ref C :: bm) (fun A Q E s k q => wpAny_bind ((PySem.W.looks_clsIn I1.kIn hcl) A _ E s k (wpAny_pure q))) rfl I1.kIn hini (J.type.andThen (PySem.W.looks_subIn I1.kIn T.ve)) (PySem.W.ks_ne I1.kIn J hcl) (by decide) ?_
  have kp : ∀ b o, h'.get? b = some o → (h'.push (PySem.W.kxs_mw "ValueError.__init__" a)).get? b = some o := fun b o z => Heap.get?_push_of_some _ z
  have I2 := I1.kept (t' := tk + 1) kp
  have hu : (h'.push (PySem.W.kxs_mw "ValueError.__init__" a)).get? h'.objs.size = some (PySem.W.kxs_mw "ValueError.__init__" a) := Heap.get?_push_at rfl rfl
  have I3 : Inv (cxS CX P w K mg base ps qual sc f (.ref cda) cc A outer s0 H0 E) [(h'.objs.size, PySem.W.kxs_mw "ValueError.__init__" a)] σ H ⟨h'.push (PySem.W.kxs_mw "ValueError.__init__" a), g, d, tk + 1, os⟩ :=
    ⟨I2.ok, I2.os, I2.bare, I2.base, I2.loc, I2.cell, I2.free, I2.freeC, fun p hp => by
      have hp2 : p = (h'.objs.size, PySem.W.kxs_mw "ValueError.__init__" a) := List.mem_singleton.mp hp
      subst hp2
      exact ⟨hu, I1.hok.fresh (Nat.le_refl _), Nat.ne_of_gt I1.lt, I1.nofs (Nat.le_refl _), fun v z => by cases z⟩, I2.hok, I2.len⟩
  have qa : wpAny (model P w) (A.deeper (envS qual sc s0.heap.objs.size f (.ref cda) cc)) (spliced (backTo p3 (starEach (e :: es) (envS qual sc s0.heap.objs.size f (.ref cda) cc)))) (AP (cxS CX P w K mg base ps qual sc f (.ref cda) cc A outer s0 H0 E) [(h'.objs.size, PySem.W.kxs_mw "ValueError.__init__" a)] σ fun ws H1 => ws.length ≤ 1000 ∧ H1 a = some (exo a C none) ∧ Qn H1) (cxS CX P w K mg base ps qual sc f (.ref cda) cc A outer s0 H0 E).xe ⟨h'.push (PySem.W.kxs_mw "ValueError.__init__" a), g, d, tk + 1, os⟩ := hA.run p3 _ _ σ H _ I3 q
  show wpAny _ _ (callWith p3 (.ref h'.objs.size) [] (backTo p3 (starEach (e :: es) (envS qual sc s0.heap.objs.size f (.ref cda) cc))) []) _ _ _
  rw [he] at qa ⊢
  refine PySem.W.kxs_callWith (i := "ValueError.__init__") (x := a) (by show (false || (backTo p3 (starEach es (envS qual sc s0.heap.objs.size f (.ref cda) cc))).any (·.1)) = false; rw [hpl]; rfl) ?_
  refine PySem.Calls.evalArgs_plain (thn qa fun us s1 ⟨ws, H1, J1, r1, hz, e1, q1⟩ => ?_)
  have pu := J1.pin (h'.objs.size, PySem.W.kxs_mw "ValueError.__init__" a) (List.mem_append_right _ (List.mem_singleton.mpr rfl))
  refine ⟨pu.1, ?_⟩
  have J2 : Inv (cxS CX P w K mg base ps qual sc f (.ref cda) cc A outer s0 H0 E) [] σ H1 s1 :=
    ⟨J1.ok, J1.os, J1.bare, J1.base, J1.loc, J1.cell, J1.free, J1.freeC, fun p hp => J1.pin p (List.mem_append_left _ (by rw [List.append_nil] at hp; exact hp)), J1.hok, J1.len⟩
  have hlen : us.length ≤ sizeLine := by
    rw [← Paired.length r1, sizeLine_eq]
    omega
  exact bound_ok (X := cxS CX P w K mg base ps qual sc f (.ref cda) cc A outer s0 H0 E) T.ox J2 e1 pu.1 hlen fun s' J' => ⟨H1, J', q1⟩
end
/-- how its arguments bind -/
theorem FunS.binds {P : Program} {K : PySem.W.Frag} {x qual : Str} {st : Stmt} {D f : Addr} {fd : FuncData} {ps : List Str} (F : FunS P K x qual st D f fd)
    (h : ∀ (kV doc pm : Value) (an : Option Addr) (cda cc : Addr) (ct : Value) (us : List Value), us.length = ps.length → bindArgs (PySem.W.ksFn x qual (defArgs st) (defBody st) (defScope st) .none kV doc pm an (.ref cda) ct cc) ⟨us, []⟩ = pure (ps.zip us)) : Binds K fd ps [] := by
  obtain ⟨oc, od, kV, doc, pm, an, cda, cc, ct, osl, ccl, cdd, vs, ccs, file, tf, cl, cld, csl, rfl, _⟩ := F.ex
  exact .all (h kV doc pm an cda cc ct)
/-- THE RULE: super().__init__(e), then the rest -/
theorem FunS.ok {P : Program} {w : World} {K : PySem.W.Frag} {mg : Str → Option Value} {base : Heap} {x qual : Str} {st : Stmt} {D C f : Addr} {fd : FuncData} {ps : List Str} {k : Nat} {sp : Sp} {ar : Arg} {p0 p1 p2 p3 p4 : Pos} {e : Expr} {es : List Expr} {rest : List Stmt}
    (F : FunS P K x qual st D f fd) (S : ScS ps (defScope st)) (T : SupC K C D) (hms : mg "super" = none) (htop : (P.main.scope.names.lookup ("super" : Str)).isSome = false)
    (hb : defBody st = .Expr (.Call (.Attribute (.Call (.Name "super" p0) [] [] p1) "__init__" p2) (e :: es) [] p3) p4 :: rest)
    (hp : ((defArgs st).posonlyargs ++ (defArgs st).args).head? = some ar) (h0 : ps[0]? = some ar.arg)
    (len : ∀ vs H Q E, sp vs H Q E → vs.length = ps.length) (self : ∀ vs H Q E, sp vs H Q E → ∃ a r, vs = .ref a :: r ∧ H a = some (exo a C none))
    {pl : Env → Sem Bool} (hc : ∀ env : Env, eval (.Call (.Attribute (.Call (.Name "super" p0) [] [] p1) "__init__" p2) (e :: es) [] p3) env = (do
      let ov ← attributeBase (.Call (.Name "super" p0) [] [] p1) "__init__" env (eval (.Call (.Name "super" p0) [] [] p1) env)
      standAt p2.atName
      let (g, first) ← holding [ov] (getMethod ov "__init__" (pl env))
      callWith p3 g first (backTo p3 (starEach (e :: es) env)) []))
    (he : ∀ env : Env, starEach (e :: es) env = (false, eval e env) :: starEach es env) (hpl : ∀ env : Env, (backTo p3 (starEach es env)).any (·.1) = false)
    (hsw : ∀ env : Env, swapsWith (.Call (.Attribute (.Call (.Name "super" p0) [] [] p1) "__init__" p2) (e :: es) [] p3) none p4.line env = pure false)
    (hbody : ∀ (cda cc : Addr) (A : Around) (outer : List Env) (s : Shared) (H : Hp) (a : Addr) (vr : List V) (Q : VK) (E : XK), Room k (A.deeper (envS qual (defScope st) s.heap.objs.size f (.ref cda) cc)) → sp (.ref a :: vr) H Q E →
      ∃ ta t, PA (cxS CX0 P w K mg base ps qual (defScope st) f (.ref cda) cc A outer s H E) (e :: es) ta ∧ PSs (cxS CX0 P w K mg base ps qual (defScope st) f (.ref cda) cc A outer s H E) rest t ∧
        ta (L2.start ps (.ref a :: vr)) H fun ws H1 => ws.length ≤ 1000 ∧ H1 a = some (exo a C none) ∧ t { nx := fun _ H' => Q .non H', rt := Q } (L2.start ps (.ref a :: vr)) H1) :
    FnOk P w K mg base CX0 (k + 1) f fd ps sp := by
  obtain ⟨oc, od, kV, doc, pm, an, cda, cc, ct, osl, ccl, cdd, cvs, ccs, file, tf, cl, cld, csl, rfl, lk, hcd, lcd, hvs, hfile, lc⟩ := F.ex
  refine ⟨len, fun A outer s H args us vs Q E hr e0 hbind r hsp => ?_⟩
  have hl := len _ _ _ _ hsp
  have KX : K.In s.heap := e0.mod.kin.keeps fun b o z => (e0.bs b o z).1
  have lim : s.heap.NoLimit := e0.mod.nolimit.keeps fun b o z => (e0.bs b o z).1
  obtain ⟨a, vr, rfl, hx⟩ := self _ _ _ _ hsp
  obtain ⟨ta, t, hA, hS, hq⟩ := hbody cda cc A outer s H a vr Q E (hr.deeper _) hsp
  refine PySem.ks_codeAny_call_defAt (fd := PySem.W.ksFn x qual (defArgs st) (defBody st) (defScope st) .none kV doc pm an (.ref cda) ct cc) (body := defBody st) (binds := ps.zip us) hr.depth (KX _ _ lk) rfl lim (PySem.W.codeRec_of KX hcd) rfl hbind S.cell
    (fun y hy => S.par _ (List.of_mem_zip hy).1) (fun h₀ hns hk => ?_) S.co S.gen S.kind
  have I := begin_S (CX := CX0) (A := A) (outer := outer) (E := E) (f := f) (cd := .ref cda) (tk := s.toks + (ps.zip us).length) (qual := qual) S hr.hd e0 hl r lc hns hk
  have s0 : (L2.start ps (V.ref a :: vr))[0]? = some (some (.ref a)) := rfl
  have first := sup_first (body := defBody st) S T I lk hp h0 s0 hx lcd hvs hfile lc hms htop (hc _) hA hq (he _) (hpl _) (hsw _)
  have eb : execs (defBody st) (envS qual (defScope st) s.heap.objs.size f (.ref cda) cc) = execs (.Expr (.Call (.Attribute (.Call (.Name "super" p0) [] [] p1) "__init__" p2) (e :: es) [] p3) p4 :: rest) (envS qual (defScope st) s.heap.objs.size f (.ref cda) cc) := by rw [hb]
  show _root_.PySem.wpAt _ _ _ (execs (defBody st) (envS qual (defScope st) s.heap.objs.size f (.ref cda) cc)) _ _ _
  rw [eb]
  refine PySem.ks_wpAt_execs_cons (PySem.ks_wpAt_mono first (fun fl s' h => ?_) fun _ _ h => h)
  cases fl with
  | next =>
    obtain ⟨H', J, q'⟩ := h
    refine PySem.wpAt_of_wpAny (wpAny_mono (hS.run [] s' _ H' _ J q') (fun fl2 s2 hs => ?_) fun _ _ h => h)
    have fin : ∀ {σ' : L2.St} {H2 : Hp} {v : V} {u : Value}, Inv (cxS CX0 P w K mg base ps qual (defScope st) f (.ref cda) cc A outer s H E) [] σ' H2 s2 → RelV v u → Q v H2 → CE outer P w H s Q u s2 :=
      fun {σ' H2 v u} J rv q => ⟨v, H2, J.os, J.bare, J.base, J.hok, rv, q⟩
    cases fl2 with
    | ret u =>
      obtain ⟨v, σ', H2, J2, rv, q2⟩ := hs
      exact fin J2 rv q2
    | next =>
      obtain ⟨σ', H2, J2, q2⟩ := hs
      exact fin (v := V.non) (u := Value.none) J2 rfl q2
    | brk =>
      obtain ⟨_, _, _, q2⟩ := hs
      exact q2.elim
    | cont =>
      obtain ⟨_, _, _, q2⟩ := hs
      exact q2.elim
  | ret u => exact h.elim
  | brk => exact h.elim
  | cont => exact h.elim
end QX

set_option Elab.async false
set_option linter.all false
set_option maxRecDepth 100000
set_option maxHeartbeats 4000000
namespace QX
open PySem PySem.Spec PyProof.Rows L2
/-! ### such an error as a value: made, asked for its class, read -/
section
variable {X : Cx} {pins : List (Addr × Obj)} {σ : L2.St} {H : Hp} {s : Shared} {a C D u : Addr} {Q : VK}
/-- an error that is held -/
def Held (H : Hp) (a C : Addr) : Prop := H a = some (exo a C none) ∨ ∃ dx fs, H a = some (exo a C (some dx)) ∧ H dx = some (exd dx fs)
theorem held_at (I : Inv X pins σ H s) (h : Held H a C) : ∃ ox od, PySem.W.InstAt s.heap a ox C od := by
  rcases h with h | ⟨dx, fs, h, hd⟩
  · obtain ⟨t1, e⟩ := exo_at I.hok h
    exact ⟨_, none, e, rfl, rfl, trivial⟩
  · obtain ⟨t1, e⟩ := exo_at I.hok h
    obtain ⟨mA, hns, _⟩ := exd_at I.hok hd
    obtain ⟨od, es, ep, ho, _⟩ := hns
    exact ⟨_, some od, e, rfl, rfl, ho⟩
theorem run_exo {CX : CXT} {fI : Addr} {k : Nat} {fd : FuncData} {ps : List Str} {sp : Sp} {vs : List V} {us : List Value} (T : OexC X.K C) (iC : PySem.W.findIn X.K (.ref C) "__init__" = some (some (.ref fI))) (tI : PySem.W.typeIn X.K (.ref fI) = some (.type "function"))
    (F1 : FnOk X.prog X.w X.K X.mg X.base CX k fI fd ps sp) (hr : Room (k + 1) X.A) (hb : Binds X.K fd ps []) (hx : Passes CX X (fun _ _ _ => False)) (I1 : Inv X pins σ H s) (r1 : Vals vs us) (hz : vs.length ≤ 1000)
    (q1 : ∀ a, H a = none → sp (.ref a :: vs) (upd H a (exo a C none)) (fun v H2 => v = .non ∧ Q (.ref a) H2) fun _ _ _ => False) :
    wpAny (model X.prog X.w) X.A (call (.ref C) us) (fun u s' => ∃ v H', Inv X pins σ H' s' ∧ RelV v u ∧ Q v H') X.xe s := by
  obtain ⟨nm, q, N, bs, bm, sn, sub, ab, col, dd, k0, k1, k2, k3, k5, hC, hbm⟩ := T.cls
  obtain ⟨hp, g, dr, tk, os⟩ := s
  have hn : H (hp.objs.size + 1) = none := I1.hok.fresh (Nat.le_succ _)
  have hq := q1 (hp.objs.size + 1) hn
  have kk : ∀ b o, hp.get? b = some o → ((hp.push (PySem.W.kdv_tup us)).push (PySem.HandSPX.excO C hp.objs.size)).get? b = some o := fun b o e => Heap.get?_push_of_some _ (Heap.get?_push_of_some _ e)
  have hget : ((hp.push (PySem.W.kdv_tup us)).push (PySem.HandSPX.excO C hp.objs.size)).get? (hp.objs.size + 1) = some (PySem.HandSPX.excO C hp.objs.size) := by heap_get
  have I2 : Inv X pins σ (upd H (hp.objs.size + 1) (exo (hp.objs.size + 1) C none)) ⟨(hp.push (PySem.W.kdv_tup us)).push (PySem.HandSPX.excO C hp.objs.size), g, dr, tk, os⟩ :=
    I1.laid (t' := tk) kk (Nat.le_succ _) (exo_ok hget)
  have r2 : Vals (V.ref (hp.objs.size + 1) :: vs) (Value.ref (hp.objs.size + 1) :: us) := .cons rfl r1
  have hl : (Value.ref (hp.objs.size + 1) :: us ++ []).length = ps.length := by
    have e := r2.length
    rw [F1.len _ _ _ _ hq] at e
    rw [List.append_nil]
    exact e.symm
  have hus : us.length ≤ sizeLine := by
    rw [← Paired.length r1, sizeLine_eq]
    omega
  have hbb := hb _ (Value.ref (hp.objs.size + 1) :: us) I2.kIn hl
  rw [List.append_nil] at hbb
  refine wpAny_call (PySem.HandSPX.call_own F.excBase_ValueError (fun Y => PySem.HandSPX.refsVE_contains Y bm hbm) (I1.kIn _ _ hC) (PySem.W.looks_findIn I1.kIn iC) (fun self => PySem.W.bind_fn I1.kIn self tI) hus
    (codeAny_mono (F1.run _ X.stack _ _ ⟨Value.ref (hp.objs.size + 1) :: us, []⟩ _ _ _ (fun _ _ _ => False) (hr.make C us []) (I2.env0.make C us []) hbb r2 hq) fun r s' hq' => ?_))
  cases r with
  | error er => exact hx pins σ _ _ er s' I2 hq'
  | ok fl =>
    cases fl with
    | ret u =>
      obtain ⟨v, H2, os2, bare2, un2, hok2, rv, ev, q2⟩ := hq'
      subst ev
      exact ⟨rv, .ref (hp.objs.size + 1), H2, I2.call' (ch := []) os2 un2 hok2 bare2 (fun b z => absurd z (by simp)), rfl, q2⟩
    | next => exact False.elim hq'
    | brk => exact False.elim hq'
    | cont => exact False.elim hq'
end
/-- C(e, ..) as a value -/
def tMkV (C : Addr) (sp : Sp) (ta : TA) : TE := fun σ H Q => ta σ H fun vs H1 => vs.length ≤ 1000 ∧ ∀ a, H1 a = none → sp (.ref a :: vs) (upd H1 a (exo a C none)) (fun v H2 => v = .non ∧ Q (.ref a) H2) fun _ _ _ => False
section
variable {X : Cx} {CX : CXT} {x : Str} {C fI : Addr} {k : Nat} {fd : FuncData} {ps : List Str} {sp : Sp} {e : Expr} {es : List Expr} {ta : TA} {p pos : Pos}
theorem pe_exo (T : OexC X.K C) (iC : PySem.W.findIn X.K (.ref C) "__init__" = some (some (.ref fI))) (tI : PySem.W.typeIn X.K (.ref fI) = some (.type "function"))
    (F1 : FnOk X.prog X.w X.K X.mg X.base CX k fI fd ps sp) (hr : Room (k + 1) X.A) (hb : Binds X.K fd ps []) (hx : Passes CX X (fun _ _ _ => False)) (hg : Gl X x) (hm : X.mg x = some (.ref C)) (ha : PA X (e :: es) ta)
    (hdb : (x == ("__debug__" : Str)) = false := by decide) (he : starEach (e :: es) X.env = (false, eval e X.env) :: starEach es X.env := by rfl) (hpl : (backTo pos (starEach es X.env)).any (·.1) = false := by rfl) :
    PE X (.Call (.Name x p) (e :: es) [] pos) (tMkV C sp ta) := by
  refine ⟨fun pins s σ H Q I h => ?_⟩
  refine wpAny_Call_Name_kw (ld_glob I hg hm ?_ hdb)
  refine PySem.W.callWith_K (h₀ := X.base) I.ok.mod.kin T.kC (thn (ha.run pos pins s σ H _ I h) fun us s1 ⟨vs, H1, I1, r1, hz, q1⟩ => ⟨I1.kIn, ?_⟩) he hpl
  exact run_exo T iC tI F1 hr hb hx I1 r1 hz q1
theorem pe_exo0 (T : OexC X.K C) (iC : PySem.W.findIn X.K (.ref C) "__init__" = some (some (.ref fI))) (tI : PySem.W.typeIn X.K (.ref fI) = some (.type "function"))
    (F1 : FnOk X.prog X.w X.K X.mg X.base CX k fI fd ps sp) (hr : Room (k + 1) X.A) (hb : Binds X.K fd ps []) (hx : Passes CX X (fun _ _ _ => False)) (hg : Gl X x) (hm : X.mg x = some (.ref C))
    (hdb : (x == ("__debug__" : Str)) = false := by decide) : PE X (.Call (.Name x p) [] [] pos) (tMkV C sp tNil) := by
  refine ⟨fun pins s σ H Q I h => ?_⟩
  refine wpAny_Call_Name_kw (ld_glob I hg hm ?_ hdb)
  obtain ⟨hz, q1⟩ := h
  exact PySem.W.callWith_K0 I.kIn T.kC (run_exo T iC tI F1 hr hb hx I .nil hz q1)
/-- what isinstance asks of the class -/
structure IsC (K : PySem.W.Frag) (C : Addr) : Prop where
  cl : (PySem.W.clsIn K C).isSome = true
  ga : PySem.W.findIn K (.ref C) "__getattribute__" = some (some (.builtin "BaseException.__getattribute__"))
  gg : PySem.W.findIn K (.ref C) "__getattr__" = some none
  sb : PySem.W.subIn K (.ref C) (.type "BaseException") = some true
  ca : PySem.W.findIn K (.ref C) "__class__" = some (some (.builtin "object.__class__"))
  cn : PySem.W.specialIn K (.builtin "object.__class__") "__get__" = some (some (.builtin "getset_descriptor.__get__"))
  ct : PySem.W.takesIn K (.builtin "object.__class__") = some true
  mo : PySem.W.mroIn K C (.type "object") = some true
  hd : PySem.W.hasDictIn K C = true
def rIsX (K : PySem.W.Frag) : List V → Hp → VK → Prop := fun xs H Q => ∃ (a C : Addr) (c : V) (t : Value) (b : Bool), xs = [.ref a, c] ∧ Held H a C ∧ IsC K C ∧ ClsV c t ∧ PySem.W.kitOne K (.ref C) t = some b ∧ Q (.bl b) H
theorem call_isX : CallR X (.builtin "isinstance") (rIsX X.K) := by
  intro pins s σ H xs us Q I r h
  obtain ⟨a, C, c, t, b, rfl, hh, T, hc, e, q⟩ := h
  cases r with
  | cons rx rr =>
    cases rr with
    | cons rt rr =>
      cases rr
      cases rx
      have ec := hc.eq rt
      subst ec
      obtain ⟨ox, od, J⟩ := held_at I hh
      exact PySem.W.kia_one (PySem.W.kitx_exc T.cl T.ga T.gg T.sb T.ca T.cn T.ct T.mo) I.kIn J e (fun z => nomatch z) fun tk => ⟨.bl b, H, I.kept (t' := tk) fun _ _ z => z, rfl, q⟩
/-- e.f of such an error -/
def tFx (K : PySem.W.Frag) (f : Str) (te : TE) : TE := fun σ H Q => te σ H fun x H1 => ∃ (a C dx : Addr) (fs : List (Str × V)) (v : V), x = .ref a ∧ IsC K C ∧ PySem.W.findIn K (.ref C) f = some none ∧ H1 a = some (exo a C (some dx)) ∧ H1 dx = some (exd dx fs) ∧ fs.lookup f = some v ∧ Q v H1
theorem pe_fx {o : Expr} {te : TE} {f : Str} (he : PE X o te) (hb : attributeBase o f X.env (eval o X.env) = eval o X.env := by rfl) : PE X (.Attribute o f pos) (tFx X.K f te) := by
  refine ⟨fun pins s σ H Q I h => ?_⟩
  refine attr_of hb (thn (he.run pins s σ H _ I h) fun u s1 hh => ?_)
  obtain ⟨y, H1, I1, ry, a, C, dx, fs, v, ey, T, hno, ha, hd, hl, q⟩ := hh
  subst ey
  obtain rfl : u = Value.ref a := ry
  obtain ⟨t1, ho⟩ := exo_at I1.hok ha
  obtain ⟨mA, hns, rel⟩ := exd_at I1.hok hd
  obtain ⟨od, hod, hlk⟩ := lookIn_ns hns
  obtain ⟨u, hu, ru⟩ := RelO.some_of (v := v) (o := mA f) (by rw [← hl]; exact rel f)
  have J : PySem.W.InstAt s1.heap a _ C (some od) := ⟨ho, rfl, rfl, hod⟩
  exact HandSPX.exc_get I1.kIn J T.ga T.gg T.sb (PySem.W.findObj_own T.hd hno rfl (by rw [hlk, hu])) (handed_of ru) ⟨v, H1, I1.tok _, ru, q⟩
end
/-- an error class of the text, as the top has made it -/
structure Err (P : Program) (K : PySem.W.Frag) (mg : Str → Option Value) (x qual : Str) (st : Stmt) (ps attrs : List Str) where
  C : Addr
  f : Addr
  fd : FuncData
  F : FunS P K "__init__" qual st C f fd
  b : Binds K fd ps []
  S : SupC K C C
  T : IsC K C
  g : mg x = some (.ref C)
  ini : PySem.W.findIn K (.ref C) "__init__" = some (some (.ref f))
  tI : PySem.W.typeIn K (.ref f) = some (.type "function")
  no : ∀ y ∈ attrs, PySem.W.findIn K (.ref C) y = some none
/-- what may be written into its text -/
def Say : V → Prop
  | .str y => y.length ≤ 1000
  | .int i => 0 ≤ i ∧ i < 10 ^ 10
  | _ => False
def spI0 (C : Addr) : Sp := fun vs H Q _ => ∃ a, vs = [.ref a] ∧ H a = some (exo a C none) ∧ Q .non H
def spI1 (C : Addr) (n : Str) : Sp := fun vs H Q _ => ∃ a v, vs = [.ref a, v] ∧ H a = some (exo a C none) ∧ Say v ∧
  ∀ dx H', H dx = none → (∀ b o, b ≠ a → H b = some o → H' b = some o) → H' a = some (exo a C (some dx)) → H' dx = some (exd dx [(n, v)]) → Q .non H'
def spI2 (C : Addr) (n m : Str) : Sp := fun vs H Q _ => ∃ a v u, vs = [.ref a, v, u] ∧ H a = some (exo a C none) ∧ Say v ∧ Say u ∧
  ∀ dx H', H dx = none → (∀ b o, b ≠ a → H b = some o → H' b = some o) → H' a = some (exo a C (some dx)) → H' dx = some (exd dx [(m, u), (n, v)]) → Q .non H'
theorem fin1 {H : Hp} {a dx C : Addr} {fs : List (Str × V)} (nd : H dx = none) (ne : dx ≠ a) {R : Hp → Prop}
    (q : ∀ H', H dx = none → (∀ b o, b ≠ a → H b = some o → H' b = some o) → H' a = some (exo a C (some dx)) → H' dx = some (exd dx fs) → R H') : R (upd (upd H dx (exd dx fs)) a (exo a C (some dx))) :=
  q _ nd (fun b o nb e => by rw [upd_ne nb, upd_ne (ne_of_none e nd)]; exact e) upd_same (by rw [upd_ne ne, upd_same])
theorem fin2 {H : Hp} {a dx C : Addr} {fs gs : List (Str × V)} (nd : H dx = none) (ne : dx ≠ a) {R : Hp → Prop}
    (q : ∀ H', H dx = none → (∀ b o, b ≠ a → H b = some o → H' b = some o) → H' a = some (exo a C (some dx)) → H' dx = some (exd dx gs) → R H') : R (upd (upd (upd H dx (exd dx fs)) a (exo a C (some dx))) dx (exd dx gs)) :=
  q _ nd (fun b o nb e => by rw [upd_ne (ne_of_none e nd), upd_ne nb, upd_ne (ne_of_none e nd)]; exact e) (by rw [upd_ne ne.symm, upd_same]) upd_same
theorem digits {i : Int} (h0 : 0 ≤ i) (h : i < 10 ^ 10) : (PySem.Str.ofString (toString i)).length ≤ 10 := toString_length_le h0 (by decide) h
theorem log_of {i : Int} (h0 : 0 ≤ i) (h : i < 10 ^ 10) : i.natAbs.log2 < 1920 := by
  have h1 : i.natAbs < 2 ^ 40 := by omega
  have := PySem.Flt.log2_lt_of (by decide : 0 < 40) h1
  omega
theorem app_len (x y : Str) : (x ++ y).length = x.length + y.length := by
  show (x.cps ++ y.cps).size = x.cps.size + y.cps.size
  exact Array.size_append
theorem Say.two {v : V} (h : Say v) : (∃ y : Str, v = .str y ∧ y.length ≤ 1000) ∨ ∃ i : Int, v = .int i ∧ i.natAbs.log2 < 1920 ∧ (toString i : Str).length ≤ 10 := by
  cases v with
  | str y => exact .inl ⟨y, rfl, h⟩
  | int i =>
    obtain ⟨h0, h1⟩ : 0 ≤ i ∧ i < 10 ^ 10 := h
    exact .inr ⟨i, rfl, log_of h0 h1, digits h0 h1⟩
  | non => exact h.elim
  | bl _ => exact h.elim
  | byt _ => exact h.elim
  | flt _ => exact h.elim
  | ref _ => exact h.elim
  | ty _ => exact h.elim
theorem big {n : Nat} (h : n ≤ 5000) : n ≤ sizeLine := Nat.le_trans h (by decide)
theorem len_app {x y : Str} {a b : Nat} (hx : x.length ≤ a) (hy : y.length ≤ b) : (x ++ y).length ≤ a + b := by
  rw [app_len]
  omega
/-- what is asked of an error's class, as one test -/
def errB (K : PySem.W.Frag) (C f : Addr) (attrs : List Str) : Bool :=
  decide (PySem.W.findIn K (.ref C) "__setattr__" = some (some (.builtin "object.__setattr__"))) && (decide (PySem.W.subIn K (.ref C) (.type "BaseException") = some true) &&
  (decide (PySem.W.typeIn K (.ref C) = some (.type "type")) && (PySem.W.keepIn K (.ref C) && ((PySem.W.clsIn K C).isSome && (decide (PySem.W.mroIn K C (.ref C) = some true) &&
  (decide (PySem.W.ks_superIn K C C "__init__" = some (some (.builtin "ValueError.__init__"))) && (decide (PySem.W.subIn K (.ref C) (.type "ValueError") = some true) && (decide (PySem.W.nsIn K cStatics "thirdparty.any" = some none) &&
  (decide (PySem.W.findIn K (.ref C) "__getattribute__" = some (some (.builtin "BaseException.__getattribute__"))) && (decide (PySem.W.findIn K (.ref C) "__getattr__" = some none) &&
  (decide (PySem.W.findIn K (.ref C) "__class__" = some (some (.builtin "object.__class__"))) && (decide (PySem.W.specialIn K (.builtin "object.__class__") "__get__" = some (some (.builtin "getset_descriptor.__get__"))) &&
  (decide (PySem.W.takesIn K (.builtin "object.__class__") = some true) && (decide (PySem.W.mroIn K C (.type "object") = some true) && (PySem.W.hasDictIn K C &&
  (decide (PySem.W.typeIn K (.ref f) = some (.type "function")) && attrs.all fun y => decide (PySem.W.findIn K (.ref C) y = some none)))))))))))))))))
theorem err_of {P : Program} {K : PySem.W.Frag} {mg : Str → Option Value} {x qual : Str} {st : Stmt} {ps attrs : List Str} {C f : Addr} {fd : FuncData} (F : FunS P K "__init__" qual st C f fd) (b : Binds K fd ps []) (g : mg x = some (.ref C))
    (cls : ∃ nm q N bs bm sn sub ab col dd k0 k1 k2 k3 k5, K.lookup C = some (excClassObj nm q C N bs bm true sn sub ab col dd k0 k1 k2 k3 k5 "ValueError.__new__") ∧ PySem.HandSPX.refsVE bm = true)
    (ini : PySem.W.findIn K (.ref C) "__init__" = some (some (.ref f))) (h : errB K C f attrs = true) : Nonempty { E : Err P K mg x qual st ps attrs // E.C = C } := by
  unfold errB at h
  simp only [Bool.and_eq_true, decide_eq_true_eq, List.all_eq_true] at h
  obtain ⟨h1, h2, h3, h4, h5, h6, h7, h8, h9, h10, h11, h12, h13, h14, h15, h16, h17, h18⟩ := h
  exact ⟨⟨⟨C, f, fd, F, b, ⟨⟨cls, h1, h2, h3, h4⟩, Option.isSome_iff_exists.mp h5, h6, h7, h8, h9⟩, ⟨h5, h10, h11, h2, h12, h13, h14, h15, h16⟩, g, ini, h17, h18⟩, rfl⟩⟩
/-- isinstance between errors of the text: each is of its own class alone, of the class q and a ValueError -/
def isB (K : PySem.W.Frag) (q : Addr) (cs : List Addr) : Bool := (List.range cs.length).all fun i => decide (PySem.W.kitOne K (.ref (cs.getD i 0)) (.type "ValueError") = some true) && (decide (PySem.W.kitOne K (.ref (cs.getD i 0)) (.ref q) = some true) &&
  (List.range cs.length).all fun j => decide (PySem.W.kitOne K (.ref (cs.getD i 0)) (.ref (cs.getD j 0)) = some (decide (i = j))))
theorem isB_of {K : PySem.W.Frag} {q : Addr} {cs : List Addr} (h : isB K q cs = true) {i : Nat} (hi : i < cs.length) : PySem.W.kitOne K (.ref (cs.getD i 0)) (.type "ValueError") = some true ∧ PySem.W.kitOne K (.ref (cs.getD i 0)) (.ref q) = some true ∧
    ∀ j, j < cs.length → PySem.W.kitOne K (.ref (cs.getD i 0)) (.ref (cs.getD j 0)) = some (decide (i = j)) := by
  unfold isB at h
  rw [List.all_eq_true] at h
  have h1 := h i (List.mem_range.mpr hi)
  simp only [Bool.and_eq_true, decide_eq_true_eq, List.all_eq_true] at h1
  exact ⟨h1.1, h1.2.1, fun j hj => h1.2.2 j (List.mem_range.mpr hj)⟩
end QX

set_option Elab.async false
set_option linter.all false
set_option maxRecDepth 100000
set_option maxHeartbeats 4000000
/-! An own error raised, caught, and its field read in the suite. -/
namespace QX
open PySem PySem.Spec PyProof.Rows L2
theorem Err.xf {P : Program} {K : PySem.W.Frag} {mg : Str → Option Value} {x qual : Str} {st : Stmt} {ps attrs : List Str} (R : Err P K mg x qual st ps attrs) : XfC K R.C := ⟨R.T.ga, R.T.gg, R.T.sb, R.T.hd⟩
/-- a callee that may raise, where it is shown that it doesn't -/
theorem passF {X : Cx} : Passes (L2.CX X.prog X.w) X (fun _ _ _ => False) := fun _ _ _ _ _ _ _ c => by
  obtain ⟨_, _, _, _, _, _, _, _, _, _, _, _, z⟩ := c
  exact z.elim
/-- a callee that may raise, in a def that lets it out -/
theorem passE {X : Cx} {E : XK} {E₁ : Value → Shared → Prop} (hs : X.stack = X.env :: X.outer := by rfl) (hf : X.env.frame = some X.env.locals := by rfl) (hex : X.ex = [] := by rfl)
    (hx : X.xe = (fun e s' => wpAny (model X.prog X.w) X.A (leaving X.env e) (fun _ s'' => CX X.prog X.w X.outer X.H_0 X.s_0 E e s'') E₁ s') := by rfl) : Passes (L2.CX X.prog X.w) X E :=
  passes_call (takes_of hs hf hex hx) fun _ _ _ _ h => h
/-- what raise X(v) asks, v its one part -/
theorem mkO1_of {C : Addr} {n : Str} {v : V} {H1 : Hp} {Q : XK} (sv : Say v) (q : ∀ d G, H1 d = none → (∀ b o, H1 b = some o → G b = some o) → G d = some (.xd [(n, v)]) → Q (.ref C) (some d) G) :
    ([v] : List V).length ≤ 1000 ∧ ∀ a, H1 a = none → spI1 C n (.ref a :: ([v] ++ [])) (upd H1 a (exo a C none)) (fun x H2 => x = .non ∧ ∃ (d : Addr) (fs : List (Str × V)), H2 a = some (exo a C (some d)) ∧ H2 d = some (exd d fs) ∧ H1 d = none ∧ Q (.ref C) (some d) (upd (del H2 a) d (.xd fs))) fun _ _ _ => False := by
  refine ⟨by show 1 ≤ 1000; decide, fun a na => ⟨a, v, rfl, upd_same, sv, fun dx H' nd kp ha hd => ⟨rfl, dx, _, ha, hd, ?_, ?_⟩⟩⟩
  · by_cases e : dx = a
    · rw [e, upd_same] at nd
      cases nd
    · rwa [upd_ne e] at nd
  · have n1 : H1 dx = none := by
      by_cases e : dx = a
      · rw [e, upd_same] at nd
        cases nd
      · rwa [upd_ne e] at nd
    refine q dx _ n1 (fun b o hb => ?_) upd_same
    rw [upd_ne (ne_of_none hb n1), del_ne (ne_of_none hb na)]
    exact kp b o (ne_of_none hb na) (by rw [upd_ne (ne_of_none hb na)]; exact hb)
/-- what raise X(v, u) asks -/
theorem mkO2_of {C : Addr} {n m : Str} {v u : V} {H1 : Hp} {Q : XK} (sv : Say v) (su : Say u) (q : ∀ d G, H1 d = none → (∀ b o, H1 b = some o → G b = some o) → G d = some (.xd [(m, u), (n, v)]) → Q (.ref C) (some d) G) :
    ([v, u] : List V).length ≤ 1000 ∧ ∀ a, H1 a = none → spI2 C n m (.ref a :: ([v, u] ++ [])) (upd H1 a (exo a C none)) (fun x H2 => x = .non ∧ ∃ (d : Addr) (fs : List (Str × V)), H2 a = some (exo a C (some d)) ∧ H2 d = some (exd d fs) ∧ H1 d = none ∧ Q (.ref C) (some d) (upd (del H2 a) d (.xd fs))) fun _ _ _ => False := by
  refine ⟨by show 2 ≤ 1000; decide, fun a na => ⟨a, v, u, rfl, upd_same, sv, su, fun dx H' nd kp ha hd => ⟨rfl, dx, _, ha, hd, ?_, ?_⟩⟩⟩
  · by_cases e : dx = a
    · rw [e, upd_same] at nd
      cases nd
    · rwa [upd_ne e] at nd
  · have n1 : H1 dx = none := by
      by_cases e : dx = a
      · rw [e, upd_same] at nd
        cases nd
      · rwa [upd_ne e] at nd
    refine q dx _ n1 (fun b o hb => ?_) upd_same
    rw [upd_ne (ne_of_none hb n1), del_ne (ne_of_none hb na)]
    exact kp b o (ne_of_none hb na) (by rw [upd_ne (ne_of_none hb na)]; exact hb)
end QX

set_option Elab.async false
set_option linter.all false
set_option maxRecDepth 100000
/-! isinstance(e, C) in the suite of an except, e the error that was caught, with its dict -/
namespace QX
open PySem PySem.Spec PyProof.Rows L2
/-- a: the caught error, cls: its class, d: its dict -/
def rIsCaught (K : PySem.W.Frag) (a : Addr) (cls : Value) (d : Option Addr) : List V → Hp → VK → Prop := fun xs H Q => ∃ (C dd : Addr) (fs : List (Str × V)) (c : V) (t : Value) (b : Bool),
  xs = [.ref a, c] ∧ cls = .ref C ∧ d = some dd ∧ H dd = some (.xd fs) ∧ IsC K C ∧ ClsV c t ∧ PySem.W.kitOne K (.ref C) t = some b ∧ Q (.bl b) H
theorem call_isCaught {X : Cx} {a : Addr} {oe : Obj} {cls : Value} {d : Option Addr} {pn : List (Addr × Obj)} (hz : Zc cls d oe) (hf : ∃ vs, oe.data = .fields vs) : CallR (X.suite a ((a, oe) :: pn)) (.builtin "isinstance") (rIsCaught X.K a cls d) := by
  intro pins s σ H xs us Q I r h
  obtain ⟨C, dd, fs, c, t, b, rfl, rfl, rfl, ea, T, hc, e, q⟩ := h
  match us, r with
  | [_, _], .cons rx (.cons rt .nil) =>
    cases rx
    obtain rfl := hc.eq rt
    obtain ⟨ha, _⟩ := I.pin (a, oe) (List.mem_append_left _ (List.mem_cons.mpr (.inl rfl)))
    obtain ⟨vs, hd⟩ := hf
    obtain ⟨mA, hns, _⟩ : ObjOk X.prog X.w H s.heap dd (.xd fs) := I.hok dd _ ea
    obtain ⟨od, ho, _⟩ := lookIn_ns hns
    have J : PySem.W.InstAt s.heap a oe C (some od) := ⟨ha, hz.1, (by unfold PySem.W.notCls; rw [hd] <;> rfl), (by rw [hz.2]; exact ho)⟩
    exact PySem.W.kia_one (PySem.W.kitx_exc T.cl T.ga T.gg T.sb T.ca T.cn T.ct T.mo) I.kIn J e (fun z => nomatch z) fun tk => ⟨.bl b, H, I.kept (t' := tk) (fun _ _ z => z), rfl, q⟩
end QX

set_option Elab.async false
set_option linter.all false
set_option maxRecDepth 100000
/-! a dict of the module's top with text keys: d.get(k, x), d[k], k in d -/
namespace KDx
open PySem PySem.Spec PyProof.Rows L2
section
variable {X : Cx} {o e f : Expr} {apos cpos : Pos} {td ty tx : TE}
def tKGet2 (K : PySem.W.Frag) (w : World) (td ty tx : TE) : TE := fun σ H Q => td σ H fun x H1 => ∃ d es n, x = .ref d ∧ KDict K w d es n ∧ ty σ H1 fun y H2 => tx σ H2 fun z H3 => ∃ (q : Str) (r : Option Value), y = .str q ∧ PySem.W.nsIn K d q = some r ∧
  (r = none → Q z H3) ∧ (∀ u, r = some u → ∃ v, RelV v u ∧ Q v H3)
theorem pe_kget2 (ho : PE X o td) (he : PE X e ty) (hf : PE X f tx) (m : M2 X o "get" apos e f cpos := by exact ⟨rfl, rfl, rfl, rfl⟩) : PE X (.Call (.Attribute o "get" apos) [e, f] [] cpos) (tKGet2 X.K X.w td ty tx) := by
  refine ⟨fun pins s σ H Q I h => ?_⟩
  refine wpAny_Call_method m.base m.few m.line PySem.F.plainAttrs_dict PySem.F.slot_dict_get PySem.F.type_dict_get (thn (ho.run pins s σ H _ I h) fun u s1 ⟨x, H1, I1, rx, d, es, n, ex, D, q1⟩ => ?_)
  subst ex
  obtain rfl : u = Value.ref d := rx
  have hm1 := PySem.W.mapOf_K (prog := X.prog) (w := X.w) I1.kIn D.at_ D.lit
  refine ⟨hm1.typeIs, fun b e => by cases e; exact ⟨_, I1.kIn _ _ D.at_, rfl⟩, ?_⟩
  rw [m.trees]
  refine Calls.callWith_builtin rfl (Calls.evalArgs_plain (Calls.spliced_cons (thn (he.run pins s1 σ H1 _ I1 q1) fun iv s2 ⟨y, H2, I2, ry, q2⟩ =>
    Calls.spliced_cons (thn (hf.run pins s2 σ H2 _ I2 q2) fun fv s3 ⟨z, H3, I3, rz, q, r, ey, er, qn, qs⟩ => Calls.spliced_nil ?_))))
  subst ey
  obtain ⟨t, rfl⟩ := ry
  have hm := PySem.W.mapOf_K (prog := X.prog) (w := X.w) I3.kIn D.at_ D.lit
  refine call_meetsIn PySem.F.slot_dict_get hm.typeIs PySem.F.entry_dict_get (PySem.F.args_dict_get_3 _ _ _) (meets_dict_get_default (strKind X.prog X.w) d (strKind_is X.prog X.w q t) D.low fv) ⟨_, hm, ?_⟩
  rw [PySem.W.find_K D.at_ er]
  cases r with
  | none => exact ⟨z, H3, I3.tok _, rz, qn rfl⟩
  | some u =>
    obtain ⟨v, rv, qv⟩ := qs u rfl
    exact ⟨v, H3, I3.tok _, rv, qv⟩
end
/-- what d.get(x, dflt) gives for each x of the list -/
def getB (K : PySem.W.Frag) (a : Addr) (dflt : Int) (l : List (Str × Int)) : Bool := l.all fun q => match PySem.W.nsIn K a q.1 with
  | some none => q.2 == dflt
  | some (some (.int i _)) => i == q.2
  | _ => false
theorem getB_ok {K : PySem.W.Frag} {a : Addr} {dflt : Int} {l : List (Str × Int)} (h : getB K a dflt l = true) {x : Str} {v : Int} (hx : (x, v) ∈ l) : ∃ r, PySem.W.nsIn K a x = some r ∧ (r = none → v = dflt) ∧ (∀ u, r = some u → RelV (.int v) u) := by
  have q := List.all_eq_true.mp h _ hx
  dsimp only at q
  split at q
  · rename_i e
    exact ⟨none, e, fun _ => by simpa using q, fun u z => by cases z⟩
  · rename_i i t e
    refine ⟨_, e, fun z => (by cases z), fun u z => ?_⟩
    cases z
    have : i = v := by simpa using q
    subst this
    exact ⟨t, rfl⟩
  · cases q
/-- the values of a dict of texts -/
def strB (K : PySem.W.Frag) (a : Addr) (l : List (Str × Str)) : Bool := l.all fun q => match PySem.W.nsIn K a q.1 with
  | some (some (.str z _)) => decide (z = q.2)
  | _ => false
theorem strB_ok {K : PySem.W.Frag} {a : Addr} {l : List (Str × Str)} (h : strB K a l = true) {x z : Str} (hx : (x, z) ∈ l) : ∃ u, PySem.W.nsIn K a x = some (some u) ∧ RelV (.str z) u := by
  have q := List.all_eq_true.mp h _ hx
  dsimp only at q
  split at q
  · rename_i y t e
    have : y = z := by simpa using q
    subst this
    exact ⟨_, e, t, rfl⟩
  · cases q
/-- a tuple of texts of the module's top -/
def strOf : Value → Option Str
  | .str z _ => some z
  | _ => none
def tupB (K : PySem.W.Frag) (a : Addr) (l : List Str) : Bool := match K.lookup a with
  | some ⟨.type "tuple", _, .seq its _, _⟩ => decide (its.toList.map strOf = l.map some)
  | _ => false
theorem vals_strs : ∀ {us : List Value} {l : List Str}, us.map strOf = l.map some → Vals (l.map V.str) us
  | [], [], _ => .nil
  | [], _ :: _, h => by cases h
  | _ :: _, [], h => by cases h
  | u :: us, z :: l, h => by
    have h1 : strOf u :: us.map strOf = some z :: l.map some := h
    injection h1 with h2 h3
    refine .cons ?_ (vals_strs h3)
    cases u <;> simp only [strOf] at h2 <;> cases h2
    exact ⟨_, rfl⟩
theorem tupB_ok {K : PySem.W.Frag} {H : Hp} {a : Addr} {l : List Str} (h : tupB K a l = true) (hl : l.length ≤ 1000) : SqT K H a (l.map V.str) := by
  unfold tupB at h
  split at h
  · rename_i dd its n sl hk
    have e := of_decide_eq_true h
    have e2 := congrArg List.length e
    rw [List.length_map, List.length_map] at e2
    refine .inr ⟨_, its, n, hk, rfl, rfl, ?_, vals_strs e⟩
    have : its.size = its.toList.length := by simp
    rw [this, e2, sizeLine_eq]
    omega
  · cases h
def cycles25 : List (Str × Int) := [("set", 1), ("move", 1), ("add", 1), ("addc", 1), ("sub", 1), ("subc", 1), ("and", 1), ("or", 1), ("xor", 1), ("less", 1), ("down", 1), ("up", 1), ("carry", 1), ("clear", 1), ("load", 1), ("store", 1), ("below", 1), ("halt", 1),
  ("downby", 2), ("jump", 2), ("call", 2), ("ret", 2), ("div", 2), ("mul", 4), ("high", 4)]
end KDx

set_option Elab.async false
set_option linter.all false
set_option maxRecDepth 100000
/-! the texts of instructions' forms -/
namespace KDx
open PySem PySem.Spec PyProof.Rows L2
/-- none of these is a key -/
def noneB (K : PySem.W.Frag) (a : Addr) (l : List Str) : Bool := l.all fun x => match PySem.W.nsIn K a x with
  | some none => true
  | _ => false
theorem noneB_ok {K : PySem.W.Frag} {a : Addr} {l : List Str} (h : noneB K a l = true) {x : Str} (hx : x ∈ l) : PySem.W.nsIn K a x = some none := by
  have q := List.all_eq_true.mp h x hx
  split at q
  · assumption
  · cases q
def rrr12 : List Str := ["add", "addc", "sub", "subc", "mul", "high", "div", "and", "or", "xor", "less", "downby"]
def forms25 : List (Str × Str) := ([("set", "rn"), ("move", "rr")] : List (Str × Str)) ++ rrr12.map (fun x => (x, ("rrr" : Str))) ++ ([("down", "rrk"), ("up", "rrk"), ("carry", "r"), ("clear", ""), ("load", "rrd"), ("store", "rrd"), ("jump", "p"), ("below", "rnp"), ("call", "p"), ("ret", ""), ("halt", "")] : List (Str × Str))
def tops5 : List (Str × Int) := [("r", 15), ("n", 65535), ("k", 15), ("d", 4095), ("p", 19999)]
def odd8 : List Str := ["", "0", "SET", "set ", "sets", "region", "carr", "below1"]
end KDx

set_option Elab.async false
set_option linter.all false
set_option maxRecDepth 100000
set_option maxHeartbeats 400000
/-! zip(a, b), where each of a and b is a text, a tuple or a list. -/
namespace ZG
open PySem PySem.Spec PyProof.Rows L2

/-- what a zip goes over -/
inductive Src where
  | txt (x : Str) | tup (a : Addr) | lst (a : Addr)
def Src.v : Src → V
  | .txt x => .str x | .tup a => .ref a | .lst a => .ref a
/-- it stands, with these items -/
def Src.has (K : PySem.W.Frag) (H : Hp) : Src → List V → Prop
  | .txt x, ys => ys = x.cps.toList.map fun c => .str ⟨#[c]⟩
  | .tup a, ys => SqT K H a ys
  | .lst a, ys => SqL K H a ys
def Src.cells : Src → List Addr
  | .txt _ => [] | .tup a => [a] | .lst a => [a]
def Src.itAt : Src → Addr → Nat → Heap → Prop
  | .txt x, it, i, h => ∃ t, h.IsStrIter it (strIterType x) x t i
  | .tup a, it, i, h => h.IsTupleIter it a i
  | .lst a, it, i, h => h.IsListIter it a i
theorem Src.itAt_obj {S : Src} {it : Addr} {i : Nat} {h : Heap} (st : S.itAt it i h) : ∃ o, h.get? it = some o ∧ ∀ v, o.data ≠ .cell v := by
  cases S with
  | txt x => obtain ⟨t, o, ho, _, hd⟩ := st; exact ⟨o, ho, fun v q => by rw [hd] at q; cases q⟩
  | tup a => obtain ⟨o, ho, _, hd⟩ := st; exact ⟨o, ho, fun v q => by rw [hd] at q; cases q⟩
  | lst a => obtain ⟨o, ho, _, hd⟩ := st; exact ⟨o, ho, fun v q => by rw [hd] at q; cases q⟩
theorem Src.itAt_keep {S : Src} {it : Addr} {i : Nat} {h h' : Heap} (st : S.itAt it i h) (k : ∀ o, h.get? it = some o → h'.get? it = some o) : S.itAt it i h' := by
  cases S with
  | txt x => obtain ⟨t, o, ho, r⟩ := st; exact ⟨t, o, k o ho, r⟩
  | tup a => obtain ⟨o, ho, r⟩ := st; exact ⟨o, k o ho, r⟩
  | lst a => obtain ⟨o, ho, r⟩ := st; exact ⟨o, k o ho, r⟩
theorem Src.inj {X : Cx} {pins : List (Addr × Obj)} {σ : L2.St} {H : Hp} {s : Shared} (I : Inv X pins σ H s) {S : Src} {xs ys : List V} (h1 : S.has X.K H xs) (h2 : S.has X.K H ys) : xs = ys := by
  cases S with
  | txt x => exact h1.trans h2.symm
  | tup a => exact I.tuple_inj h1 h2
  | lst a => exact I.list_inj h1 h2

theorem Src.draws {X : Cx} {pins : List (Addr × Obj)} {σ : L2.St} {H : Hp} {s : Shared} (I : Inv X pins σ H s) (hh : X.A.in1.handled = none) {S : Src} {it : Addr} {i : Nat} {xs : List V} (hs : S.has X.K H xs) (st : S.itAt it i s.heap) (hne : ∀ c ∈ S.cells, c ≠ it) :
    ∃ (P : Nat → Value → Prop) (St : Nat → Heap → Prop), Draws X.prog X.w X.A.in1 it (it :: S.cells) xs.length P St ∧ St i s.heap ∧ (∀ j v, P j v → ∃ x, xs[j]? = some x ∧ RelV x v) ∧ ∀ j h, St j h → S.itAt it j h := by
  cases S with
  | txt x =>
    obtain ⟨t, st⟩ := st
    have hs : xs = x.cps.toList.map fun c => V.str ⟨#[c]⟩ := hs
    have hl : xs.length = x.cps.size := by rw [hs]; simp
    rw [hl]
    refine ⟨_, _, Draws.text hh it x t, st, fun j v hv => ?_, fun j h q => ⟨t, q⟩⟩
    obtain ⟨c, u, hc, rfl⟩ := hv
    refine ⟨.str ⟨#[c]⟩, ?_, u, rfl⟩
    rw [hs, List.getElem?_map, Array.getElem?_toList, hc]; rfl
  | tup a =>
    obtain ⟨its, rv, p, _⟩ := I.tuple (show SqT X.K H a xs from hs)
    have hl : xs.length = its.toArray.size := by rw [rv.length]; simp
    rw [hl]
    refine ⟨_, _, Draws.tuple hh it a (hne a (List.mem_cons_self ..)) its.toArray, ⟨st, p⟩, fun j v hv => ?_, fun j h q => q.1⟩
    have hv : its[j]? = some v := by simpa using hv
    have hj : j < xs.length := by
      rw [rv.length]
      rcases Nat.lt_or_ge j its.length with z | z
      · exact z
      · rw [List.getElem?_eq_none z] at hv; cases hv
    obtain ⟨u, hu, ru⟩ := rv.get (List.getElem?_eq_getElem hj)
    rw [hv] at hu
    cases hu
    exact ⟨_, List.getElem?_eq_getElem hj, ru⟩
  | lst a =>
    obtain ⟨its, rv, p, _⟩ := I.list (show SqL X.K H a xs from hs)
    have hl : xs.length = its.toArray.size := by rw [rv.length]; simp
    rw [hl]
    refine ⟨_, _, Draws.list hh it a (hne a (List.mem_cons_self ..)) its.toArray, ⟨st, p.isList⟩, fun j v hv => ?_, fun j h q => q.1⟩
    have hv : its[j]? = some v := by simpa using hv
    have hj : j < xs.length := by
      rw [rv.length]
      rcases Nat.lt_or_ge j its.length with z | z
      · exact z
      · rw [List.getElem?_eq_none z] at hv; cases hv
    obtain ⟨u, hu, ru⟩ := rv.get (List.getElem?_eq_getElem hj)
    rw [hv] at hu
    cases hu
    exact ⟨_, List.getElem?_eq_getElem hj, ru⟩

/-- both as they stand at each turn; the items in a new pair -/
def ItG (K : PySem.W.Frag) (S1 S2 : Src) : It where
  go i H := ∃ xs ys, S1.has K H xs ∧ S2.has K H ys ∧ i < xs.length ∧ i < ys.length
  yld i H v H' := ∃ T x y, v = .ref T ∧ H T = none ∧ H' = upd H T (.tup [x, y]) ∧ (∀ xs, S1.has K H xs → xs[i]? = some x) ∧ ∀ ys, S2.has K H ys → ys[i]? = some y
  stop i H := ∃ xs ys, S1.has K H xs ∧ S2.has K H ys ∧ i = min xs.length ys.length
structure Apart (z TI TO i1 i2 : Addr) (S1 S2 : Src) : Prop where
  sep : ZipSep2 z TI TO i1 i2 (i1 :: S1.cells) (i2 :: S2.cells)
  n1 : ∀ c ∈ S1.cells, c ≠ i1
  n2 : ∀ c ∈ S2.cells, c ≠ i2

theorem turnG {P : Program} {w : World} {K : PySem.W.Frag} {elts : List Expr} {kk : Nat} {tpos : Pos} {S1 S2 : Src} {z TI TO i1 i2 : Addr} (D : Apart z TI TO i1 i2 S1 S2) :
    Turn P w K (.Tuple elts kk tpos) (ItG K S1 S2) [z, TI, TO, i1, i2] z (fun i h => (IsZip h z TI TO .none ∧ IsTupOf2 h TI (.ref i1) (.ref i2) ∧ ∃ x y, IsTupOf2 h TO x y) ∧ S1.itAt i1 i h ∧ S2.itAt i2 i h) where
  mem := by simp
  obj := by
    rintro i h ⟨⟨hz, hI, x, y, hO⟩, h1, h2⟩ c hc
    simp only [List.mem_cons, List.not_mem_nil, or_false] at hc
    rcases hc with rfl | rfl | rfl | rfl | rfl
    · exact ⟨_, hz, nofun⟩
    · exact ⟨_, hI, nofun⟩
    · exact ⟨_, hO, nofun⟩
    · exact Src.itAt_obj h1
    · exact Src.itAt_obj h2
  keep := by
    rintro i h h' ⟨⟨hz, hI, x, y, hO⟩, h1, h2⟩ k
    exact ⟨⟨k z (by simp) _ hz, k TI (by simp) _ hI, x, y, k TO (by simp) _ hO⟩, Src.itAt_keep h1 (k i1 (by simp)), Src.itAt_keep h2 (k i2 (by simp))⟩
  item := by
    intro X hP hw hK hc i pins s σ H E I hf ⟨⟨hz, hI, x0, y0, hO⟩, h1, h2⟩ ⟨xs, ys, q1, q2, l1, l2⟩
    subst hP hw hK
    have hh : X.A.in1.handled = none := I.ok.hd hc
    obtain ⟨P1, St1, D1, st1, e1, k1⟩ := Src.draws I hh q1 h1 D.n1
    obtain ⟨P2, St2, D2, st2, e2, k2⟩ := Src.draws I hh q2 h2 D.n2
    have lz : z < s.heap.objs.size := Heap.lt_size hz
    refine wpAny_pyNext_zipD2_item D.sep D1 D2 hz hI hO st1 st2 l1 l2 fun u1 u2 h' tk p1 p2 z' o' n1 n2 hT hsz hk => ?_
    obtain ⟨x, hx, rx⟩ := e1 i u1 p1
    obtain ⟨y, hy, ry⟩ := e2 i u2 p2
    refine ⟨_, rfl, wpAny_letOwnedTupleGo_zip (s := { s with heap := h', toks := tk }) z' fun h'' z'' sb => ?_⟩
    have hT2 := (sb.2 _ (Nat.ne_of_gt lz)).trans hT
    have new : ObjOk X.prog X.w (upd H s.heap.objs.size (.tup [x, y])) h'' s.heap.objs.size (.tup [x, y]) :=
      ⟨by show 2 ≤ sizeLine; decide, [u1, u2], .cons rx (.cons ry .nil), _, hT2, rfl, _, rfl⟩
    have all : ∀ c o, c ∉ [z, TI, TO, i1, i2] → s.heap.get? c = some o → h''.get? c = some o := fun c o hb q => by
      simp only [List.mem_cons, List.not_mem_nil, or_false, not_or] at hb
      exact (sb.2 c hb.1).trans (hk c o hb.1 hb.2.2.1 hb.2.2.2.1 hb.2.2.2.2 q)
    have I1 : Inv X pins σ (upd H s.heap.objs.size (.tup [x, y])) { s with heap := h'', toks := tk } := I.turnedNew all hf (Nat.le_refl _) new
    have lt : ∀ {c o}, s.heap.get? c = some o → c < s.heap.objs.size := fun e => Heap.lt_size e
    obtain ⟨oa, ha, _⟩ := Src.itAt_obj h1
    obtain ⟨ob, hb, _⟩ := Src.itAt_obj h2
    refine ⟨.ref s.heap.objs.size, _, I1, rfl, ⟨_, x, y, rfl, I.hok.fresh (Nat.le_refl _), rfl, fun l hl => by rw [Src.inj I hl q1]; exact hx, fun l hl => by rw [Src.inj I hl q2]; exact hy⟩, ⟨⟨z'', ?_, u1, u2, ?_⟩, ?_, ?_⟩, fun c hcm => ?_⟩
    · exact (sb.2 _ D.sep.TIz).trans (hk _ _ D.sep.TIz D.sep.TITO D.sep.TIi1 D.sep.TIi2 hI)
    · exact (sb.2 _ D.sep.TOz).trans o'
    · exact Src.itAt_keep (k1 _ _ n1) fun o e => (sb.2 _ (Ne.symm D.sep.zi1)).trans e
    · exact Src.itAt_keep (k2 _ _ n2) fun o e => (sb.2 _ (Ne.symm D.sep.zi2)).trans e
    · have hlt : c < s.heap.objs.size := by
        simp only [List.mem_cons, List.not_mem_nil, or_false] at hcm
        rcases hcm with rfl | rfl | rfl | rfl | rfl
        · exact lz
        · exact lt hI
        · exact lt hO
        · exact lt ha
        · exact lt hb
      rw [upd_ne (Nat.ne_of_lt hlt)]
      exact (hf c hcm).1
  done := by
    intro X hP hw hK hc i pins s σ H E I hf ⟨⟨hz, hI, x0, y0, hO⟩, h1, h2⟩ ⟨xs, ys, q1, q2, hend⟩
    subst hP hw hK
    have hh : X.A.in1.handled = none := I.ok.hd hc
    obtain ⟨P1, St1, D1, st1, e1, k1⟩ := Src.draws I hh q1 h1 D.n1
    obtain ⟨P2, St2, D2, st2, e2, k2⟩ := Src.draws I hh q2 h2 D.n2
    refine wpAny_pyNext_zipD2_end D.sep D1 D2 hz hI hO st1 st2 (by omega) (by omega) (by omega) fun h' tk hk => ⟨rfl, I.turnedL (ch := [z, TI, TO, i1, i2]) (fun c o hb q => ?_) hf⟩
    simp only [List.mem_cons, List.not_mem_nil, or_false, not_or] at hb
    exact hk c o hb.1 hb.2.2.1 hb.2.2.2.1 hb.2.2.2.2 q
  self := fun A i s Q E st h => wpAny_pyIter_zip st.1.1 h

/-- the object of its iterator, at the start -/
def Src.o1 (S : Src) (u : Value) : Obj :=
  match S with
  | .txt x => { cls := .type (strIterType x), data := .fields #[u, .int 0 0] }
  | .tup _ => { cls := .type "tuple_iterator", data := .fields #[u, .int 0 0] }
  | .lst _ => { cls := .type "list_iterator", data := .fields #[u, .int 0 0] }
theorem Src.begins {X : Cx} {pins : List (Addr × Obj)} {σ : L2.St} {H : Hp} {s : Shared} (I : Inv X pins σ H s) {S : Src} {xs : List V} (hs : S.has X.K H xs) {u : Value} (hu : RelV S.v u) :
    ∃ G : Heap → Prop, Begins u (S.o1 u) G ∧ G s.heap ∧ (∀ h it, h.get? it = some (S.o1 u) → S.itAt it 0 h) ∧ ∀ c ∈ S.cells, c < s.heap.objs.size := by
  cases S with
  | txt x =>
    obtain ⟨t, rfl⟩ := hu
    exact ⟨_, begins_text x t, trivial, fun h it e => ⟨t, _, e, rfl, rfl⟩, nofun⟩
  | tup a =>
    cases hu
    obtain ⟨its, rv, p, _⟩ := I.tuple (show SqT X.K H a xs from hs)
    obtain ⟨o, ho, _⟩ := id p
    exact ⟨_, begins_tuple a its.toArray, p, fun h it e => ⟨_, e, rfl, rfl⟩, fun c hc => by rw [List.mem_singleton.mp hc]; exact Heap.lt_size ho⟩
  | lst a =>
    cases hu
    obtain ⟨its, rv, p, _⟩ := I.list (show SqL X.K H a xs from hs)
    exact ⟨_, begins_list a its.toArray, p.isList, fun h it e => ⟨_, e, rfl, rfl⟩, fun c hc => by rw [List.mem_singleton.mp hc]; exact p.lt⟩

def iZipG (K : PySem.W.Frag) (ta : TA) : TI := fun σ H R => ta σ H fun vs H1 => ∃ S1 S2 xs ys, vs = [Src.v S1, Src.v S2] ∧ S1.has K H1 xs ∧ S2.has K H1 ys ∧ R (ItG K S1 S2) H1
theorem pi_zipG {X : Cx} {e e2 : Expr} {ta : TA} {p pos tpos : Pos} {elts : List Expr} {kk : Nat} (hg : Gl X "zip") (hm : X.mg "zip" = none) (ha : PA X [e, e2] ta)
    (hs : starEach [e, e2] X.env = (false, eval e X.env) :: starEach [e2] X.env := by rfl) (hpl : (backTo pos (starEach [e2] X.env)).any (·.1) = false := by rfl) :
    PI X (.Tuple elts kk tpos) (.Call (.Name "zip" p) [e, e2] [] pos) (iZipG X.K ta) := by
  refine ⟨fun pins s σ H R I h => Call_ (ld_blt I hg hm PyProof.Rows.boot_zip (PyProof.Rows.callWith_type1 (thn (ha.run pos pins s σ H _ I h) fun us s1 ⟨vs, H1, I1, r1, q1⟩ => ?_) hs hpl))⟩
  obtain ⟨S1, S2, xs, ys, rfl, g1, g2, q⟩ := q1
  cases r1 with
  | cons r rr =>
    cases rr with
    | cons r' rr =>
      cases rr
      obtain ⟨G1, B1, b1, f1, c1⟩ := Src.begins I1 g1 r
      obtain ⟨G2, B2, b2, f2, c2⟩ := Src.begins I1 g2 r'
      refine zip_begins2 B1 B2 b1 b2 ?_
      intro h' hz hI hO o1 o2 hsz hk
      refine wpAny_pyIter_zip hz ?_
      have I2 : Inv X pins σ H1 { s1 with heap := h' } := I1.kept (t' := s1.toks) hk
      have D : Apart (s1.heap.objs.size + 4) (s1.heap.objs.size + 2) (s1.heap.objs.size + 3) s1.heap.objs.size (s1.heap.objs.size + 1) S1 S2 := ⟨zip_sep2 c1 c2, fun c hc => Nat.ne_of_lt (c1 c hc), fun c hc => Nat.ne_of_lt (Nat.lt_succ_of_lt (c2 c hc))⟩
      refine ⟨s1.heap.objs.size + 4, [s1.heap.objs.size + 4, s1.heap.objs.size + 2, s1.heap.objs.size + 3, s1.heap.objs.size, s1.heap.objs.size + 1], _, _, H1, rfl, I2, turnG D, ⟨⟨hz, hI, _, _, hO⟩, f1 _ _ o1, f2 _ _ o2⟩, fun c hc => ?_, q⟩
      have hle : s1.heap.objs.size ≤ c := by
        simp only [List.mem_cons, List.not_mem_nil, or_false] at hc
        rcases hc with rfl | rfl | rfl | rfl | rfl
        · exact Nat.le_add_right _ _
        · exact Nat.le_add_right _ _
        · exact Nat.le_add_right _ _
        · exact Nat.le_refl _
        · exact Nat.le_add_right _ _
      exact I1.fpOk hle (I1.hok.fresh hle)

theorem walkG {K : PySem.W.Frag} {S1 S2 : Src} {xs ys : List V} {n : Nat} (hn : n = min xs.length ys.length) : Walk (ItG K S1 S2) n (fun H => S1.has K H xs ∧ S2.has K H ys) (YPair (fun i => xs[i]?) (fun i => ys[i]?)) := by
  refine ⟨fun i _ hi q => ⟨xs, ys, q.1, q.2, by omega, by omega⟩, fun _ q => ⟨xs, ys, q.1, q.2, hn⟩, fun i H v H' _ q y => ?_⟩
  obtain ⟨T, x, w, e1, e2, e3, e4, e5⟩ := y
  exact ⟨T, x, w, e1, e2, e3, e4 xs q.1, e5 ys q.2⟩
end ZG

set_option Elab.async false
set_option linter.all false
set_option maxRecDepth 100000
set_option maxHeartbeats 4000000
/-! tuple * int for every int from 0 on: once is the tuple itself, never is an empty one -/
namespace TR
open PySem PySem.Spec PyProof.Rows L2
theorem tuple_mul1 (l : Addr) (items : Array Value) (n : Nat) (dd : Option Addr) (sl : Array (Option Value)) (u : Tok) :
    Meets (Builtin.«tuple.__mul__» ⟨[.ref l, .int 1 u], []⟩) (fun _ R s => s.heap.get? l = some { cls := .type "tuple", dict := dd, data := .seq items n, slots := sl } ∧ R (.ok (.ret (Value.ref l))) s) :=
  .of_wp fun prog w A R s h => by
    obtain ⟨hp, g, d, tk, os⟩ := s
    obtain ⟨hl, h⟩ := h
    have f1 := AutoSeq1.idx_int
    have c1 : (items.isEmpty || (1 : Int) == 1) = true := by simp
    wp_walk using wpAny_loadPart' hl
    repeat (first
      | (refine wpAny_ite_true (decide_eq_true (by rw [c1])) ?_; wp_walk using wpAny_loadPart' hl)
      | (refine wpAny_ite_false (decide_eq_false (by decide)) ?_; wp_walk using wpAny_loadPart' hl))
    exact ⟨_, rfl, h⟩
theorem tuple_mul0 (l : Addr) (items : Array Value) (n : Nat) (dd : Option Addr) (sl : Array (Option Value)) (u : Tok) (hi : items.isEmpty = false) :
    Meets (Builtin.«tuple.__mul__» ⟨[.ref l, .int 0 u], []⟩) (fun _ R s => s.heap.get? l = some { cls := .type "tuple", dict := dd, data := .seq items n, slots := sl } ∧
      R (.ok (.ret (Value.ref s.heap.objs.size))) { s with heap := s.heap.push { cls := Value.type "tuple", data := Data.seq #[] }, toks := s.toks }) :=
  .of_wp fun prog w A R s h => by
    obtain ⟨hp, g, d, tk, os⟩ := s
    obtain ⟨hl, h⟩ := h
    have f1 := AutoSeq1.idx_int
    have c1 : (items.isEmpty || (0 : Int) == 1) = false := by rw [hi]; rfl
    have c2 : (decide ((0 : Int) ≤ 0) || items.isEmpty) = true := by simp
    wp_walk using wpAny_loadPart' hl
    exact ⟨_, rfl, h⟩
def rRepA (K : PySem.W.Frag) : R2 := fun x y H Q => ∃ l k xs, x = .ref l ∧ y = .int k ∧ SqT K H l xs ∧ xs ≠ [] ∧ 0 ≤ k ∧ k ≤ 1000 ∧ xs.length ≤ 1000 ∧
  (k = 1 → Q (.ref l) H) ∧ (k ≠ 1 → ∀ p, H p = none → Q (.ref p) (upd H p (.tup (List.replicate k.toNat xs).flatten)))
section
variable {X : Cx}
theorem op_repA : OpR X (binaryOp .Mult) (rRepA X.K) := by
  intro pins s σ H x y v u Q I rx ry h
  obtain ⟨l, k, xs, rfl, rfl, hT, hne, h1, h2, hz, q1, q2⟩ := h
  by_cases hk2 : 2 ≤ k
  · exact op_repT pins s σ H _ _ v u Q I rx ry ⟨l, k, xs, rfl, rfl, hT, hne, hk2, h2, hz, q2 (by omega)⟩
  cases rx
  obtain ⟨t, rfl⟩ := ry
  obtain ⟨its, r, ⟨⟨cls, dd, data, sl⟩, ho, hc, n, hd⟩, hs⟩ := I.tuple hT
  simp only at hc hd
  subst hc hd
  have hle : its.length = xs.length := r.length.symm
  have hi : its.toArray.isEmpty = false := by
    cases its with
    | nil => exact absurd (List.eq_nil_of_length_eq_zero hle.symm) hne
    | cons a b => rfl
  have hk : k = 0 ∨ k = 1 := by omega
  rcases hk with rfl | rfl
  · refine wpAny_binaryOp_repeat_ref (T := "tuple") (U := "int") (by decide) ⟨_, ho, rfl⟩ (fun s' => typeIs_int s' 0 t) noFill_tuple_mul F.fills_int_mul F.slot_int_rmul repeat_tuple F.slot_int_index.lookup
      (call_meets F.slot_int_rmul (typeIs_int s 0 t) F.entry_int_rmul (F.args_int_rmul_2 _ _) (int_rmul_tuple 0 t l its.toArray n dd sl)
        ⟨ho, rfl, ⟨_, ho, rfl⟩, call_meets F.slot_tuple_mul ⟨_, ho, rfl⟩ F.entry_tuple_mul (F.args_tuple_mul_2 _ _) (tuple_mul0 l its.toArray n dd sl t hi) ⟨ho, ?_⟩⟩)
    refine ⟨.ref s.heap.objs.size, _, I.laid (t' := s.toks) (o := .tup []) (fun b ob q => Heap.get?_push_of_some _ q) (Nat.le_refl _) ?_, rfl, q2 (by decide) _ (I.hok.fresh (Nat.le_refl _))⟩
    exact ⟨Nat.zero_le _, [], .nil, IsTup.new _ _⟩
  · refine wpAny_binaryOp_repeat_ref (T := "tuple") (U := "int") (by decide) ⟨_, ho, rfl⟩ (fun s' => typeIs_int s' 1 t) noFill_tuple_mul F.fills_int_mul F.slot_int_rmul repeat_tuple F.slot_int_index.lookup
      (call_meets F.slot_int_rmul (typeIs_int s 1 t) F.entry_int_rmul (F.args_int_rmul_2 _ _) (int_rmul_tuple 1 t l its.toArray n dd sl)
        ⟨ho, rfl, ⟨_, ho, rfl⟩, call_meets F.slot_tuple_mul ⟨_, ho, rfl⟩ F.entry_tuple_mul (F.args_tuple_mul_2 _ _) (tuple_mul1 l its.toArray n dd sl t) ⟨ho, ?_⟩⟩)
    exact ⟨.ref l, H, I, rfl, q1 rfl⟩
end
end TR

set_option Elab.async false
set_option linter.all false
set_option maxRecDepth 100000
/-! heaps that a law's own text works on: what it holds, as a list of addresses and objects; the two first helpers' promises -/
namespace Lw
open PySem PySem.Spec PyProof.Rows L2
theorem same_upd {H : Hp} {p : Addr} {o : HO} (h : H p = none) : Same H (upd H p o) := fun b x e => by
  rw [upd_ne (ne_of_none e h)]
  exact e
/-- what stood stands, but for the object at p -/
def Keep (H H' : Hp) (p : Addr) : Prop := ∀ b o, b ≠ p → H b = some o → H' b = some o
theorem Keep.trans {H H1 H2 : Hp} {p : Addr} (a : Keep H H1 p) (b : Keep H1 H2 p) : Keep H H2 p := fun c o n e => b c o n (a c o n e)
theorem keep_upd (H : Hp) (p : Addr) (o : HO) : Keep H (upd H p o) p := fun b u n e => by
  rw [upd_ne n]
  exact e
theorem Same.keep {H H' : Hp} {p : Addr} (s : Same H H') : Keep H H' p := fun b o _ e => s b o e
theorem Keep.new {H H1 H2 : Hp} {p : Addr} (n : H p = none) (s : Same H H1) (k : Keep H1 H2 p) : Same H H2 := fun b o e => k b o (ne_of_none e n) (s b o e)
theorem Keep.free {H H' : Hp} {p r : Addr} {o : HO} (k : Keep H H' p) (hp : H' p = some o) (hr : H' r = none) : H r = none := by
  cases e : H r with
  | none => rfl
  | some u =>
    have n : r ≠ p := fun z => by
      rw [z, hp] at hr
      cases hr
    rw [k r u n e] at hr
    cases hr
theorem at_int {ns : List Int} {i : Int} (h0 : 0 ≤ i) (h1 : i < ns.length) : ∃ z, atI (ns.map V.int) i = some (.int z) := by
  obtain ⟨j, rfl⟩ := Int.eq_ofNat_of_zero_le h0
  have hj : j < ns.length := by omega
  refine ⟨ns[j], atI_nat ?_⟩
  rw [List.getElem?_map, List.getElem?_eq_getElem hj]
  rfl
def spSource (K : PySem.W.Frag) : Sp := fun vs H Q _ => ∃ (a : Addr) (ns : List Int) (k : Int), vs = [.ref a, .int k] ∧ SqL K H a (ns.map V.int) ∧ ns.length ≤ 63 ∧ 0 ≤ k ∧
  ∀ (p : Addr) (x y : Int), H p = none → 0 ≤ x → Q (.ref p) (upd H p (.lst [.int x, .int y]))
def spDraw : Sp := fun vs H Q _ => ∃ (p : Addr) (x y m : Int), vs = [.ref p, .int m] ∧ H p = some (.lst [.int x, .int y]) ∧ 0 ≤ x ∧ 0 < m ∧ m ≤ 100000 ∧
  ∀ (v x' y' : Int), 0 ≤ v → v < m → 0 ≤ x' → Q (.int v) (upd H p (.lst [.int x', .int y']))
/-- since H0: what stood stands; L: what is new and known, each place once -/
structure Objs (H0 H : Hp) (L : List (Addr × HO)) : Prop where
  same : Same H0 H
  at_ : ∀ q ∈ L, H q.1 = some q.2
  nd : (L.map (·.1)).Nodup
  new : ∀ q ∈ L, H0 q.1 = none
section
variable {H0 H H' : Hp} {L : List (Addr × HO)} {a : Addr} {o o' : HO} {i : Nat}
theorem Objs.nil (H : Hp) : Objs H H [] := ⟨Same.refl H, fun _ h => absurd h (by simp), List.nodup_nil, fun _ h => absurd h (by simp)⟩
theorem Objs.get (h : Objs H0 H L) (i : Nat) (hi : L[i]? = some (a, o)) : H a = some o := h.at_ _ (List.mem_of_getElem? hi)
theorem Objs.mono (h : Objs H0 H L) (s : Same H H') : Objs H0 H' L := ⟨h.same.trans s, fun q hq => s _ _ (h.at_ q hq), h.nd, h.new⟩
theorem Objs.fresh (h : Objs H0 H L) (n : H a = none) : a ∉ L.map (·.1) ∧ H0 a = none :=
  ⟨fun z => (by
    obtain ⟨q, hq, e⟩ := List.mem_map.mp z
    have := h.at_ q hq
    rw [e, n] at this
    cases this), h.same.free n⟩
theorem Objs.push (h : Objs H0 H L) (n : H a = none) (s : Same H H') (e : H' a = some o) : Objs H0 H' ((a, o) :: L) := by
  obtain ⟨h1, h2⟩ := h.fresh n
  refine ⟨h.same.trans s, fun q hq => ?_, ?_, fun q hq => ?_⟩
  · rcases List.mem_cons.mp hq with z | z
    · rw [z]; exact e
    · exact s _ _ (h.at_ q z)
  · rw [List.map_cons, List.nodup_cons]
    exact ⟨h1, h.nd⟩
  · rcases List.mem_cons.mp hq with z | z
    · rw [z]; exact h2
    · exact h.new q z
theorem Objs.add (h : Objs H0 H L) (n : H a = none) : Objs H0 (upd H a o) ((a, o) :: L) := h.push n (same_upd n) upd_same
theorem Objs.skip (h : Objs H0 H L) (n : H a = none) : Objs H0 (upd H a o) L := h.mono (same_upd n)
theorem Objs.set (h : Objs H0 H L) (i : Nat) (hi : L[i]? = some (a, o)) (k : Keep H H' a) (e : H' a = some o') : Objs H0 H' (L.set i (a, o')) := by
  have hm : (a, o) ∈ L := List.mem_of_getElem? hi
  obtain ⟨hlt, hie⟩ := List.getElem?_eq_some_iff.mp hi
  have hmap : (L.set i (a, o')).map (·.1) = L.map (·.1) := by
    rw [List.map_set]
    apply List.ext_getElem?
    intro j
    by_cases hj : i = j
    · subst hj
      rw [List.getElem?_set_self (by simpa using hlt), List.getElem?_map, hi]
      rfl
    · rw [List.getElem?_set_ne hj]
  have h0 := h.new _ hm
  refine ⟨Keep.new h0 h.same k, fun q hq => ?_, by rw [hmap]; exact h.nd, fun q hq => ?_⟩
  · obtain ⟨j, hj⟩ := List.getElem?_of_mem hq
    by_cases hij : i = j
    · subst hij
      rw [List.getElem?_set_self hlt] at hj
      cases hj
      exact e
    · rw [List.getElem?_set_ne hij] at hj
      have hq2 := List.mem_of_getElem? hj
      refine k _ _ (fun z => ?_) (h.at_ q hq2)
      have e1 : (L.map (·.1))[i]? = some a := by rw [List.getElem?_map, hi]; rfl
      have e2 : (L.map (·.1))[j]? = some a := by rw [List.getElem?_map, hj, ← z]; rfl
      obtain ⟨g1, f1⟩ := List.getElem?_eq_some_iff.mp e1
      obtain ⟨g2, f2⟩ := List.getElem?_eq_some_iff.mp e2
      exact hij ((List.getElem_inj h.nd).mp (f1.trans f2.symm))
  · obtain ⟨j, hj⟩ := List.getElem?_of_mem hq
    by_cases hij : i = j
    · subst hij
      rw [List.getElem?_set_self hlt] at hj
      cases hj
      exact h0
    · rw [List.getElem?_set_ne hij] at hj
      exact h.new q (List.mem_of_getElem? hj)
theorem Objs.put (h : Objs H0 H L) (i : Nat) (hi : L[i]? = some (a, o)) : Objs H0 (upd H a o') (L.set i (a, o')) := h.set i hi (keep_upd H a o') upd_same
/-- one more, that was new at some time since -/
theorem Objs.join {b : Addr} {u : HO} (h : Objs H0 H' L) (n : b ∉ L.map (·.1)) (n0 : H0 b = none) (e : H' b = some u) : Objs H0 H' ((b, u) :: L) := by
  refine ⟨h.same, fun q hq => ?_, ?_, fun q hq => ?_⟩
  · rcases List.mem_cons.mp hq with z | z
    · rw [z]; exact e
    · exact h.at_ q z
  · rw [List.map_cons, List.nodup_cons]
    exact ⟨n, h.nd⟩
  · rcases List.mem_cons.mp hq with z | z
    · rw [z]; exact n0
    · exact h.new q z
theorem Objs.sub {L' : List (Addr × HO)} (h : Objs H0 H L) (s : List.Sublist L' L) : Objs H0 H L' :=
  ⟨h.same, fun q hq => h.at_ q (s.subset hq), h.nd.sublist (s.map _), fun q hq => h.new q (s.subset hq)⟩
theorem Objs.ne (h : Objs H0 H L) {b : Addr} {u : HO} (i j : Nat) (hi : L[i]? = some (a, o)) (hj : L[j]? = some (b, u)) (hij : i ≠ j) : a ≠ b := fun z => by
  have e1 : (L.map (·.1))[i]? = some a := by rw [List.getElem?_map, hi]; rfl
  have e2 : (L.map (·.1))[j]? = some a := by rw [List.getElem?_map, hj, z]; rfl
  obtain ⟨g1, f1⟩ := List.getElem?_eq_some_iff.mp e1
  obtain ⟨g2, f2⟩ := List.getElem?_eq_some_iff.mp e2
  exact hij ((List.getElem_inj h.nd).mp (f1.trans f2.symm))
end
theorem ixN_of {n : Nat} {i : Int} (h0 : 0 ≤ i) (h1 : i < n) : ixN n i = some i.toNat := by
  unfold ixN
  rw [if_pos h0, if_pos h1]
theorem get_at {ns : List Int} {i : Nat} (h : i < ns.length) : atI (ns.map V.int) (0 + (i : Int)) = some (.int ns[i]) := by
  rw [Int.zero_add]
  refine atI_nat ?_
  rw [List.getElem?_map, List.getElem?_eq_getElem h]
  rfl
theorem at_back {ns : List Int} {i : Nat} (h : i < ns.length) : atI (ns.map V.int) ((ns.length : Int) - 1 - (0 + (i : Int))) = some (.int (ns[ns.length - 1 - i]'(by omega))) := by
  rw [show (ns.length : Int) - 1 - (0 + (i : Int)) = ((ns.length - 1 - i : Nat) : Int) by omega]
  refine atI_nat ?_
  rw [List.getElem?_map, List.getElem?_eq_getElem (by omega)]
  rfl
theorem ne_of_none' {H : Hp} {a b : Addr} {o : HO} (h : H a = some o) (h' : H b = none) : b ≠ a := (ne_of_none h h').symm
end Lw

set_option Elab.async false
set_option linter.all false
set_option maxRecDepth 100000
set_option maxHeartbeats 2000000
/-! all(e for target in walked), any(..): the element may call own defs; by the frame of the generator as a context of its own. -/
namespace GA
open PySem PySem.Spec PyProof.Rows L2 GenW GxR

/-- the frame of a generator expression that was made at s -/
abbrev gen (X : Cx) (A : Around) (s : Shared) (H : Hp) (cenv : Env) (fp : List Addr) (pn : List (Addr × Obj)) : Cx :=
  { X with A := A, s_0 := s, H_0 := H, env := cenv, outer := X.stack, stack := cenv :: X.stack, ex := fp, fn := fun _ => false, pn := pn, xe := fun _ _ => False }
/-- its environment -/
abbrev genv (X : Cx) (scope : Scope) (C : Addr) (code : Value) : Env := genEnv scope (cloFrom X.env.cells scope.names []) C code builtinsNs X.env
structure GenOk (N : List Str) (sc scope : Scope) (own : List (Str × Nat)) : Prop where
  blk : BlkOk N sc scope own
  co : scope.isCoroutine = false
  cell : ∀ y ∈ scope.names, y.2 ≠ .cell
  dot : scope.names.lookup (".0" : Str) = some NameKind.local
theorem genOk_by {N : List Str} {sc scope : Scope} {own : List (Str × Nat)} (h : (scope.kind = .function ∧ (∀ y ∈ scope.names, scope.names.lookup y.1 = some y.2) ∧ (∀ p ∈ own, N[p.2]? = some p.1) ∧
    (∀ y ∈ scope.names, y.2 = .free → sc.names.lookup y.1 = some .cell ∨ sc.names.lookup y.1 = some .free) ∧ (∀ y ∈ scope.names, y.2 = .local ∨ y.2 = .cell → y.1 ∈ own.map (·.1) ∨ y.1 ∉ N)) ∧
    scope.isCoroutine = false ∧ (∀ y ∈ scope.names, y.2 ≠ .cell) ∧ scope.names.lookup (".0" : Str) = some NameKind.local) : GenOk N sc scope own :=
  ⟨⟨h.1.1, h.1.2.1, h.1.2.2.1, h.1.2.2.2.1, h.1.2.2.2.2⟩, h.2.1, h.2.2.1, h.2.2.2⟩

section
variable {X : Cx} {pins : List (Addr × Obj)} {σ : L2.St} {H : Hp} {s : Shared}
theorem gen_start {A : Around} {scope : Scope} {own : List (Str × Nat)} {fp : List Addr} {a : Addr} {code : Value} {go : Obj} {m0 : Str → Option Value} {s5 : Shared} (I : Inv X pins σ H s) (ok : GenOk X.N X.env.scope scope own) (hN : X.N.Nodup)
    (hA : A.frames = some X.stack) (hh : A.handled = none) (hfp : ∀ b ∈ fp, FpOk X pins H b ∧ b < s.heap.objs.size) (kp : ∀ b o, s.heap.get? b = some o → s5.heap.get? b = some o) (hns : s5.heap.Ns s.heap.objs.size m0) (hos : s5.os = s.os) (hb5 : AllBare s5.gens)
    (ha : s.heap.objs.size < a) (hgo : s5.heap.get? a = some go) (hgd : ∀ v, go.data ≠ .cell v) :
    Inv (gen X (A.deeper (genv X scope s.heap.objs.size code)) s H (genv X scope s.heap.objs.size code) fp [(a, go)]) [] (wipe σ (own.map (·.2))) H s5 := by
  have hfree : ∀ y ∈ scope.names, y.2 = .free → ∃ c, X.env.cells.lookup y.1 = some c := fun y hy e => by
    rcases ok.blk.free y hy e with k | k
    · exact I.ok.has _ (.inl k)
    · exact I.ok.has _ (.inr k)
  have cm : ∀ {y c}, (y, c) ∈ cloFrom X.env.cells scope.names [] → X.env.cells.lookup y = some c ∧ c < s.heap.objs.size ∧ (y, NameKind.free) ∈ scope.names := fun {y c} hm => by
    rcases cloFrom_mem hm with hm | ⟨h1, rfl⟩
    · cases hm
    · obtain ⟨c, hc⟩ := hfree _ h1 rfl
      rw [hc]
      obtain ⟨w, z⟩ := I.cell _ _ hc
      exact ⟨rfl, z.lt, h1⟩
  have cm2 : ∀ {y c}, (cloFrom X.env.cells scope.names []).lookup y = some c → X.env.cells.lookup y = some c ∧ c < s.heap.objs.size ∧ (y, NameKind.free) ∈ scope.names := fun {y c} e => cm (PySem.mem_of_lookup e)
  have look : ∀ {y}, scope.names.lookup y = some .free → ∃ c, (cloFrom X.env.cells scope.names []).lookup y = some c := fun {y} hl =>
    mem_lookup (cloFrom_has (cells := X.env.cells) (acc := []) (PySem.mem_of_lookup hl))
  refine ⟨⟨I.ok.mod, ok.blk.kind, I.ok.glob, rfl, Nat.le_refl _, fun y z c e1 e2 => I.ok.inj y z c (cm2 e1).1 (cm2 e2).1, fun y hy => ?_, fun y c z e => ?_, fun _ => hh, Around.frames_deeper hA, .inr ⟨rfl, rfl⟩, fun b hb => ⟨?_, fun y c e z => ?_⟩, I.bs, Nat.le_trans I.ok.bsz I.sz, fun b o e hb => ?_, fun b hb z => ?_, I.stack, I.stkFree⟩,
    hos, hb5, Un.kept kp, ⟨m0, hns, fun i y av e1 e2 e3 => ?_⟩, fun y c e => ?_, I.hok.fresh (Nat.le_refl _), fun y c e => ?_, fun p hp => ?_, I.hok.kept kp, by rw [wipe_length]; exact I.len⟩
  · have hy : scope.names.lookup y = some .cell ∨ scope.names.lookup y = some .free := hy
    rcases hy with hy | hy
    · exact absurd rfl (ok.cell _ (PySem.mem_of_lookup hy))
    · exact look hy
  · cases z
  · exact Nat.ne_of_lt (hfp b hb).2
  · exact (hfp b hb).1.2.2.2.2.1 y c (cm2 e).1 z
  · rcases (hfp b hb).1.2.2.2.1 with z | z
    · exact I.ok.noex b o e z
    · exact absurd (Nat.lt_of_lt_of_le (Heap.lt_size e) (Nat.le_trans I.ok.bsz z)) (Nat.lt_irrefl _)
  · rcases List.mem_cons.mp (I.stkSub b z) with z | z
    · exact (hfp b hb).1.2.1 z
    · exact (hfp b hb).1.2.2.1 z
  · obtain ⟨e2, hne⟩ := wipe_some e2
    have hfr : scope.names.lookup y = some .free := by
      have no : ∀ k, scope.names.lookup y = some k → ¬ (k = .local ∨ k = .cell) := fun k e hh => by
        rcases ok.blk.own _ (PySem.mem_of_lookup e) hh with e' | e'
        · obtain ⟨p, hp, hpy⟩ := List.mem_map.mp e'
          have e3 := ok.blk.ix p hp
          have : p.1 = y := hpy
          rw [this] at e3
          exact hne (List.mem_map.mpr ⟨p, hp, nodup_ix hN e3 e1⟩)
        · exact e' (List.mem_of_getElem? e1)
      have e3 : Vis scope y := e3
      rcases e3 with e3 | e3 | e3
      · exact absurd (.inl rfl) (no _ e3)
      · exact absurd (.inr rfl) (no _ e3)
      · exact e3
    obtain ⟨m, hn, hl⟩ := I.loc
    have hvis : Vis X.env.scope y := (ok.blk.free _ (PySem.mem_of_lookup hfr) rfl).elim (fun k => .inr (.inl k)) (fun k => .inr (.inr k))
    obtain ⟨w, r, q⟩ := hl i y av e1 e2 hvis
    obtain ⟨c, hc⟩ := look hfr
    refine ⟨w, r, .inr ⟨.inr hfr, c, hc, ?_⟩⟩
    rcases q with ⟨k, _⟩ | ⟨_, c', e', z⟩
    · have k : X.env.scope.names.lookup y = some .local := k
      rcases ok.blk.free _ (PySem.mem_of_lookup hfr) rfl with k' | k' <;> rw [show X.env.scope.names.lookup y = _ from k'] at k <;> cases k
    · rw [(cm2 hc).1] at e'
      cases e'
      obtain ⟨o, ho, hd⟩ := z
      exact ⟨o, kp _ _ ho, hd⟩
  · obtain ⟨v, o, ho, hd⟩ := I.cell y c (cm2 e).1
    exact ⟨v, o, kp _ _ ho, hd⟩
  · exact I.freeC y c (cm2 e).1
  · have e : p = (a, go) := by simpa using hp
    subst e
    refine ⟨hgo, I.hok.fresh (Nat.le_of_lt ha), Nat.ne_of_gt ha, fun z => ?_, hgd⟩
    have z : a ∈ frs X.stack := z
    rcases List.mem_cons.mp (I.stkSub a z) with e | e
    · exact absurd (Nat.lt_trans I.lt ha) (by rw [e]; exact Nat.lt_irrefl _)
    · exact I.nofs (Nat.le_of_lt ha) e

/-- the generator expression's code object: made, or found in the def's table; the table may have grown -/
theorem gcode {A : Around} {E : Value → Shared → Prop} {c P : Addr} {gpos : Pos} {qn : Str} {scope : Scope} {Q : Value → Shared → Prop} (TB : LamX.TabB X.base X.mg c P) (hcode : X.env.code = .ref c) (I : Inv X pins σ H s) (ht : TabG H P)
    (hQ : ∀ code s' H', Tabbed P H H' → Inv X pins σ H' s' → s.heap.objs.size ≤ s'.heap.objs.size → (∀ b o, b ≠ P → s.heap.get? b = some o → s'.heap.get? b = some o) → Q code s') :
    wpAny (model X.prog X.w) A (genexprCode X.env gpos qn scope) Q E s := by
  obtain ⟨ps, hP, ht⟩ := ht
  have hPs : s.heap.get? P = some { cls := .none, data := .fields ps } := I.hok P _ hP
  have cd : PySem.W.CodeHd s.heap c P := TB.code.keeps fun b u e => I.bk b u e
  cases hf : codeAmong gpos ps.toList with
  | none =>
    refine wpAny_genexprCodeX hcode (cd.code hPs ht) (cd.tab hPs) hf fun c' h' tk hx hge hlt hco' _ htab' _ => ?_
    obtain ⟨o1, vs, f1, tf, fl, tg, inF, tx, tt, op, _, _, _, _, _, _, _, _, _, htr, _⟩ := hco'
    have J := inv_tab (h' := h') (g' := s.gens) (d' := s.drawn) (t' := tk) I hP (fun b o hb e => hx b o hb e) htab'.2 I.bare
    exact hQ _ _ _ ⟨⟨_, upd_same, htr⟩, fun b hb => upd_ne hb⟩ J (Nat.le_trans hge (Nat.le_of_lt hlt)) fun b o hb e => hx b o hb e
  | some cv =>
    refine wpAny_genexprCode_hit hcode (cd.code hPs ht) hf ?_
    exact hQ cv s H ⟨⟨ps, hP, ht⟩, fun _ _ => rfl⟩ I (Nat.le_refl _) fun _ _ _ e => e
theorem gblt {A : Around} {E : Value → Shared → Prop} {c P : Addr} {Q : Addr → Shared → Prop} (TB : LamX.TabB X.base X.mg c P) (I : Inv X pins σ H s) (h : Q builtinsNs s) : wpAny (model X.prog X.w) A (builtinsFor X.env.globals X.env.builtins) Q E s := by
  obtain ⟨bm, ob, e1, e2, e3, e4, e5, e6, e7, e8⟩ := TB.bm
  exact wpAny_builtinsFor (m := X.mg) (by rw [I.ok.glob]; exact I.mod.glob.keeps I.bk) e1 e2 (I.bk _ _ e5) e6 e7 e8 h

/-! ### the generator's run -/
structure Wk (s s' : Shared) : Prop where
  os : s'.os = s.os
  bare : AllBare s'.gens
  keep : ∀ b o, s.heap.get? b = some o → s'.heap.get? b = some o
def YB (Y0 : Bool → Shared → Prop) : Protocol := fun _ _ v s kap => ∃ b, v = .bool b ∧ Y0 b s ∧ (b = true → ∀ s', Wk s s' → kap (.send .none) s')
def RB (F : Shared → Prop) : GenEnd := fun _ _ r s => ((r = .ok (.ret .none) ∨ r = .ok .next) ∧ F s) ∨ ∃ e, r = .error e ∧ False
theorem over_gloop {A : Around} {e : Expr} {gs : List Comprehension} {sc : Scope} {pos : Pos} {it : Value} {cenv : Env} : A.over (.compLoop (.GeneratorExp e gs sc pos) 0 it .none cenv) [] = A.deeper cenv := by
  first
    | rfl
    | (obtain ⟨hd, d, fr, gs, u⟩ := A; simp [Around.over, Around.deeper, marksOver, frameCount, unitsOf, envsOf, guardsOf, pushEnvs, pushGuards, Code.envs, Code.env?, Code.isFrame, Code.guards, Code.isGuard, Code.weight, Code.frames, Code.isCreation, Code.isCaller, Code.cUnits])
theorem over_gstart {A : Around} {e : Expr} {gs : List Comprehension} {sc : Scope} {pos : Pos} {it : Value} {cenv : Env} : A.over (.compStart (.GeneratorExp e gs sc pos) 0 it .none cenv) [] = A.deeper cenv := by
  first
    | rfl
    | (obtain ⟨hd, d, fr, gs, u⟩ := A; simp [Around.over, Around.deeper, marksOver, frameCount, unitsOf, envsOf, guardsOf, pushEnvs, pushGuards, Code.envs, Code.env?, Code.isFrame, Code.guards, Code.isGuard, Code.weight, Code.frames, Code.isCreation, Code.isCaller, Code.cUnits])
end
section
variable {Z : Cx} {tg iter elt : Expr} {scope : Scope} {gpos : Pos} {A : Around} {it : Addr} {fp : List Addr} {tn : Nat → Heap → Prop} {J : It} {g : TG} {te : TE} {W : Nat → Nat → Hp → Prop} {QT QF : Hp → Prop} {σ0 : L2.St} {vs : List Nat}
theorem seg_gloop (hA : A.deeper Z.env = Z.A) (hc : Z.calm = true) (hxe : ∀ e s, ¬ Z.xe e s) (hco : Z.env.scope.isCoroutine = false) (T : Turn Z.prog Z.w Z.K tg J fp it tn) (pg : PG Z tg g) (pe : PE Z elt te)
    (hσ : ∀ σ2 : L2.St, wipe σ2 vs = σ0 → ∀ (i : Nat) v, σ0[i]? = some (some v) → σ2[i]? = some (some v)) (hl : ∀ σ2 : L2.St, wipe σ2 vs = σ0 → σ0.length = σ2.length)
    (stat : ∀ {σ' : L2.St} {H' : Hp} {s' : Shared}, Inv Z [] σ' H' s' → (∀ b ∈ fp, H' b = none) → ∀ b ∈ fp, FpOk Z [] H' b)
    (turn : ∀ i m H, W i m H → (J.stop i H ∧ QT H) ∨ (J.go i H ∧ ∃ Nx : Hp → Prop, (∀ H', Nx H' → ∃ m', m' < m ∧ W (i + 1) m' H') ∧ ∀ x H', J.yld i H x H' → g x σ0 H' fun σ2 H2 => wipe σ2 vs = σ0 ∧
      te σ2 H2 fun y H4 => ∃ b, y = .bl b ∧ (if b = true then Nx H4 else QF H4))) :
    ∀ (m n i : Nat) (s₀ s : Shared) (H : Hp), m < n → Inv Z [] σ0 H s → tn i s.heap → (∀ b ∈ fp, H b = none) → W i m H →
      Seg (model Z.prog Z.w) A (RB fun s => ∃ H', Inv Z [] σ0 H' s ∧ QT H') (YB fun b s => ∃ H', Inv Z [] σ0 H' s ∧ (b = false → QF H')) n s₀
        (.compLoop (.GeneratorExp elt [⟨tg, iter, [], 0⟩] scope gpos) 0 (.ref it) .none Z.env)
        ((model Z.prog Z.w).den (.compLoop (.GeneratorExp elt [⟨tg, iter, [], 0⟩] scope gpos) 0 (.ref it) .none Z.env)) [] s := by
  intro m
  induction m using Nat.strongRecOn with
  | ind m ih =>
    intro n i s₀ s H hmn I st nfp w
    have ov : A.over (.compLoop (.GeneratorExp elt [⟨tg, iter, [], 0⟩] scope gpos) 0 (.ref it) .none Z.env) [] = Z.A := over_gloop.trans hA
    obtain ⟨n, rfl⟩ : ∃ k, n = k + 1 := ⟨n - 1, by omega⟩
    show Seg _ A _ _ _ s₀ _ ((compTurn (.GeneratorExp elt [⟨tg, iter, [], 0⟩] scope gpos) 0 (.ref it) .none Z.env).onRaise (leaving Z.env)) [] s
    rw [compTurn_gen, Sem.onRaise_eq_wrap]
    refine seg_bind_wrap (wpAny_standAt ?_)
    refine seg_bind_wrap ?_
    rw [ov]
    rcases turn i m H w with ⟨stop, q⟩ | ⟨go, Nx, hNx, step⟩
    · refine thnF (T.done Z rfl rfl rfl hc i [] s σ0 H (fun _ _ => False) I (stat I nfp) st stop) fun r s1 ⟨hr, I1⟩ => ?_
      subst hr
      exact seg_end (.ok .next) (.inl ⟨.inr rfl, H, I1, q⟩)
    · refine thnF (T.item Z rfl rfl rfl hc i [] s σ0 H (fun _ _ => False) I (stat I nfp) st go) fun r s1 ⟨u, hr, h1⟩ => ?_
      subst hr
      refine seg_bind_wrap ?_
      rw [ov]
      refine thnF h1 fun _ s2 ⟨x, H2, I2, r2, y2, st2, n2⟩ => ?_
      have I2' := I2.pinned (stat I2 n2) (T.obj _ _ st2)
      refine seg_bind_wrap ?_
      rw [ov]
      refine wpAny_mono (pg.run _ s2 _ H2 x u _ I2' r2 (step x H2 y2)) (fun _ s3 ⟨σ3, H3, I3, hw3, q3⟩ => ?_) fun e s' z => (hxe e s' z).elim
      refine seg_bind_wrap (wpAny_tests_nil ?_)
      simp only [if_true]
      have hy : ∀ v, yieldOut Z.env v = yieldValue v := fun v => by simp only [yieldOut, hco, Bool.false_eq_true, if_false]
      simp only [hy]
      rw [Sem.bind_eq_wrap', Sem.bind_eq_wrap', Sem.wrap_wrap, Sem.wrap_wrap]
      refine seg_wrap ?_
      rw [ov]
      refine wpAny_mono (pe.run _ s3 σ3 H3 _ I3 q3) (fun z s4 ⟨yv, H4, I4, r4, b, eb, q4⟩ => ?_) fun e s' z => (hxe e s' z).elim
      subst eb
      obtain rfl : z = Value.bool b := r4
      have pin' : ∀ b ∈ fp, ∀ o, s2.heap.get? b = some o → s4.heap.get? b = some o ∧ H4 b = none := fun b hb o e =>
        let z := I4.pin (b, o) (List.mem_append_right _ (List.mem_append_right _ (mem_pinsAt hb e)))
        ⟨z.1, z.2.1⟩
      have I5 : Inv Z [] σ0 H4 s4 := (I4.unpinned (pins := [])).weak (hl σ3 hw3) (hσ σ3 hw3)
      refine seg_at (seg_yield rfl rfl rfl ⟨b, rfl, ⟨H4, I5, fun hb => by subst hb; simpa using q4⟩, fun hb s' wk => ?_⟩)
      subst hb
      obtain ⟨m', hm, w'⟩ := hNx H4 (by simpa using q4)
      have I6 : Inv Z [] σ0 H4 s' := I5.call' (ch := []) wk.os (Un.kept wk.keep) (I5.hok.kept wk.keep) wk.bare fun b hb => absurd hb (by simp)
      refine seg_again rfl (ih m' hm n (i + 1) s' s' H4 (by omega) I6 (T.keep _ _ _ st2 fun b hb o e => wk.keep b o (pin' b hb o e).1) (fun b hb => ?_) w')
      obtain ⟨o, e, _⟩ := T.obj _ _ st2 b hb
      exact (pin' b hb o e).2

theorem seg_gstart (hA : A.deeper Z.env = Z.A) (hc : Z.calm = true) (hxe : ∀ e s, ¬ Z.xe e s) (hco : Z.env.scope.isCoroutine = false) (T : Turn Z.prog Z.w Z.K tg J fp it tn) (pg : PG Z tg g) (pe : PE Z elt te)
    (hσ : ∀ σ2 : L2.St, wipe σ2 vs = σ0 → ∀ (i : Nat) v, σ0[i]? = some (some v) → σ2[i]? = some (some v)) (hl : ∀ σ2 : L2.St, wipe σ2 vs = σ0 → σ0.length = σ2.length)
    (stat : ∀ {σ' : L2.St} {H' : Hp} {s' : Shared}, Inv Z [] σ' H' s' → (∀ b ∈ fp, H' b = none) → ∀ b ∈ fp, FpOk Z [] H' b)
    (turn : ∀ i m H, W i m H → (J.stop i H ∧ QT H) ∨ (J.go i H ∧ ∃ Nx : Hp → Prop, (∀ H', Nx H' → ∃ m', m' < m ∧ W (i + 1) m' H') ∧ ∀ x H', J.yld i H x H' → g x σ0 H' fun σ2 H2 => wipe σ2 vs = σ0 ∧
      te σ2 H2 fun y H4 => ∃ b, y = .bl b ∧ (if b = true then Nx H4 else QF H4))) (m n : Nat) (s₀ s : Shared) (H : Hp) (hmn : m < n) (I : Inv Z [] σ0 H s) (st : tn 0 s.heap) (nfp : ∀ b ∈ fp, H b = none) (w : W 0 m H) :
      Seg (model Z.prog Z.w) A (RB fun s => ∃ H', Inv Z [] σ0 H' s ∧ QT H') (YB fun b s => ∃ H', Inv Z [] σ0 H' s ∧ (b = false → QF H')) n s₀
        (.compStart (.GeneratorExp elt [⟨tg, iter, [], 0⟩] scope gpos) 0 (.ref it) .none Z.env)
        ((model Z.prog Z.w).den (.compStart (.GeneratorExp elt [⟨tg, iter, [], 0⟩] scope gpos) 0 (.ref it) .none Z.env)) [] s := by
  have loop := seg_gloop (iter := iter) (scope := scope) (gpos := gpos) hA hc hxe hco T pg pe hσ hl stat turn m n 0 s₀ s H hmn I st nfp w
  show Seg _ A _ _ _ s₀ _ ((compStart (.GeneratorExp elt [⟨tg, iter, [], 0⟩] scope gpos) 0 (.ref it) .none Z.env).onRaise (leaving Z.env)) [] s
  unfold compStart
  rw [Sem.onRaise_eq_wrap]
  show Seg _ A _ _ _ s₀ _ ((ask >>= _).wrap _ _ _ _) [] s
  refine seg_bind_wrap (wpAny_askSetting ?_)
  split
  · exact seg_again rfl loop
  · first
      | exact seg_bind_wrap (wpAny_rule (seg_bind_wrap (wpAny_standAt (seg_bind_wrap (T.self _ 0 s _ _ st (seg_again rfl loop))))))
      | (refine seg_bind_wrap (wpAny_rule ?_); show Seg _ A _ _ _ s₀ _ ((standAt iter.pos >>= _).wrap _ _ _ _) [] s; exact seg_bind_wrap (wpAny_standAt (seg_bind_wrap (T.self _ 0 s _ _ st (seg_again rfl loop)))))
/-- only the table of generators, the tokens and what was drawn are others; the heap has grown -/
theorem inv_wk {H : Hp} {s s' : Shared} (I : Inv Z [] σ0 H s) (wk : Wk s s') : Inv Z [] σ0 H s' :=
  I.call' (ch := []) wk.os (Un.kept wk.keep) (I.hok.kept wk.keep) wk.bare fun b hb => absurd hb (by simp)
/-! ### who asks: all, any -/
theorem all_loop {A : Around} {a : Addr} {gi : Nat} (hh : A.handled = none) (hd : A.depth < recursionLimit) (hgen : ∀ {H : Hp} {s : Shared}, Inv Z [] σ0 H s → s.heap.IsGen a gi) :
    ∀ (n : Nat) (s : Shared) (gs : GenState) (H : Hp), Inv Z [] σ0 H s → s.gens[gi]? = some gs →
      gs.Goes (model Z.prog Z.w) A.in1.in1 (RB fun s => ∃ H', Inv Z [] σ0 H' s ∧ QT H') (YB fun b s => ∃ H', Inv Z [] σ0 H' s ∧ (b = false → QF H')) n (.send .none) (s.setGen gi .running) →
      codeAny (model Z.prog Z.w) A (.builtin "all.loop" ⟨[.ref a], []⟩) (fun r s' => ∃ b H', r = .ok (.ret (.bool b)) ∧ Inv Z [] σ0 H' s' ∧ (if b = true then QT H' else QF H')) s := by
  intro n
  induction n with
  | zero =>
    intro s gs H I hgs hgo
    refine codeAny_builtin F.entry_all_loop ?_
    rw [Around.under_plainId F.plain_all_loop _]
    show wpAny _ A.in1 (pyNext (.ref a) >>= _) _ _ s
    refine wpAny_bind (next_genG (F := fun _ _ s => ∃ H', Inv Z [] σ0 H' s ∧ QT H') (Er := fun _ _ => False) hh I.nolimit hd (hgen I) hgs hgo (fun v s₁ gs' hb hv => ?_) (fun s₁ hp h' hk => ?_) fun _ _ z => z.elim)
    · obtain ⟨b, rfl, ⟨H1, I1, q1⟩, nx⟩ := hv
      refine wpAny_bind (wpAny_holding (wpAny_truthy_bool ?_))
      refine wpAny_bind (wpAny_letGo ?_)
      cases b with
      | true => exact (nx rfl s₁ ⟨rfl, I1.bare, fun _ _ e => e⟩).elim
      | false =>
        first
          | exact wpAny_pure ⟨false, H1, rfl, inv_wk I1 ⟨rfl, allBare_setGen I1.bare hb, fun _ _ e => e⟩, by simpa using q1 rfl⟩
          | (simp only [Bool.false_eq_true, if_false]; exact wpAny_pure ⟨false, H1, rfl, inv_wk I1 ⟨rfl, allBare_setGen I1.bare hb, fun _ _ e => e⟩, by simpa using q1 rfl⟩)
          | (simp only [Bool.false_eq_true, if_false]; exact wpAny_bind (wpAny_rule (wpAny_pure ⟨false, H1, rfl, inv_wk I1 ⟨rfl, allBare_setGen I1.bare hb, fun _ _ e => e⟩, by simpa using q1 rfl⟩)))
    · obtain ⟨H1, I1, q1⟩ := hp
      refine wpAny_bind (wpAny_rule (wpAny_pure ⟨true, H1, rfl, inv_wk I1 ⟨rfl, allBare_setGen I1.bare rfl, hk⟩, by simpa using q1⟩))
  | succ n ih =>
    intro s gs H I hgs hgo
    refine codeAny_builtin F.entry_all_loop ?_
    rw [Around.under_plainId F.plain_all_loop _]
    show wpAny _ A.in1 (pyNext (.ref a) >>= _) _ _ s
    have hsz : gi + 1 ≤ s.gens.size := by
      rcases Nat.lt_or_ge gi s.gens.size with h | h
      · exact h
      · rw [Array.getElem?_eq_none h] at hgs; cases hgs
    refine wpAny_bind (wpAny_gsz hsz (next_genG (F := fun _ _ s => ∃ H', Inv Z [] σ0 H' s ∧ QT H') (Er := fun _ _ => False) hh I.nolimit hd (hgen I) hgs hgo (fun v s₁ gs' hb hv => fun hs1 => ?_) (fun s₁ hp h' hk => fun _ => ?_) fun _ _ z => z.elim))
    · obtain ⟨b, rfl, ⟨H1, I1, q1⟩, nx⟩ := hv
      refine wpAny_bind (wpAny_holding (wpAny_truthy_bool ?_))
      refine wpAny_bind (wpAny_letGo ?_)
      have hs1' : gi < s₁.gens.size := by
        rw [setGen_size] at hs1
        exact hs1
      cases b with
      | true =>
        simp only [if_true]
        refine wpAny_pure ⟨plainId_quiet F.plain_all_loop _, ih _ gs' H1 (inv_wk I1 ⟨rfl, allBare_setGen I1.bare hb, fun _ _ e => e⟩) (setGen_at hs1') ?_⟩
        exact nx rfl _ ⟨rfl, allBare_setGen (allBare_setGen I1.bare hb) rfl, fun _ _ e => e⟩
      | false =>
        first
          | exact wpAny_pure ⟨false, H1, rfl, inv_wk I1 ⟨rfl, allBare_setGen I1.bare hb, fun _ _ e => e⟩, by simpa using q1 rfl⟩
          | (simp only [Bool.false_eq_true, if_false]; exact wpAny_pure ⟨false, H1, rfl, inv_wk I1 ⟨rfl, allBare_setGen I1.bare hb, fun _ _ e => e⟩, by simpa using q1 rfl⟩)
          | (simp only [Bool.false_eq_true, if_false]; exact wpAny_bind (wpAny_rule (wpAny_pure ⟨false, H1, rfl, inv_wk I1 ⟨rfl, allBare_setGen I1.bare hb, fun _ _ e => e⟩, by simpa using q1 rfl⟩)))
    · obtain ⟨H1, I1, q1⟩ := hp
      refine wpAny_bind (wpAny_rule (wpAny_pure ⟨true, H1, rfl, inv_wk I1 ⟨rfl, allBare_setGen I1.bare rfl, hk⟩, by simpa using q1⟩))
end

section
variable {X : Cx} {tg iter elt : Expr} {scope : Scope} {gpos p pos : Pos} {wi : TI} {g : TG} {te : TE} {own : List (Str × Nat)} {c P : Addr} {k : Nat}
/-- all(elt for target in iter): W by the turn and a measure, Nx what a turn is to reach -/
def tAll (P : Addr) (wi : TI) (g : TG) (te : TE) (vs : List Nat) : TE := fun σ H Q => wi σ H fun J H1 => TabG H1 P ∧ ∀ H2, Tabbed P H1 H2 → ∃ W : Nat → Nat → Hp → Prop, (∃ m, W 0 m H2) ∧ ∀ i m H, W i m H →
  (J.stop i H ∧ Q (.bl true) H) ∨ (J.go i H ∧ ∃ Nx : Hp → Prop, (∀ H', Nx H' → ∃ m', m' < m ∧ W (i + 1) m' H') ∧ ∀ x H', J.yld i H x H' → g x (wipe σ vs) H' fun σ2 H2 => wipe σ2 vs = wipe σ vs ∧
    te σ2 H2 fun y H4 => ∃ b, y = .bl b ∧ (if b = true then Nx H4 else Q (.bl false) H4))
theorem wipe_wipe {σ σ2 : L2.St} {vs : List Nat} (h : wipe σ2 vs = wipe σ vs) : (∀ (i : Nat) v, (wipe σ vs)[i]? = some (some v) → σ2[i]? = some (some v)) ∧ (wipe σ vs).length = σ2.length := by
  refine ⟨fun i v e => ?_, ?_⟩
  · rw [← h] at e
    exact (wipe_some e).1
  · rw [← h, wipe_length]
theorem pe_all (hr : Room (k + 1) X.A) (hc : X.calm = true) (hN : X.N.Nodup) (hg : Gl X "all") (hm : X.mg "all" = none) (hb : bootBuiltins "all" = some (.builtin "all")) (TB : LamX.TabB X.base X.mg c P) (hcode : X.env.code = .ref c) (hi : PI X tg iter wi) (ok : GenOk X.N X.env.scope scope own)
    (hpg : ∀ (s : Shared) (H : Hp) (C : Addr) (code : Value) (fp : List Addr) (pn : List (Addr × Obj)), PG (gen X (X.A.in1.in1.deeper (genv X scope C code)) s H (genv X scope C code) fp pn) tg g)
    (hpe : ∀ (s : Shared) (H : Hp) (C : Addr) (code : Value) (fp : List Addr) (pn : List (Addr × Obj)), Room k (X.A.in1.in1.deeper (genv X scope C code)) → PE (gen X (X.A.in1.in1.deeper (genv X scope C code)) s H (genv X scope C code) fp pn) elt te)
    (hs : ∀ v, genFold iter X.env v = pure v := by intro _; rfl)
    (he : starEach [.GeneratorExp elt [⟨tg, iter, [], 0⟩] scope gpos] X.env = (false, eval (.GeneratorExp elt [⟨tg, iter, [], 0⟩] scope gpos) X.env) :: starEach [] X.env := by rfl) :
    PE X (.Call (.Name "all" p) [.GeneratorExp elt [⟨tg, iter, [], 0⟩] scope gpos] [] pos) (tAll P wi g te (own.map (·.2))) := by
  refine ⟨fun pins s σ H Q I h => ?_⟩
  refine wpAny_Call_Name_kw (ld_blt I hg hm hb ?_)
  refine PyProof.Rows.callWith_builtin1 ?_ he (by rfl)
  rw [he]
  show wpAny _ _ (spliced ((false, eval (.GeneratorExp elt [⟨tg, iter, [], 0⟩] scope gpos) X.env) :: backTo pos (starEach [] X.env))) _ _ s
  refine Calls.spliced_cons ?_
  have hfree : ∀ y ∈ scope.names, y.2 = .free → ∃ c, X.env.cells.lookup y.1 = some c := fun y hy e => by
    rcases ok.blk.free y hy e with k | k
    · exact I.ok.has _ (.inl k)
    · exact I.ok.has _ (.inr k)
  refine wpAny_GeneratorExp_make ok.co (closure_ok hfree) ok.cell ok.dot ok.blk.kind hr.depth ?_ hs
  refine thn (hi.run pins s σ H _ I h) fun xv s1 h1 => thn h1 fun itv s2 h2 => ?_
  obtain ⟨it, fp, tn, J, H2, rfl, I2, T, st2, f2, tab2, q2⟩ := h2
  refine ⟨I2.nolimit, ?_⟩
  refine gcode TB hcode I2 tab2 fun code s3 H3 tb3 I3 sz3 kp3 => ?_
  refine gblt TB I3 ?_
  intro h' hn' hs'
  have nP : ∀ b, H2 b = none → b ≠ P := fun b e z => by
    obtain ⟨ps, e2, _⟩ := tab2
    rw [z, e2] at e
    cases e
  have f3 : ∀ b ∈ fp, FpOk X pins H3 b ∧ b < s3.heap.objs.size := fun b hb => by
    obtain ⟨o, e, _⟩ := T.obj _ _ st2 b hb
    have hP := nP b (f2 b hb).1
    refine ⟨⟨by rw [tb3.2 b hP]; exact (f2 b hb).1, (f2 b hb).2⟩, Heap.lt_size (kp3 b o hP e)⟩
  have st3 : tn 0 s3.heap := T.keep _ _ _ st2 fun b hb o e => kp3 b o (nP b (f2 b hb).1) e
  have hsz : h'.objs.size = s3.heap.objs.size + 1 := by rw [hs'.1, Heap.size_push]
  have keep' : ∀ b o, s3.heap.get? b = some o → h'.get? b = some o := fun b o e => hs'.extBut b o (Nat.ne_of_lt (Heap.lt_size e)) (Heap.get?_push_of_some _ e)
  generalize hgo : ({ cls := .type "generator", data := .fields #[.int s3.gens.size 0, .str "<genexpr>" (s3.toks + 1), .str (X.env.qual ++ "<genexpr>") (s3.toks + 1 + 1)] } : Obj) = go
  have hgoc : go.cls = .type "generator" ∧ go.data = .fields #[.int s3.gens.size 0, .str "<genexpr>" (s3.toks + 1), .str (X.env.qual ++ "<genexpr>") (s3.toks + 1 + 1)] ∧ go.slots = #[] := by rw [← hgo]; exact ⟨rfl, rfl, rfl⟩
  have hpush : (h'.push go).get? h'.objs.size = some go := by rw [← hgo]; exact Heap.get?_push_size _ rfl
  generalize hgi : s3.gens.size = gi at hgoc
  obtain ⟨W, ⟨m0, w0⟩, turn⟩ := q2 H3 tb3
  generalize hs5 : ({ s3 with gens := s3.gens.push (.fresh (.compStart (.GeneratorExp elt [⟨tg, iter, [], 0⟩] scope gpos) 0 (.ref it) .none (genEnv scope (cloFrom X.env.cells scope.names []) s3.heap.objs.size code builtinsNs X.env))), toks := s3.toks + 1 + 1 + 1, heap := h'.push go } : Shared) = s5
  have e5h : s5.heap = h'.push go := by rw [← hs5]
  have kp5 : ∀ b o, s3.heap.get? b = some o → s5.heap.get? b = some o := fun b o e => by rw [e5h]; exact Heap.get?_push_of_some _ (keep' b o e)
  have hns5 := hn'.push go
  rw [← e5h] at hns5
  have b5 : AllBare s5.gens := by rw [← hs5]; exact I3.bare.push rfl
  have os5 : s5.os = s3.os := by rw [← hs5]
  have g5 : s5.gens[gi]? = some (.fresh (.compStart (.GeneratorExp elt [⟨tg, iter, [], 0⟩] scope gpos) 0 (.ref it) .none (genv X scope s3.heap.objs.size code))) := by
    rw [← hs5, ← hgi]
    exact Array.getElem?_push_size ..
  have ha : s3.heap.objs.size < h'.objs.size := by rw [hsz]; exact Nat.lt_succ_self _
  have I5 := gen_start (code := code) (s5 := s5) I3 ok hN (show X.A.in1.in1.frames = some X.stack from I.ok.frames) (show X.A.in1.in1.handled = none from I.ok.hd hc) f3 kp5 hns5 os5 b5 ha (by rw [e5h]; exact hpush) (fun v q => by rw [hgoc.2.1] at q; cases q)
  have st5 : tn 0 s5.heap := T.keep _ _ _ st3 fun b _ o e => kp5 b o e
  have pg := hpg s3 H3 s3.heap.objs.size code fp [(h'.objs.size, go)]
  have pe := hpe s3 H3 s3.heap.objs.size code fp [(h'.objs.size, go)] ⟨hr.hd, by have := hr.dp; show X.A.depth + 1 + 3 * k + 5 < _; omega, by have := hr.un; show X.A.units + 1 + 1 + 3 + 16 * k + 200 < _; omega⟩
  generalize hZ : gen X (X.A.in1.in1.deeper (genv X scope s3.heap.objs.size code)) s3 H3 (genv X scope s3.heap.objs.size code) fp [(h'.objs.size, go)] = Z at I5 pg pe
  have zp : Z.prog = X.prog := by rw [← hZ]
  have zw : Z.w = X.w := by rw [← hZ]
  have zK : Z.K = X.K := by rw [← hZ]
  have ze : Z.env = genv X scope s3.heap.objs.size code := by rw [← hZ]
  have stat : ∀ {σ' : L2.St} {H' : Hp} {s' : Shared}, Inv Z [] σ' H' s' → (∀ b ∈ fp, H' b = none) → ∀ b ∈ fp, FpOk Z [] H' b := fun {σ' H' s'} I' hn b hb => by
    have hx : Z.ex = fp := by rw [← hZ]
    have hb' : b ∈ Z.ex := by rw [hx]; exact hb
    refine ⟨hn b hb, (I'.ok.exf b hb').1, I'.ok.exfs b hb', .inl hb', fun x c e => (I'.ok.exf b hb').2 x c e, fun p hp => ?_⟩
    have hpn : Z.pn = [(h'.objs.size, go)] := by rw [← hZ]
    rw [hpn] at hp
    have e : p = (h'.objs.size, go) := by simpa using hp
    rw [e]
    exact Nat.ne_of_gt (Nat.lt_trans (f3 b hb).2 ha)
  have hσ : ∀ σ2 : L2.St, wipe σ2 (own.map (·.2)) = wipe σ (own.map (·.2)) → ∀ (i : Nat) v, (wipe σ (own.map (·.2)))[i]? = some (some v) → σ2[i]? = some (some v) := fun σ2 e => (wipe_wipe e).1
  have hl : ∀ σ2 : L2.St, wipe σ2 (own.map (·.2)) = wipe σ (own.map (·.2)) → (wipe σ (own.map (·.2))).length = σ2.length := fun σ2 e => (wipe_wipe e).2
  have T' : Turn Z.prog Z.w Z.K tg J fp it tn := by rw [zp, zw, zK]; exact T
  have hgen : ∀ {H : Hp} {s : Shared}, Inv Z [] (wipe σ (own.map (·.2))) H s → s.heap.IsGen h'.objs.size gi := fun {H s} J => by
    have hpn : Z.pn = [(h'.objs.size, go)] := by rw [← hZ]
    have q := (J.pin (h'.objs.size, go) (by rw [hpn]; simp)).1
    exact ⟨go, _, _, q, hgoc.1, hgoc.2.1, hgoc.2.2⟩
  refine Calls.spliced_nil ?_
  refine call_function_tree F.kind_all F.plain_all F.entry_all (F.args_all1 _) ?_
  unfold Builtin.«all»
  refine wpAny_bind (m := oneArg "all" _) (wpAny_pure ?_)
  refine wpAny_bind (wpAny_pyIter_gen (s := s5) (hgen I5) ?_)
  refine wpAny_pure ⟨plainId_quiet F.plain_all_loop _, ?_⟩
  have seg := seg_gstart (A := X.A.in1.in1) (Z := Z) (iter := iter) (scope := scope) (gpos := gpos) (QT := Q (.bl true)) (QF := Q (.bl false)) (by rw [ze, ← hZ]) (by rw [← hZ]; exact hc) (fun e s z => by rw [← hZ] at z; exact z) (by rw [ze]; exact ok.co) T' pg pe hσ hl stat turn m0 (m0 + 1) (s5.setGen gi .running) (s5.setGen gi .running) H3
    (Nat.lt_succ_self _) (inv_wk I5 ⟨rfl, allBare_setGen b5 rfl, fun _ _ e => e⟩) st5 (fun b hb => (f3 b hb).1.1) w0
  have loop := all_loop (A := X.A) (Z := Z) (QT := Q (.bl true)) (QF := Q (.bl false)) (a := h'.objs.size) (gi := gi) hr.hd hr.depth hgen (m0 + 1) s5 _ H3 I5 g5 ⟨rfl, by rw [ze] at seg; exact seg⟩
  rw [zp, zw] at loop
  refine codeAny_mono loop fun r s' hq => ?_
  obtain ⟨b, H', rfl, I6, q6⟩ := hq
  have u6 : Un (frs X.stack) fp H3 H' s3.heap s'.heap := by
    have := I6.base
    rw [← hZ] at this
    exact this
  have o6 : s'.os = s3.os := by
    have := I6.os
    rw [← hZ] at this
    exact this
  have k6 : HOk X.prog X.w H' s'.heap := by
    have := I6.hok
    rw [zp, zw] at this
    exact this
  refine ⟨.bl b, H', I3.call' (ch := fp) o6 u6 k6 I6.bare fun b hb => ⟨(f3 b hb).1.2.2.2.1, (f3 b hb).1.2.1, (f3 b hb).1.2.2.2.2.1, (f3 b hb).1.2.2.2.2.2⟩, rfl, ?_⟩
  cases b with
  | true => simpa using q6
  | false => simpa using q6
end

/-- a reading of all(..) over what a Walk walks: Pv by the turn and the heap -/
theorem all_it {J : It} {n : Nat} {G : Hp → Prop} {Y : Nat → Hp → V → Hp → Prop} (w : Walk J n G Y) {g : TG} {te : TE} {vs : List Nat} {σ : L2.St} {H2 : Hp} {QT QF : Hp → Prop} (Pv : Nat → Hp → Prop) (h0 : Pv 0 H2) (hG : ∀ i H, i ≤ n → Pv i H → G H)
    (hs : ∀ i x H H', i < n → Pv i H → Y i H x H' → g x (wipe σ vs) H' fun σ2 H2 => wipe σ2 vs = wipe σ vs ∧ te σ2 H2 fun y H4 => ∃ b, y = .bl b ∧ (if b = true then Pv (i + 1) H4 else QF H4)) (hd : ∀ H, Pv n H → QT H) :
    ∃ W : Nat → Nat → Hp → Prop, (∃ m, W 0 m H2) ∧ ∀ i m H, W i m H →
      (J.stop i H ∧ QT H) ∨ (J.go i H ∧ ∃ Nx : Hp → Prop, (∀ H', Nx H' → ∃ m', m' < m ∧ W (i + 1) m' H') ∧ ∀ x H', J.yld i H x H' → g x (wipe σ vs) H' fun σ2 H2 => wipe σ2 vs = wipe σ vs ∧
        te σ2 H2 fun y H4 => ∃ b, y = .bl b ∧ (if b = true then Nx H4 else QF H4)) := by
  refine ⟨fun i m H => m = n - i ∧ i ≤ n ∧ Pv i H, ⟨n, rfl, Nat.zero_le _, h0⟩, ?_⟩
  rintro i m H ⟨rfl, hi, p⟩
  have q := hG i H hi p
  by_cases hlt : i < n
  · refine .inr ⟨w.goes i H hlt q, Pv (i + 1), fun H' p' => ⟨n - (i + 1), by omega, rfl, hlt, p'⟩, fun x H' y => hs i x H H' hlt p (w.yields i H x H' hlt q y)⟩
  · have e : i = n := by omega
    subst e
    exact .inl ⟨w.stops H q, hd H p⟩
/-- a def of the text whose code object stands at c -/
structure FunC (K : PySem.W.Frag) (x qual : Str) (st : Stmt) (f : Addr) (fd : FuncData) (c : Addr) : Prop where
  ex : ∃ (oc : Value) (od : Option Addr) (kV doc pm : Value) (an : Option Addr) (ct : Value) (osl : Array (Option Value)),
    fd = PySem.W.fnOf x qual (defArgs st) (defBody st) (defScope st) .none kV doc pm an (.ref c) ct ∧ K.lookup f = some ⟨oc, od, .func fd, osl⟩ ∧ PySem.W.codeIn K (.ref c) qual = true
  kp : PySem.W.keepIn K (.ref f) = true
section
variable {P : Program} {w : World} {K : PySem.W.Frag} {mg : Str → Option Value} {base : Heap}
theorem FunC.ok {x qual : Str} {st : Stmt} {f c : Addr} {fd : FuncData} {N ps : List Str} {k : Nat} {sp : Sp} (F : FunC K x qual st f fd c) (S : FnScope N ps (defScope st)) (len : ∀ vs H Q E, sp vs H Q E → vs.length = ps.length)
    (hbody : ∀ (A : Around) (outer : List Env) (s : Shared) (H : Hp) (vs : List V) (Q : VK) (E : XK), Room k (A.deeper (envOfC qual (defScope st) s.heap.objs.size f (.ref c))) → sp vs H Q E →
      ∃ t, PSs (cxOf CX0 P w K mg base N qual (defScope st) f (.ref c) A outer s H E).nox (defBody st) t ∧ t { nx := fun _ H' => Q .non H', rt := Q } (start N vs) H) : FnOk P w K mg base CX0 (k + 1) f fd ps sp := by
  obtain ⟨oc, od, kV, doc, pm, an, ct, osl, rfl, lk, hcd⟩ := F.ex
  refine fn_of lk hcd S len fun A outer s H vs Q E hr hsp => ?_
  obtain ⟨t, h, q⟩ := hbody A outer s H vs Q E hr hsp
  exact ⟨t, h.nox, q⟩
theorem FunC.binds {x qual : Str} {st : Stmt} {f c : Addr} {fd : FuncData} {ps : List Str} (F : FunC K x qual st f fd c)
    (h : ∀ (kV doc pm : Value) (an : Option Addr) (cdv ct : Value) (us : List Value), us.length = ps.length → bindArgs (PySem.W.fnOf x qual (defArgs st) (defBody st) (defScope st) .none kV doc pm an cdv ct) ⟨us, []⟩ = pure (ps.zip us)) : Binds K fd ps [] := by
  obtain ⟨oc, od, kV, doc, pm, an, ct, osl, rfl, lk, hcd⟩ := F.ex
  exact .all (h kV doc pm an (.ref c) ct)
theorem func_mk {x qual : Str} {st : Stmt} {f c : Addr} {oc : Value} {od an : Option Addr} {osl : Array (Option Value)} {kV doc pm ct : Value} (l : K.lookup f = some ⟨oc, od, .func (PySem.W.fnOf x qual (defArgs st) (defBody st) (defScope st) .none kV doc pm an (.ref c) ct), osl⟩)
    (k1 : PySem.W.codeIn K (.ref c) qual = true) (k : PySem.W.keepIn K (.ref f) = true) : FunC K x qual st f (PySem.W.fnOf x qual (defArgs st) (defBody st) (defScope st) .none kV doc pm an (.ref c) ct) c := ⟨⟨oc, od, kV, doc, pm, an, ct, osl, rfl, l, k1⟩, k⟩
end
/-! ### the end of a law whose defs hold generator expressions -/
def GTab (q : Program) (K : PySem.W.Frag) (h : Heap) : Prop := ∀ (x : Str) (c P : Addr), ((recsOf q).find? fun e => e.name == x).isSome = true → PySem.W.tabIn K x = some (c, P) → PySem.W.CodeHd h c P ∧ h.get? P = some { cls := .none, data := .fields #[] }
theorem tab_by {K : PySem.W.Frag} {x : Str} {f c P : Addr} {oc oq : Value} {od dq : Option Addr} {fd : FuncData} {sl sq : Array (Option Value)} {vq : Array Value} (a : PySem.W.nsIn K mainGlobals x = some (some (.ref f))) (l : K.lookup f = some ⟨oc, od, .func fd, sl⟩) (e : fd.code = .ref c) (q : K.lookup c = some ⟨oq, dq, .fields vq, sq⟩) (v : vq[11]? = some (.ref P)) : PySem.W.tabIn K x = some (c, P) := by
  unfold PySem.W.tabIn
  rw [a]
  simp only [l, e, q, v]
theorem walk_ofG {l : PySem.W.OpenLaw} {n k : Nat} {q : Program} {loose : List Str} {XP : (Str → Option Value) → Heap → Prop} {YP : World → Heap → Prop} {d : DefRec} {K : Params → PySem.W.Frag} {CX : World → CXT} {x : Str}
    (hn : l.most = some n) (hn2 : n ≤ sizeLine) (hdf : d.params.defaults = []) (hr : Room k callerA) (hY : ∀ (w : World) (h : Heap), YP w h → (K w.params).In h)
    (F : ∀ (w : World) (mg : Str → Option Value) (fa : Addr) (h : Heap), YP w h → (K w.params).In h → h.Ns mainGlobals mg → mg d.name = some (.ref fa) → GTab q (K w.params) h → LamX.LawAtS l w (K w.params) (CX w) k n x mg fa h)
    (hCX : ∀ (w : World) (H : Hp) (s : Shared) (e : Value) (s' : Shared), CX w [] H s (fun _ _ _ => False) e s' → False) :
    PySem.W.WalkO q loose XP YP l.row.toRowW d [] (fun f vs => PySem.call f vs) := by
  refine Att.attach_callB hn hdf fun w s₀ s₁ mg mb fa o pm cd doc a vs ns G Y ho hd hcd hmg hobj hints hlen hbits hg => ?_
  have KX := hY w _ Y
  have gt : GTab q (K w.params) s₁.heap := fun x c P hr ht => by
    obtain ⟨d2, hd2⟩ := Option.isSome_iff_exists.mp hr
    exact PySem.W.tab_of (mb := mb) G.T KX hd2 ht
  obtain ⟨fd, cs, sp, hT, nT, C, hb, hsp, hF⟩ := F w mg fa _ Y KX G.T.g hmg gt
  exact LamX.law_callTs KX G.T.g G.T.b G.T.builtins G.T.nolimit hg hT nT C G.T.bmain hobj hints (Nat.le_trans hlen hn2) hr hF hb (fun H hH hS => hsp H a ns hlen hbits hH hS) fun H e s' => hCX w H s₁ e s'
end GA

set_option Elab.async false
set_option linter.all false
set_option maxRecDepth 100000
/-! a field of an instance as one of several targets; a method that may raise, called in a try; an expression that is never come to -/
namespace Fl
open PySem PySem.Spec PyProof.Rows L2
section
variable {X : Cx} {pos : Pos}
/-- o.f = v -/
def gFld (K : PySem.W.Frag) (to : TE) (f : Str) : TG := fun v σ H Q => to σ H fun x H1 => ∃ a C dx fs, x = .ref a ∧ H1 a = some (.ins C dx fs) ∧ Cls K C ∧ NoAttr K C f ∧ fs.length < 1000 ∧ Q σ (upd H1 a (.ins C dx (putF f v fs)))
theorem pg_fld {o : Expr} {to : TE} {f : Str} (ho : PE X o to) : PG X (.Attribute o f pos) (gFld X.K to f) where
  run := by
    intro pins s σ H v u Q I r h
    rw [assign_Attribute]
    refine wpAny_bind (wpAny_holding (thn (ho.run pins s σ H _ I h) ?_))
    rintro ov s1 ⟨x, H1, I1, r1, a, C, dx, fs, rfl, ea, c, n, l, q⟩
    cases r1
    refine wpAny_bind (wpAny_standAt (wpAny_bind (wpAny_holding ?_)))
    exact setattr_ok I1 ea c n l r fun s2 I2 => wpAny_release ⟨σ, _, I2, q⟩
/-- an expression that is never come to -/
def tNo : TE := fun _ _ _ => False
theorem pe_no {e : Expr} : PE X e tNo where
  run := fun _ _ _ _ _ _ h => absurd h id
/-- o.m(..), with what it raises read at the slots -/
def tMethAt (C : Addr) (m : Str) (sp : Sp) (E : L2.St → XK) (ta : TE) (t : TA) : TE := fun σ H Q => tMeth C m sp [] (E σ) ta t σ H Q
section
variable {CX : CXT} {k : Nat} {f C : Addr} {fd : FuncData} {ps : List Str} {sp : Sp} {E : L2.St → XK} {m : Str} {apos : Pos} {e o : Expr} {es : List Expr} {ta : TE} {t : TA} {pl : Sem Bool}
theorem pe_methT (he : PE X o ta) (c : Cls X.K C) (hm : Meth X.K C m f) (F : FnOk X.prog X.w X.K X.mg X.base CX k f fd ps sp) (hr : Room k X.A) (hb : Binds X.K fd ps []) (hx : ∀ σ, PassesAt CX X σ (E σ)) (ha : PA X (e :: es) t)
    (hs : starEach (e :: es) X.env = (false, eval e X.env) :: starEach es X.env := by rfl) (hp : (backTo pos (starEach es X.env)).any (·.1) = false := by rfl)
    (ht : eval (.Call (.Attribute o m apos) (e :: es) [] pos) X.env = (do let ov ← eval o X.env; standAt apos.atName; let (f, first) ← holding [ov] (getMethod ov m pl); callWith pos f first (backTo pos (starEach (e :: es) X.env)) (backToKw pos (keywordEach [] X.env))) := by rfl) :
    PE X (.Call (.Attribute o m apos) (e :: es) [] pos) (tMethAt C m sp E ta t) where
  run := by
    intro pins s σ H Q I h
    refine PySem.W.methodCall_KW (pl := pl) (thn (he.run pins s σ H _ I h) ?_) ht
    rintro u s1 ⟨x, H1, I1, rx, a, dx, fs, rfl, ea, l, q⟩
    cases rx
    refine getmeth_ok I1 ea c hm l (PySem.W.callWith_K (first := [.ref a]) (h₀ := X.base) I.ok.mod.kin hm.kp (thn (ha.run pos pins s1 σ H1 _ I1 q) ?_) hs hp)
    rintro us s2 ⟨vs, H2, I2, r, q2⟩
    rw [List.append_nil] at q2
    exact ⟨I2.kIn, run_fnS (us := .ref a :: us) (vs := .ref a :: vs) F hr hb (hx σ) I2 (.cons rfl r) q2⟩
theorem pe_methT0 (he : PE X o ta) (c : Cls X.K C) (hm : Meth X.K C m f) (F : FnOk X.prog X.w X.K X.mg X.base CX k f fd ps sp) (hr : Room k X.A) (hb : Binds X.K fd ps []) (hx : ∀ σ, PassesAt CX X σ (E σ))
    (ht : eval (.Call (.Attribute o m apos) [] [] pos) X.env = (do let ov ← eval o X.env; standAt apos.atName; let (f, first) ← holding [ov] (getMethod ov m pl); callWith pos f first (backTo pos (starEach [] X.env)) (backToKw pos (keywordEach [] X.env))) := by rfl) :
    PE X (.Call (.Attribute o m apos) [] [] pos) (tMethAt C m sp E ta tNil) where
  run := by
    intro pins s σ H Q I h
    refine PySem.W.methodCall_KW (pl := pl) (thn (he.run pins s σ H _ I h) ?_) ht
    rintro u s1 ⟨x, H1, I1, rx, a, dx, fs, rfl, ea, l, q⟩
    cases rx
    exact getmeth_ok I1 ea c hm l (PySem.W.callWith_K0 (first := [.ref a]) I1.kIn hm.kp (run_fnS (us := [.ref a]) (vs := [.ref a]) F hr hb (hx σ) I1 (.cons rfl .nil) q))
end
end
end Fl

set_option Elab.async false
set_option linter.all false
set_option maxRecDepth 100000
set_option maxHeartbeats 4000000
namespace K17
open PySem PySem.Spec PyProof.Rows L2 QX
def topS (i : Nat) : Stmt := PySem.Challenge.pw_quietsmith_k17_work_and_calls.main.body.getD i (.Pass ⟨0, 0, 0, 0⟩)
abbrev s_work_of_body : Stmt := topS 18
abbrev n_work_of_body : List Str := ["body", "works", "statement"]
theorem sc_work_of_body : FnScope ["body", "works", "statement"] ["body", "works"] (defScope s_work_of_body) := ⟨rfl, rfl, rfl, by decide +kernel, rfl, by decide +kernel, by decide +kernel⟩
abbrev s_work_of_statement : Stmt := topS 19
abbrev n_work_of_statement : List Str := ["statement", "works", "head", "_", "first", "last", "body", "other"]
theorem sc_work_of_statement : FnScope ["statement", "works", "head", "_", "first", "last", "body", "other"] ["statement", "works"] (defScope s_work_of_statement) := ⟨rfl, rfl, rfl, by decide +kernel, rfl, by decide +kernel, by decide +kernel⟩
abbrev s_check_program : Stmt := topS 23
abbrev n_check_program : List Str := ["program", "before", "works", "function", "name", "params", "results", "others", "body"]
theorem sc_check_program : FnScope ["program", "before", "works", "function", "name", "params", "results", "others", "body"] ["program"] (defScope s_check_program) := ⟨rfl, rfl, rfl, by decide +kernel, rfl, by decide +kernel, by decide +kernel⟩
abbrev s_need_range : Stmt := topS 24
abbrev n_need_range : List Str := ["most", "greatest"]
theorem sc_need_range : FnScope ["most", "greatest"] ["most", "greatest"] (defScope s_need_range) := ⟨rfl, rfl, rfl, by decide +kernel, rfl, by decide +kernel, by decide +kernel⟩
abbrev s_need_fit : Stmt := topS 25
abbrev n_need_fit : List Str := ["rated", "variable", "flow", "most", "_", "variable_flow", "variable_most"]
theorem sc_need_fit : FnScope ["rated", "variable", "flow", "most", "_", "variable_flow", "variable_most"] ["rated", "variable"] (defScope s_need_fit) := ⟨rfl, rfl, rfl, by decide +kernel, rfl, by decide +kernel, by decide +kernel⟩
abbrev s_Checker_init : Stmt := inClass (topS 26) 0
abbrev n_Checker_init : List Str := ["self", "variables", "before", "variable"]
theorem sc_Checker_init : FnScope ["self", "variables", "before", "variable"] ["self", "variables", "before"] (defScope s_Checker_init) := ⟨rfl, rfl, rfl, by decide +kernel, rfl, by decide +kernel, by decide +kernel⟩
abbrev s_Checker_body : Stmt := inClass (topS 26) 1
abbrev n_Checker_body : List Str := ["self", "body", "statement"]
theorem sc_Checker_body : FnScope ["self", "body", "statement"] ["self", "body"] (defScope s_Checker_body) := ⟨rfl, rfl, rfl, by decide +kernel, rfl, by decide +kernel, by decide +kernel⟩
abbrev s_Checker_statement : Stmt := inClass (topS 26) 2
abbrev n_Checker_statement : List Str := ["self", "statement", "head", "_", "name", "value", "rated", "index", "row", "condition", "body", "other", "flow"]
theorem sc_Checker_statement : FnScope ["self", "statement", "head", "_", "name", "value", "rated", "index", "row", "condition", "body", "other", "flow"] ["self", "statement"] (defScope s_Checker_statement) := ⟨rfl, rfl, rfl, by decide +kernel, rfl, by decide +kernel, by decide +kernel⟩
abbrev s_Checker_loop : Stmt := inClass (topS 26) 3
abbrev n_Checker_loop : List Str := ["self", "statement", "_", "name", "last", "body"]
theorem sc_Checker_loop : FnScope ["self", "statement", "_", "name", "last", "body"] ["self", "statement"] (defScope s_Checker_loop) := ⟨rfl, rfl, rfl, by decide +kernel, rfl, by decide +kernel, by decide +kernel⟩
abbrev s_Checker_call : Stmt := inClass (topS 26) 4
abbrev n_Checker_call : List Str := ["self", "statement", "_", "targets", "name", "arguments", "params", "results", "argument", "param", "target", "result", "flow", "most", "size"]
theorem sc_Checker_call : FnScope ["self", "statement", "_", "targets", "name", "arguments", "params", "results", "argument", "param", "target", "result", "flow", "most", "size"] ["self", "statement"] (defScope s_Checker_call) := ⟨rfl, rfl, rfl, by decide +kernel, rfl, by decide +kernel, by decide +kernel⟩
abbrev s_Checker_argument : Stmt := inClass (topS 26) 5
abbrev n_Checker_argument : List Str := ["self", "argument", "param", "size"]
theorem sc_Checker_argument : FnScope ["self", "argument", "param", "size"] ["self", "argument", "param"] (defScope s_Checker_argument) := ⟨rfl, rfl, rfl, by decide +kernel, rfl, by decide +kernel, by decide +kernel⟩
abbrev s_Checker_variable : Stmt := inClass (topS 26) 6
abbrev n_Checker_variable : List Str := ["self", "name"]
theorem sc_Checker_variable : FnScope ["self", "name"] ["self", "name"] (defScope s_Checker_variable) := ⟨rfl, rfl, rfl, by decide +kernel, rfl, by decide +kernel, by decide +kernel⟩
abbrev s_Checker_sized : Stmt := inClass (topS 26) 7
abbrev n_Checker_sized : List Str := ["self", "name", "size", "variable"]
theorem sc_Checker_sized : FnScope ["self", "name", "size", "variable"] ["self", "name", "size"] (defScope s_Checker_sized) := ⟨rfl, rfl, rfl, by decide +kernel, rfl, by decide +kernel, by decide +kernel⟩
abbrev s_Checker_changed : Stmt := inClass (topS 26) 9
abbrev n_Checker_changed : List Str := ["self", "name", "size", "variable"]
theorem sc_Checker_changed : FnScope ["self", "name", "size", "variable"] ["self", "name", "size"] (defScope s_Checker_changed) := ⟨rfl, rfl, rfl, by decide +kernel, rfl, by decide +kernel, by decide +kernel⟩
abbrev s_Checker_expression : Stmt := inClass (topS 26) 11
abbrev n_Checker_expression : List Str := ["self", "expression", "head", "row", "flow", "_"]
theorem sc_Checker_expression : FnScope ["self", "expression", "head", "row", "flow", "_"] ["self", "expression"] (defScope s_Checker_expression) := ⟨rfl, rfl, rfl, by decide +kernel, rfl, by decide +kernel, by decide +kernel⟩
abbrev s_law_draws : Stmt := topS 28
abbrev n_law_draws : List Str := ["script", "start", "most", "draws", "cell", "number", "mixed", "k"]
theorem sc_law_draws : FnScope ["script", "start", "most", "draws", "cell", "number", "mixed", "k"] ["script", "start", "most"] (defScope s_law_draws) := ⟨rfl, rfl, rfl, by decide +kernel, rfl, by decide +kernel, by decide +kernel⟩
abbrev s_law_next : Stmt := topS 29
abbrev n_law_next : List Str := ["draws"]
theorem sc_law_next : FnScope ["draws"] ["draws"] (defScope s_law_next) := ⟨rfl, rfl, rfl, by decide +kernel, rfl, by decide +kernel, by decide +kernel⟩
abbrev s_law_reason : Stmt := topS 30
abbrev n_law_reason : List Str := ["program", "error"]
theorem sc_law_reason : FnScope ["program", "error"] ["program"] (defScope s_law_reason) := ⟨rfl, rfl, rfl, by decide +kernel, rfl, by decide +kernel, by decide +kernel⟩
abbrev s_law_work : Stmt := topS 31
abbrev n_law_work : List Str := ["body", "known", "total", "row"]
theorem sc_law_work : FnScope ["body", "known", "total", "row"] ["body", "known"] (defScope s_law_work) := ⟨rfl, rfl, rfl, by decide +kernel, rfl, by decide +kernel, by decide +kernel⟩
abbrev s_law_body : Stmt := topS 32
abbrev n_law_body : List Str := ["draws", "calls", "depth", "rows", "k", "draw", "first"]
theorem sc_law_body : FnScope ["draws", "calls", "depth", "rows", "k", "draw", "first"] ["draws", "calls", "depth"] (defScope s_law_body) := ⟨rfl, rfl, rfl, by decide +kernel, rfl, by decide +kernel, by decide +kernel⟩
abbrev s_law_bad_calls : Stmt := topS 33
abbrev n_law_bad_calls : List Str := ["s", "p"]
theorem sc_law_bad_calls : FnScope ["s", "p"] [] (defScope s_law_bad_calls) := ⟨rfl, rfl, rfl, by decide +kernel, rfl, by decide +kernel, by decide +kernel⟩
abbrev s_law : Stmt := topS 34
abbrev n_law : List Str := ["script", "draws", "draw", "params", "result", "known", "functions", "due", "k", "body", "more", "call", "reason", "taken", "wrong"]
theorem sc_law : FnScope ["script", "draws", "draw", "params", "result", "known", "functions", "due", "k", "body", "more", "call", "reason", "taken", "wrong"] ["script"] (defScope s_law) := ⟨rfl, rfl, rfl, by decide +kernel, rfl, by decide +kernel, by decide +kernel⟩
abbrev i_BadProgram : Stmt := inClass (topS 2) 0
theorem sc_BadProgram : ScS ["self", "reason"] (defScope i_BadProgram) := ⟨rfl, rfl, rfl, by decide +kernel, by decide +kernel, by decide +kernel, by decide +kernel, rfl, rfl⟩
structure Tx (P : Program) (K : PySem.W.Frag) (mg : Str → Option Value) where
  E_BadProgram : Err P K mg "BadProgram" "BadProgram.__init__" i_BadProgram ["self", "reason"] ["reason"]
  c_QuietError : Addr
  g_QuietError : mg "QuietError" = some (.ref c_QuietError)
  te_BadProgram : PySem.W.exmOne K (.ref E_BadProgram.C) (.ref E_BadProgram.C) = some true
  c_Checker : Addr
  g_Checker : mg "Checker" = some (.ref c_Checker)
  cl_Checker : Cls K c_Checker
  no_Checker_known : NoAttr K c_Checker "known"
  no_Checker_turning : NoAttr K c_Checker "turning"
  no_Checker_before : NoAttr K c_Checker "before"
  a_work_of_body : Addr
  d_work_of_body : FuncData
  F_work_of_body : Fun K "work_of_body" "work_of_body" s_work_of_body a_work_of_body d_work_of_body
  b_work_of_body : Binds K d_work_of_body ["body", "works"] []
  g_work_of_body : mg "work_of_body" = some (.ref a_work_of_body)
  a_work_of_statement : Addr
  d_work_of_statement : FuncData
  F_work_of_statement : Fun K "work_of_statement" "work_of_statement" s_work_of_statement a_work_of_statement d_work_of_statement
  b_work_of_statement : Binds K d_work_of_statement ["statement", "works"] []
  g_work_of_statement : mg "work_of_statement" = some (.ref a_work_of_statement)
  a_check_program : Addr
  d_check_program : FuncData
  F_check_program : Fun K "check_program" "check_program" s_check_program a_check_program d_check_program
  b_check_program : Binds K d_check_program ["program"] []
  g_check_program : mg "check_program" = some (.ref a_check_program)
  a_need_range : Addr
  d_need_range : FuncData
  F_need_range : Fun K "need_range" "need_range" s_need_range a_need_range d_need_range
  b_need_range : Binds K d_need_range ["most", "greatest"] []
  g_need_range : mg "need_range" = some (.ref a_need_range)
  a_need_fit : Addr
  d_need_fit : FuncData
  F_need_fit : Fun K "need_fit" "need_fit" s_need_fit a_need_fit d_need_fit
  b_need_fit : Binds K d_need_fit ["rated", "variable"] []
  g_need_fit : mg "need_fit" = some (.ref a_need_fit)
  a_Checker_init : Addr
  d_Checker_init : FuncData
  F_Checker_init : Fun K "__init__" "Checker.__init__" s_Checker_init a_Checker_init d_Checker_init
  b_Checker_init : Binds K d_Checker_init ["self", "variables", "before"] []
  mk_Checker : Mk K c_Checker a_Checker_init
  a_Checker_body : Addr
  d_Checker_body : FuncData
  F_Checker_body : Fun K "body" "Checker.body" s_Checker_body a_Checker_body d_Checker_body
  b_Checker_body : Binds K d_Checker_body ["self", "body"] []
  m_Checker_body : Meth K c_Checker "body" a_Checker_body
  a_Checker_statement : Addr
  d_Checker_statement : FuncData
  F_Checker_statement : Fun K "statement" "Checker.statement" s_Checker_statement a_Checker_statement d_Checker_statement
  b_Checker_statement : Binds K d_Checker_statement ["self", "statement"] []
  m_Checker_statement : Meth K c_Checker "statement" a_Checker_statement
  a_Checker_loop : Addr
  d_Checker_loop : FuncData
  F_Checker_loop : Fun K "loop" "Checker.loop" s_Checker_loop a_Checker_loop d_Checker_loop
  b_Checker_loop : Binds K d_Checker_loop ["self", "statement"] []
  m_Checker_loop : Meth K c_Checker "loop" a_Checker_loop
  a_Checker_call : Addr
  d_Checker_call : FuncData
  F_Checker_call : Fun K "call" "Checker.call" s_Checker_call a_Checker_call d_Checker_call
  b_Checker_call : Binds K d_Checker_call ["self", "statement"] []
  m_Checker_call : Meth K c_Checker "call" a_Checker_call
  a_Checker_argument : Addr
  d_Checker_argument : FuncData
  F_Checker_argument : Fun K "argument" "Checker.argument" s_Checker_argument a_Checker_argument d_Checker_argument
  b_Checker_argument : Binds K d_Checker_argument ["self", "argument", "param"] []
  m_Checker_argument : Meth K c_Checker "argument" a_Checker_argument
  a_Checker_variable : Addr
  d_Checker_variable : FuncData
  F_Checker_variable : Fun K "variable" "Checker.variable" s_Checker_variable a_Checker_variable d_Checker_variable
  b_Checker_variable : Binds K d_Checker_variable ["self", "name"] []
  m_Checker_variable : Meth K c_Checker "variable" a_Checker_variable
  a_Checker_sized : Addr
  d_Checker_sized : FuncData
  F_Checker_sized : Fun K "sized" "Checker.sized" s_Checker_sized a_Checker_sized d_Checker_sized
  b_Checker_sized : Binds K d_Checker_sized ["self", "name", "size"] []
  m_Checker_sized : Meth K c_Checker "sized" a_Checker_sized
  a_Checker_changed : Addr
  d_Checker_changed : FuncData
  F_Checker_changed : Fun K "changed" "Checker.changed" s_Checker_changed a_Checker_changed d_Checker_changed
  b_Checker_changed : Binds K d_Checker_changed ["self", "name", "size"] []
  m_Checker_changed : Meth K c_Checker "changed" a_Checker_changed
  a_Checker_expression : Addr
  d_Checker_expression : FuncData
  F_Checker_expression : Fun K "expression" "Checker.expression" s_Checker_expression a_Checker_expression d_Checker_expression
  b_Checker_expression : Binds K d_Checker_expression ["self", "expression"] []
  m_Checker_expression : Meth K c_Checker "expression" a_Checker_expression
  a_law_draws : Addr
  d_law_draws : FuncData
  F_law_draws : Fun K "_law_draws" "_law_draws" s_law_draws a_law_draws d_law_draws
  b_law_draws : Binds K d_law_draws ["script", "start", "most"] []
  g_law_draws : mg "_law_draws" = some (.ref a_law_draws)
  a_law_next : Addr
  d_law_next : FuncData
  F_law_next : Fun K "_law_next" "_law_next" s_law_next a_law_next d_law_next
  b_law_next : Binds K d_law_next ["draws"] []
  g_law_next : mg "_law_next" = some (.ref a_law_next)
  a_law_reason : Addr
  d_law_reason : FuncData
  F_law_reason : Fun K "_law_reason" "_law_reason" s_law_reason a_law_reason d_law_reason
  b_law_reason : Binds K d_law_reason ["program"] []
  g_law_reason : mg "_law_reason" = some (.ref a_law_reason)
  a_law_work : Addr
  d_law_work : FuncData
  F_law_work : Fun K "_law_work" "_law_work" s_law_work a_law_work d_law_work
  b_law_work : Binds K d_law_work ["body", "known"] []
  g_law_work : mg "_law_work" = some (.ref a_law_work)
  a_law_body : Addr
  d_law_body : FuncData
  F_law_body : Fun K "_law_body" "_law_body" s_law_body a_law_body d_law_body
  b_law_body : Binds K d_law_body ["draws", "calls", "depth"] []
  g_law_body : mg "_law_body" = some (.ref a_law_body)
  a_law_bad_calls : Addr
  d_law_bad_calls : FuncData
  F_law_bad_calls : Fun K "_law_bad_calls" "_law_bad_calls" s_law_bad_calls a_law_bad_calls d_law_bad_calls
  b_law_bad_calls : Binds K d_law_bad_calls [] []
  g_law_bad_calls : mg "_law_bad_calls" = some (.ref a_law_bad_calls)
  a_law : Addr
  d_law : FuncData
  F_law : Fun K "law" "law" s_law a_law d_law
  b_law : Binds K d_law ["script"] []
  g_law : mg "law" = some (.ref a_law)
  t_MOST_WORK : Tok
  g_MOST_WORK : mg "MOST_WORK" = some (.int (20000) t_MOST_WORK)
  r_MOST_WORK : RelV (.int (20000)) (.int (20000) t_MOST_WORK)
  z_abs : mg "abs" = none
  z_int : mg "int" = none
  z_len : mg "len" = none
  z_max : mg "max" = none
  z_range : mg "range" = none
  z_sum : mg "sum" = none
  z_tuple : mg "tuple" = none
  z_zip : mg "zip" = none
  z_super : mg "super" = none

/-! ### the promises -/
/-- BadProgram(r) goes out -/
def Rz (C : Addr) (r : Str) (H : Hp) (E : XK) : Prop := ∀ d G, H d = none → (∀ b o, H b = some o → G b = some o) → G d = some (.xd [("reason", .str r)]) → E (.ref C) (some d) G
/-- what a def of the checker answers, or the reason that it raises -/
def Out {α : Type} (C : Addr) (H : Hp) (E : XK) (q : α → Prop) : Except Str α → Prop
  | .ok x => q x
  | .error r => Rz C r H E
theorem Rz.out {C : Addr} {r : Str} {H0 H : Hp} {E : XK} (h : Rz C r H0 E) (s0 : Same H0 H) (sr : r.length ≤ 1000) :
    ([V.str r] : List V).length ≤ 1000 ∧ ∀ a, H a = none → spI1 C "reason" (.ref a :: ([V.str r] ++ [])) (upd H a (exo a C none)) (fun x H2 => x = .non ∧ ∃ (d : Addr) (fs : List (Str × V)), H2 a = some (exo a C (some d)) ∧ H2 d = some (exd d fs) ∧ H d = none ∧ E (.ref C) (some d) (upd (del H2 a) d (.xd fs))) fun _ _ _ => False :=
  mkO1_of (v := .str r) sr fun d G hd s1 e => h d G (s0.free hd) (fun b o hb => s1 b o (s0 b o hb)) e
def rangeM (most greatest : Int) : Except Str Unit := if most > greatest then .error "range" else .ok ()
def fitM (fl : Str) (most : Int) (vfl : Str) (vmost : Int) : Except Str Unit := if fl = "secret" ∧ vfl = "public" then .error "flow" else rangeM most vmost
def spRange (C : Addr) : Sp := fun vs H Q E => ∃ (H0 : Hp) (m g : Int), vs = [.int m, .int g] ∧ Same H0 H ∧ Out C H0 E (fun _ => Q .non H) (rangeM m g)
def VarAt (K : PySem.W.Frag) (H : Hp) (a : Addr) (n fl : Str) (most size : Int) : Prop := SqT K H a [.str n, .str fl, .int most, .int size]
def spFit (K : PySem.W.Frag) (C : Addr) : Sp := fun vs H Q E => ∃ (H0 : Hp) (a b : Addr) (fl : Str) (m : Int) (n vfl : Str) (vm size : Int), vs = [.ref a, .ref b] ∧ Same H0 H ∧ SqT K H a [.str fl, .int m] ∧ VarAt K H b n vfl vm size ∧ Out C H0 E (fun _ => Q .non H) (fitM fl m vfl vm)
/-- the checker at p: its dicts -/
structure CkAt (C : Addr) (H : Hp) (p kn tu be : Addr) : Prop where
  at_ : ∃ dx fs, H p = some (.ins C dx fs) ∧ fs.lookup ("known" : Str) = some (V.ref kn) ∧ fs.lookup ("turning" : Str) = some (V.ref tu) ∧ fs.lookup ("before" : Str) = some (V.ref be) ∧ ∀ m, m ∈ ([("body" : Str), "statement", "loop", "call", "argument", "variable", "sized", "row", "changed", "check_index", "expression", "operation"] : List Str) → fs.lookup m = none
structure Vr where
  fl : Str
  most : Int
  size : Int
/-- the variables of a body, as a row -/
def Env := List (Str × Vr)
def sizedM (env : List (Str × Vr)) (n : Str) (size : Int) : Except Str Vr := match env.lookup n with
  | none => .error "name"
  | some v => if v.size = size then .ok v else .error "type"
/-- known holds env -/
def KnAt (K : PySem.W.Frag) (H : Hp) (kn : Addr) (env : List (Str × Vr)) : Prop := ∃ kvs : List (Key × V), H kn = some (.dK kvs) ∧ ∀ n, (env.lookup n = none → valV kvs (Sum.inr n) = none) ∧ ∀ v, env.lookup n = some v → ∃ a, valV kvs (Sum.inr n) = some (.ref a) ∧ VarAt K H a n v.fl v.most v.size
def spVar (K : PySem.W.Frag) (C CB : Addr) : Sp := fun vs H Q E => ∃ (H0 : Hp) (p kn tu be : Addr) (n : Str) (env : List (Str × Vr)), vs = [.ref p, .str n] ∧ Same H0 H ∧ CkAt C H p kn tu be ∧ KnAt K H kn env ∧
  Out CB H0 E (fun v : Vr => ∀ a, VarAt K H a n v.fl v.most v.size → Q (.ref a) H) (match env.lookup n with | none => .error "name" | some v => .ok v)
def spSized (K : PySem.W.Frag) (C CB : Addr) : Sp := fun vs H Q E => ∃ (H0 : Hp) (p kn tu be : Addr) (n : Str) (size : Int) (env : List (Str × Vr)), vs = [.ref p, .str n, .int size] ∧ Same H0 H ∧ CkAt C H p kn tu be ∧ KnAt K H kn env ∧
  Out CB H0 E (fun v : Vr => ∀ a, VarAt K H a n v.fl v.most v.size → Q (.ref a) H) (sizedM env n size)
/-- the tuples stay -/
def Tups (H H' : Hp) : Prop := ∀ b xs, (H b = some (.tup xs) → H' b = some (.tup xs)) ∧ ∀ o, H b = some (.frz o (.tup xs)) → H' b = some (.frz o (.tup xs))
theorem tups_same {H H' : Hp} (s : Same H H') : Tups H H' := fun b xs => ⟨s b _, fun o => s b _⟩
theorem Tups.trans {H H1 H2 : Hp} (a : Tups H H1) (b : Tups H1 H2) : Tups H H2 := fun c xs => ⟨fun h => (b c xs).1 ((a c xs).1 h), fun o h => (b c xs).2 o ((a c xs).2 o h)⟩
theorem tups_upd {H : Hp} {d : Addr} {kvs : List (Key × V)} {u : HO} (h : H d = some (.dK kvs)) : Tups H (upd H d u) := fun b xs => by
  have nb : ∀ z, H b = some z → z ≠ .dK kvs → b ≠ d := fun z hz nz e => nz (by rw [e, h] at hz; exact (Option.some.inj hz).symm)
  exact ⟨fun hb => by rw [upd_ne (nb _ hb (by intro z; cases z))]; exact hb, fun o hb => by rw [upd_ne (nb _ hb (by intro z; cases z))]; exact hb⟩
theorem Tups.seq {K : PySem.W.Frag} {H H' : Hp} {a : Addr} {xs : List V} (t : Tups H H') (h : SqT K H a xs) : SqT K H' a xs := by
  rcases h with (h | ⟨o, h⟩) | h
  · exact .inl (.inl ((t a xs).1 h))
  · exact .inl (.inr ⟨o, (t a xs).2 o h⟩)
  · exact .inr h
theorem ck_same {C p kn tu be : Addr} {H H' : Hp} (c : CkAt C H p kn tu be) (s : Same H H') : CkAt C H' p kn tu be := by
  obtain ⟨dx, fs, h, r⟩ := c.at_
  exact ⟨dx, fs, s _ _ h, r⟩
theorem kn_same {K : PySem.W.Frag} {H H' : Hp} {kn : Addr} {env : List (Str × Vr)} (k : KnAt K H kn env) (s : Same H H') : KnAt K H' kn env := by
  obtain ⟨kvs, h, r⟩ := k
  refine ⟨kvs, s _ _ h, fun n => ⟨(r n).1, fun v e => ?_⟩⟩
  obtain ⟨a, ea, ha⟩ := (r n).2 v e
  exact ⟨a, ea, (tups_same s).seq ha⟩
/-- turning holds the names tns -/
def TuAt (H : Hp) (tu : Addr) (tns : List Str) : Prop := ∃ kvs : List (Key × V), H tu = some (.dK kvs) ∧ ∀ n, (valV kvs (Sum.inr n)).isSome = decide (n ∈ tns)
theorem tu_same {H H' : Hp} {tu : Addr} {tns : List Str} (k : TuAt H tu tns) (s : Same H H') : TuAt H' tu tns := by
  obtain ⟨kvs, h, r⟩ := k
  exact ⟨kvs, s _ _ h, r⟩
def changedM (env : List (Str × Vr)) (tns : List Str) (n : Str) (size : Int) : Except Str Vr := match sizedM env n size with
  | .error r => .error r
  | .ok v => if n ∈ tns then .error "type" else .ok v
def spChanged (K : PySem.W.Frag) (C CB : Addr) : Sp := fun vs H Q E => ∃ (H0 : Hp) (p kn tu be : Addr) (n : Str) (size : Int) (env : List (Str × Vr)) (tns : List Str), vs = [.ref p, .str n, .int size] ∧ Same H0 H ∧ CkAt C H p kn tu be ∧ KnAt K H kn env ∧ TuAt H tu tns ∧
  Out CB H0 E (fun v : Vr => ∀ a, VarAt K H a n v.fl v.most v.size → Q (.ref a) H) (changedM env tns n size)
/-- the expressions that are met here -/
inductive Ex
  | nm (n : Str)
  | num (i : Int)
  | item
def ExAt (K : PySem.W.Frag) (H : Hp) (a : Addr) : Ex → Prop
  | .nm n => SqT K H a [.str "name", .str n]
  | .num i => SqT K H a [.str "int", .int i]
  | .item => ∃ x y, SqT K H a [.str "item", x, y]
def exprM (env : List (Str × Vr)) : Ex → Except Str (Str × Int)
  | .nm n => match sizedM env n 0 with
    | .error r => .error r
    | .ok v => .ok (v.fl, v.most)
  | .num i => .ok ("public", i)
  | .item => .error "never"
def argM (env : List (Str × Vr)) (size : Int) (e : Ex) : Except Str (Str × Int) := if size = 0 then exprM env e else match e with
  | .nm n => match sizedM env n size with
    | .error r => .error r
    | .ok v => .ok (v.fl, v.most)
  | _ => .error "type"
def spExpr (K : PySem.W.Frag) (C CB : Addr) : Sp := fun vs H Q E => ∃ (H0 : Hp) (p kn tu be a : Addr) (e : Ex) (env : List (Str × Vr)), vs = [.ref p, .ref a] ∧ Same H0 H ∧ CkAt C H p kn tu be ∧ KnAt K H kn env ∧ ExAt K H a e ∧ e ≠ .item ∧
  Out CB H0 E (fun r : Str × Int => ∀ b H', Same H H' → SqT K H' b [.str r.1, .int r.2] → Q (.ref b) H') (exprM env e)
def spArg (K : PySem.W.Frag) (C CB : Addr) : Sp := fun vs H Q E => ∃ (H0 : Hp) (p kn tu be a b : Addr) (e : Ex) (n fl : Str) (most size : Int) (env : List (Str × Vr)), vs = [.ref p, .ref a, .ref b] ∧ Same H0 H ∧ CkAt C H p kn tu be ∧ KnAt K H kn env ∧ ExAt K H a e ∧ (size = 0 → e ≠ .item) ∧
  VarAt K H b n fl most size ∧ Out CB H0 E (fun r : Str × Int => ∀ b H', Same H H' → SqT K H' b [.str r.1, .int r.2] → Q (.ref b) H') (argM env size e)
theorem ex_tups {K : PySem.W.Frag} {H H' : Hp} {a : Addr} {e : Ex} (h : ExAt K H a e) (t : Tups H H') : ExAt K H' a e := by
  cases e with
  | nm n => exact t.seq h
  | num i => exact t.seq h
  | item =>
    obtain ⟨x, y, h⟩ := h
    exact ⟨x, y, t.seq h⟩
/-- params, results: a tuple of variables -/
def ParAt (K : PySem.W.Frag) (H : Hp) (a : Addr) (ps : List (Str × Vr)) : Prop := ∃ xs : List V, SqT K H a xs ∧ xs.length = ps.length ∧ ∀ (i : Nat) (v : Str × Vr), ps[i]? = some v → ∃ b : Addr, xs[i]? = some (V.ref b) ∧ VarAt K H b v.1 v.2.fl v.2.most v.2.size
def ArgsAt (K : PySem.W.Frag) (H : Hp) (a : Addr) (es : List Ex) : Prop := ∃ xs : List V, SqT K H a xs ∧ xs.length = es.length ∧ ∀ (i : Nat) (e : Ex), es[i]? = some e → ∃ b : Addr, xs[i]? = some (V.ref b) ∧ ExAt K H b e
theorem par_tups {K : PySem.W.Frag} {H H' : Hp} {a : Addr} {ps : List (Str × Vr)} (h : ParAt K H a ps) (t : Tups H H') : ParAt K H' a ps := by
  obtain ⟨xs, h1, h2, h3⟩ := h
  refine ⟨xs, t.seq h1, h2, fun i v e => ?_⟩
  obtain ⟨b, e1, e2⟩ := h3 i v e
  exact ⟨b, e1, t.seq e2⟩
theorem args_tups {K : PySem.W.Frag} {H H' : Hp} {a : Addr} {es : List Ex} (h : ArgsAt K H a es) (t : Tups H H') : ArgsAt K H' a es := by
  obtain ⟨xs, h1, h2, h3⟩ := h
  refine ⟨xs, t.seq h1, h2, fun i v e => ?_⟩
  obtain ⟨b, e1, e2⟩ := h3 i v e
  exact ⟨b, e1, ex_tups e2 t⟩
/-- before holds the functions fns: their params and results -/
def Fns := List (Str × (List (Str × Vr) × List (Str × Vr)))
def BeAt (K : PySem.W.Frag) (H : Hp) (be : Addr) (fns : List (Str × (List (Str × Vr) × List (Str × Vr)))) : Prop := ∃ kvs : List (Key × V), H be = some (.dK kvs) ∧ ∀ n, (fns.lookup n = none → valV kvs (Sum.inr n) = none) ∧
  ∀ f, fns.lookup n = some f → ∃ a nm ap ar x y, valV kvs (Sum.inr n) = some (.ref a) ∧ SqT K H a [nm, .ref ap, .ref ar, x, y] ∧ ParAt K H ap f.1 ∧ ParAt K H ar f.2
theorem be_tups {K : PySem.W.Frag} {H H' : Hp} {be : Addr} {fns : List (Str × (List (Str × Vr) × List (Str × Vr)))} (h : BeAt K H be fns) (t : Tups H H') (k : ∀ kvs, H be = some (.dK kvs) → H' be = some (.dK kvs)) : BeAt K H' be fns := by
  obtain ⟨kvs, h1, h2⟩ := h
  refine ⟨kvs, k _ h1, fun n => ⟨(h2 n).1, fun f e => ?_⟩⟩
  obtain ⟨a, nm, ap, ar, x, y, e1, e2, e3, e4⟩ := (h2 n).2 f e
  exact ⟨a, nm, ap, ar, x, y, e1, t.seq e2, par_tups e3 t, par_tups e4 t⟩
def argsM (env : List (Str × Vr)) : List Ex → List (Str × Vr) → Except Str Unit → Except Str Unit
  | e :: es, v :: vs, k => match argM env v.2.size e with
    | .error r => .error r
    | .ok r => match fitM r.1 r.2 v.2.fl v.2.most with
      | .error r => .error r
      | .ok _ => argsM env es vs k
  | _, _, k => k
def resM (env : List (Str × Vr)) (tns : List Str) : List Str → List (Str × Vr) → Except Str Unit
  | t :: ts, v :: vs => match changedM env tns t v.2.size with
    | .error r => .error r
    | .ok u => match fitM v.2.fl v.2.most u.fl u.most with
      | .error r => .error r
      | .ok _ => resM env tns ts vs
  | _, _ => .ok ()
def callM (env : List (Str × Vr)) (tns : List Str) (fns : List (Str × (List (Str × Vr) × List (Str × Vr)))) (targets : List Str) (name : Str) (args : List Ex) : Except Str Unit := match fns.lookup name with
  | none => .error "name"
  | some f => if args.length ≠ f.1.length ∨ targets.length ≠ f.2.length then .error "type" else argsM env args f.1 (resM env tns targets f.2)
def spCall (K : PySem.W.Frag) (C CB : Addr) : Sp := fun vs H Q E => ∃ (H0 : Hp) (p kn tu be a at_ aa : Addr) (targets : List Str) (name : Str) (args : List Ex) (env : List (Str × Vr)) (tns : List Str) (fns : List (Str × (List (Str × Vr) × List (Str × Vr)))),
  vs = [.ref p, .ref a] ∧ Same H0 H ∧ CkAt C H p kn tu be ∧ KnAt K H kn env ∧ TuAt H tu tns ∧ BeAt K H be fns ∧ SqT K H a [.str "call", .ref at_, .str name, .ref aa] ∧ SqT K H at_ (targets.map V.str) ∧ ArgsAt K H aa args ∧
  (∀ f, fns.lookup name = some f → ∀ (i : Nat) (e : Ex) (v : Str × Vr), args[i]? = some e → f.1[i]? = some v → v.2.size = 0 → e ≠ Ex.item) ∧ Out CB H0 E (fun _ => ∀ H', Same H H' → Q .non H') (callM env tns fns targets name args)
/-- a dict of at most m entries -/
def Few (H : Hp) (d : Addr) (m : Nat) : Prop := ∃ kvs : List (Key × V), H d = some (.dK kvs) ∧ kvs.length ≤ m
/-- the ground on which the checker walks: H0 what stood ahead of it -/
structure Gd (K : PySem.W.Frag) (C : Addr) (H0 H : Hp) (p kn tu be : Addr) (env : List (Str × Vr)) (tns : List Str) (fns : List (Str × (List (Str × Vr) × List (Str × Vr)))) (m D : Nat) : Prop where
  s0 : Same H0 H
  zk : H0 kn = none
  zt : H0 tu = none
  kt : kn ≠ tu
  kb : kn ≠ be
  tb : tu ≠ be
  ck : CkAt C H p kn tu be
  hk : KnAt K H kn env
  ht : TuAt H tu tns
  hb : BeAt K H be fns
  fk : Few H kn m
  ft : Few H tu m
  md : m + D ≤ 1000
  te : ∀ n ∈ tns, env.lookup n ≠ none
theorem few_same {H H' : Hp} {d : Addr} {m : Nat} (f : Few H d m) (s : Same H H') : Few H' d m := by
  obtain ⟨kvs, h, l⟩ := f
  exact ⟨kvs, s _ _ h, l⟩
theorem be_same {K : PySem.W.Frag} {H H' : Hp} {be : Addr} {fns : List (Str × (List (Str × Vr) × List (Str × Vr)))} (h : BeAt K H be fns) (s : Same H H') : BeAt K H' be fns := be_tups h (tups_same s) fun kvs e => s _ _ e
theorem Gd.same {K : PySem.W.Frag} {C : Addr} {H0 H H' : Hp} {p kn tu be : Addr} {env : List (Str × Vr)} {tns : List Str} {fns : List (Str × (List (Str × Vr) × List (Str × Vr)))} {m D : Nat} (g : Gd K C H0 H p kn tu be env tns fns m D) (s : Same H H') : Gd K C H0 H' p kn tu be env tns fns m D :=
  ⟨g.s0.trans s, g.zk, g.zt, g.kt, g.kb, g.tb, ck_same g.ck s, kn_same g.hk s, tu_same g.ht s, be_same g.hb s, few_same g.fk s, few_same g.ft s, g.md, g.te⟩
theorem Gd.less {K : PySem.W.Frag} {C : Addr} {H0 H : Hp} {p kn tu be : Addr} {env : List (Str × Vr)} {tns : List Str} {fns : List (Str × (List (Str × Vr) × List (Str × Vr)))} {m D D' : Nat} (g : Gd K C H0 H p kn tu be env tns fns m D) (h : D' ≤ D) : Gd K C H0 H p kn tu be env tns fns m D' :=
  ⟨g.s0, g.zk, g.zt, g.kt, g.kb, g.tb, g.ck, g.hk, g.ht, g.hb, g.fk, g.ft, Nat.le_trans (Nat.add_le_add_left h m) g.md, g.te⟩
abbrev FN := List (Str × (List (Str × Vr) × List (Str × Vr)))
abbrev EN := List (Str × Vr)
/-- a body of bodies α: its promise -/
def spSub {α : Type} (K : PySem.W.Frag) (C CB : Addr) (subAt : Hp → Addr → α → Prop) (subM : EN → List Str → FN → α → Except Str Unit) (subOk : FN → α → Prop) (D : Nat) : Sp := fun vs H Q E =>
  ∃ (H0 : Hp) (p kn tu be a : Addr) (b : α) (env : EN) (tns : List Str) (fns : FN) (m : Nat), vs = [.ref p, .ref a] ∧ Gd K C H0 H p kn tu be env tns fns m D ∧ subAt H a b ∧ subOk fns b ∧ Out CB H0 E (fun _ => ∀ H', Same H H' → Q .non H') (subM env tns fns b)
def loopM {α : Type} (subM : EN → List Str → FN → α → Except Str Unit) (env : EN) (tns : List Str) (fns : FN) (n : Str) (l : Int) (b : α) : Except Str Unit := match env.lookup n with
  | some _ => .error "name"
  | none => subM ((n, ⟨"public", l, 0⟩) :: env) (n :: tns) fns b
def spLoop {α : Type} (K : PySem.W.Frag) (C CB : Addr) (subAt : Hp → Addr → α → Prop) (subM : EN → List Str → FN → α → Except Str Unit) (subOk : FN → α → Prop) (D : Nat) : Sp := fun vs H Q E =>
  ∃ (H0 : Hp) (p kn tu be a y : Addr) (n : Str) (f l : Int) (b : α) (env : EN) (tns : List Str) (fns : FN) (m : Nat), vs = [.ref p, .ref a] ∧ Gd K C H0 H p kn tu be env tns fns m (D + 1) ∧ SqT K H a [.str "loop", .str n, .int f, .int l, .ref y] ∧ subAt H y b ∧ subOk fns b ∧
    Out CB H0 E (fun _ => ∀ H', Same H H' → Q .non H') (loopM subM env tns fns n l b)
theorem drop_put {kvs : List (Key × V)} {k : Key} {v : V} (h : valV kvs k = none) : dropK (putK kvs k v) k = kvs := by
  rw [putK_new v h]
  unfold dropK
  rw [List.filter_append]
  have e1 : kvs.filter (fun kv => decide (kv.1 ≠ k)) = kvs := by
    rw [List.filter_eq_self]
    intro kv hk
    have q := valV_any k kvs
    rw [h] at q
    have q2 : (kvs.any fun kv => decide (kv.1 = k)) = false := q
    rw [List.any_eq_false] at q2
    have q3 := q2 kv hk
    simpa using q3
  rw [e1]
  simp
/-- a statement whose bodies are α -/
inductive Stm (α : Type)
  | set (n : Str) (e : Ex)
  | ifs (c : Ex) (x y : α)
  | loop (n : Str) (f l : Int) (b : α)
  | call (ts : List Str) (name : Str) (args : List Ex)
def stmAt {α : Type} (K : PySem.W.Frag) (subAt : Hp → Addr → α → Prop) (H : Hp) (a : Addr) : Stm α → Prop
  | .set n e => ∃ x, SqT K H a [.str "set", .str n, .ref x] ∧ ExAt K H x e
  | .ifs c b1 b2 => ∃ x y z, SqT K H a [.str "if", .ref x, .ref y, .ref z] ∧ ExAt K H x c ∧ subAt H y b1 ∧ subAt H z b2
  | .loop n f l b => ∃ y, SqT K H a [.str "loop", .str n, .int f, .int l, .ref y] ∧ subAt H y b
  | .call ts name args => ∃ x y, SqT K H a [.str "call", .ref x, .str name, .ref y] ∧ SqT K H x (ts.map V.str) ∧ ArgsAt K H y args
def stmOk {α : Type} (subOk : FN → α → Prop) (fns : FN) : Stm α → Prop
  | .set _ e => e ≠ .item
  | .ifs c x y => c ≠ .item ∧ subOk fns x ∧ subOk fns y
  | .loop _ _ _ b => subOk fns b
  | .call _ name args => ∀ f, fns.lookup name = some f → ∀ (i : Nat) (e : Ex) (v : Str × Vr), args[i]? = some e → f.1[i]? = some v → v.2.size = 0 → e ≠ Ex.item
def stmM {α : Type} (subM : EN → List Str → FN → α → Except Str Unit) (env : EN) (tns : List Str) (fns : FN) : Stm α → Except Str Unit
  | .set n e => match exprM env e with
    | .error r => .error r
    | .ok r => match changedM env tns n 0 with
      | .error q => .error q
      | .ok u => fitM r.1 r.2 u.fl u.most
  | .ifs c x y => match exprM env c with
    | .error r => .error r
    | .ok r => if r.1 = "secret" then .error "flow" else match subM env tns fns x with
      | .error q => .error q
      | .ok _ => subM env tns fns y
  | .loop n _ l b => loopM subM env tns fns n l b
  | .call ts name args => callM env tns fns ts name args
def bodyM {α : Type} (subM : EN → List Str → FN → α → Except Str Unit) (env : EN) (tns : List Str) (fns : FN) : List (Stm α) → Except Str Unit
  | [] => .ok ()
  | s :: r => match stmM subM env tns fns s with
    | .error q => .error q
    | .ok _ => bodyM subM env tns fns r
def rowAt {α : Type} (K : PySem.W.Frag) (subAt : Hp → Addr → α → Prop) (H : Hp) (a : Addr) (l : List (Stm α)) : Prop := ∃ xs : List V, SqT K H a xs ∧ xs.length = l.length ∧ ∀ (i : Nat) (s : Stm α), l[i]? = some s → ∃ b : Addr, xs[i]? = some (V.ref b) ∧ stmAt K subAt H b s
def rowOk {α : Type} (subOk : FN → α → Prop) (fns : FN) (l : List (Stm α)) : Prop := ∀ s ∈ l, stmOk subOk fns s
theorem stm_tups {α : Type} {K : PySem.W.Frag} {subAt : Hp → Addr → α → Prop} (mono : ∀ H H' a b, subAt H a b → Tups H H' → subAt H' a b) {H H' : Hp} {a : Addr} {s : Stm α} (h : stmAt K subAt H a s) (t : Tups H H') : stmAt K subAt H' a s := by
  cases s with
  | set n e =>
    obtain ⟨x, h1, h2⟩ := h
    exact ⟨x, t.seq h1, ex_tups h2 t⟩
  | ifs c b1 b2 =>
    obtain ⟨x, y, z, h1, h2, h3, h4⟩ := h
    exact ⟨x, y, z, t.seq h1, ex_tups h2 t, mono _ _ _ _ h3 t, mono _ _ _ _ h4 t⟩
  | loop n f l b =>
    obtain ⟨y, h1, h2⟩ := h
    exact ⟨y, t.seq h1, mono _ _ _ _ h2 t⟩
  | call ts name args =>
    obtain ⟨x, y, h1, h2, h3⟩ := h
    exact ⟨x, y, t.seq h1, t.seq h2, args_tups h3 t⟩
theorem row_tups {α : Type} {K : PySem.W.Frag} {subAt : Hp → Addr → α → Prop} (mono : ∀ H H' a b, subAt H a b → Tups H H' → subAt H' a b) : ∀ H H' a b, rowAt K subAt H a b → Tups H H' → rowAt K subAt H' a b := by
  rintro H H' a l ⟨xs, h1, h2, h3⟩ t
  refine ⟨xs, t.seq h1, h2, fun i s e => ?_⟩
  obtain ⟨b, e1, e2⟩ := h3 i s e
  exact ⟨b, e1, stm_tups mono e2 t⟩
def spStm {α : Type} (K : PySem.W.Frag) (C CB : Addr) (subAt : Hp → Addr → α → Prop) (subM : EN → List Str → FN → α → Except Str Unit) (subOk : FN → α → Prop) (D : Nat) : Sp := fun vs H Q E =>
  ∃ (H0 : Hp) (p kn tu be a : Addr) (s : Stm α) (env : EN) (tns : List Str) (fns : FN) (m : Nat), vs = [.ref p, .ref a] ∧ Gd K C H0 H p kn tu be env tns fns m (D + 1) ∧ stmAt K subAt H a s ∧ stmOk subOk fns s ∧ Out CB H0 E (fun _ => ∀ H', Same H H' → Q .non H') (stmM subM env tns fns s)
/-! bodies by their depth -/
def Sb : Nat → Type
  | 0 => Empty
  | d + 1 => List (Stm (Sb d))
def SbAt (K : PySem.W.Frag) : (d : Nat) → Hp → Addr → Sb d → Prop
  | 0 => fun _ _ _ => False
  | d + 1 => rowAt K (SbAt K d)
def SbM : (d : Nat) → EN → List Str → FN → Sb d → Except Str Unit
  | 0 => fun _ _ _ _ => .ok ()
  | d + 1 => bodyM (SbM d)
def SbOk : (d : Nat) → FN → Sb d → Prop
  | 0 => fun _ _ => True
  | d + 1 => rowOk (SbOk d)
theorem sb_tups {K : PySem.W.Frag} : ∀ d H H' a (b : Sb d), SbAt K d H a b → Tups H H' → SbAt K d H' a b
  | 0 => fun _ _ _ _ h _ => h
  | d + 1 => row_tups (sb_tups d)
abbrev WN := List (Str × Int)
def stmW {α : Type} (subW : WN → α → Int) (wk : WN) : Stm α → Int
  | .set _ _ => 1
  | .ifs _ x y => 1 + (if subW wk y > subW wk x then subW wk y else subW wk x)
  | .loop _ f l b => 1 + (l - f + 1) * subW wk b
  | .call _ name _ => 1 + (wk.lookup name).getD 0
def rowW {α : Type} (subW : WN → α → Int) (wk : WN) (l : List (Stm α)) : Int := (l.map (stmW subW wk)).sum
def stmWok {α : Type} (subOk : WN → α → Prop) (wk : WN) : Stm α → Prop
  | .set _ _ => True
  | .ifs _ x y => subOk wk x ∧ subOk wk y
  | .loop _ f l b => (-(2 ^ 64) < l - f + 1 ∧ l - f + 1 < 2 ^ 64) ∧ subOk wk b
  | .call _ name _ => wk.lookup name ≠ none
def rowWok {α : Type} (subOk : WN → α → Prop) (wk : WN) (l : List (Stm α)) : Prop := l.length ≤ 1000 ∧ ∀ s ∈ l, stmWok subOk wk s
/-- works, known: the names' works -/
def WkAt (H : Hp) (d : Addr) (wk : WN) : Prop := ∃ kvs : List (Key × V), H d = some (.dK kvs) ∧ ∀ n i, wk.lookup n = some i → valV kvs (Sum.inr n) = some (.int i)
theorem wk_same {H H' : Hp} {d : Addr} {wk : WN} (h : WkAt H d wk) (s : Same H H') : WkAt H' d wk := by
  obtain ⟨kvs, h1, h2⟩ := h
  exact ⟨kvs, s _ _ h1, h2⟩
def spWork {α : Type} (subAt : Hp → Addr → α → Prop) (subW : WN → α → Int) (subOk : WN → α → Prop) : Sp := fun vs H Q _ => ∃ (a d : Addr) (b : α) (wk : WN), vs = [.ref a, .ref d] ∧ subAt H a b ∧ WkAt H d wk ∧ subOk wk b ∧ ∀ H', Same H H' → Q (.int (subW wk b)) H'
def SbW : (d : Nat) → WN → Sb d → Int
  | 0 => fun _ _ => 0
  | d + 1 => rowW (SbW d)
def SbWok : (d : Nat) → WN → Sb d → Prop
  | 0 => fun _ _ => True
  | d + 1 => rowWok (SbWok d)
def spInit (K : PySem.W.Frag) (C : Addr) : Sp := fun vs H Q _ => ∃ (p a be dx : Addr) (vars : EN), vs = [.ref p, .ref a, .ref be] ∧ H p = some (.ins C dx []) ∧ ParAt K H a vars ∧ (vars.map (·.1)).Nodup ∧ vars.length ≤ 900 ∧
  ∀ H' kn tu, (∀ x o, x ≠ p → H x = some o → H' x = some o) → H kn = none → H tu = none → kn ≠ tu → CkAt C H' p kn tu be → KnAt K H' kn vars → TuAt H' tu [] → Few H' kn vars.length → Few H' tu 0 → Q .non H'
/-- a function of a program -/
structure Fn (d : Nat) where
  name : Str
  ps : EN
  rs : EN
  os : EN
  body : Sb d
def FnAt (K : PySem.W.Frag) (d : Nat) (H : Hp) (b : Addr) (f : Fn d) : Prop := ∃ ap ar ao ab, SqT K H b [.str f.name, .ref ap, .ref ar, .ref ao, .ref ab] ∧ ParAt K H ap f.ps ∧ ParAt K H ar f.rs ∧ ParAt K H ao f.os ∧ SbAt K d H ab f.body
def PrAt (K : PySem.W.Frag) (d : Nat) (H : Hp) (a : Addr) (l : List (Fn d)) : Prop := ∃ xs : List V, SqT K H a xs ∧ xs.length = l.length ∧ ∀ (i : Nat) (f : Fn d), l[i]? = some f → ∃ b : Addr, xs[i]? = some (V.ref b) ∧ FnAt K d H b f
theorem fn_tups {K : PySem.W.Frag} {d : Nat} {H H' : Hp} {b : Addr} {f : Fn d} (h : FnAt K d H b f) (t : Tups H H') : FnAt K d H' b f := by
  obtain ⟨ap, ar, ao, ab, h1, h2, h3, h4, h5⟩ := h
  exact ⟨ap, ar, ao, ab, t.seq h1, par_tups h2 t, par_tups h3 t, par_tups h4 t, sb_tups d _ _ _ _ h5 t⟩
/-- what the checker answers to the functions l, behind the functions fns with their works wk -/
def checkM {d : Nat} (fns : FN) (wk : WN) : List (Fn d) → Except Str Unit
  | [] => .ok ()
  | f :: r => match SbM d (f.ps ++ f.rs ++ f.os) [] fns f.body with
    | .error q => .error q
    | .ok _ => if SbW d wk f.body > 20000 then .error "work" else checkM ((f.name, (f.ps, f.rs)) :: fns) ((f.name, SbW d wk f.body) :: wk) r
def checkOk {d : Nat} (fns : FN) (wk : WN) : List (Fn d) → Prop
  | [] => True
  | f :: r => ((f.ps ++ f.rs ++ f.os).map (·.1)).Nodup ∧ (f.ps ++ f.rs ++ f.os).length ≤ 900 ∧ SbOk d fns f.body ∧ (SbM d (f.ps ++ f.rs ++ f.os) [] fns f.body = .ok () → SbWok d wk f.body ∧ checkOk ((f.name, (f.ps, f.rs)) :: fns) ((f.name, SbW d wk f.body) :: wk) r)
def spCheck (K : PySem.W.Frag) (CB : Addr) (d : Nat) : Sp := fun vs H Q E => ∃ (a : Addr) (l : List (Fn d)), vs = [.ref a] ∧ PrAt K d H a l ∧ l.length ≤ 900 ∧ d ≤ 50 ∧ checkOk [] [] l ∧ Out CB H E (fun _ => ∀ H', Same H H' → Q (.ref a) H') (checkM [] [] l)
def resV : Except Str Unit → V
  | .ok _ => .non
  | .error r => .str r
def spReason (K : PySem.W.Frag) (d : Nat) : Sp := fun vs H Q _ => ∃ (a : Addr) (l : List (Fn d)), vs = [.ref a] ∧ PrAt K d H a l ∧ l.length ≤ 900 ∧ d ≤ 50 ∧ checkOk [] [] l ∧
  ∀ H', Same H H' → Q (resV (checkM [] [] l)) H'
theorem lookup_none {n : Str} : ∀ {l : EN}, n ∉ l.map (·.1) → l.lookup n = none
  | [], _ => rfl
  | (m, v) :: r, h => by
    have h1 : n ≠ m := fun e => h (by rw [e]; exact List.mem_cons_self)
    have h2 : (n == m) = false := by simpa using h1
    rw [List.lookup_cons, h2]
    exact lookup_none fun q => h (List.mem_cons_of_mem _ q)
section
variable {P : Program} {w : World} {K : PySem.W.Frag} {mg : Str → Option Value} {base : Heap}
theorem exprM_nm (env : List (Str × Vr)) (n : Str) : exprM env (.nm n) = (match sizedM env n 0 with | .error r => .error r | .ok v => .ok (v.fl, v.most)) := rfl
theorem argM_nm (env : List (Str × Vr)) (n : Str) (size : Int) : (match (Ex.nm n : Ex) with | .nm n => (match sizedM env n size with | .error r => (.error r : Except Str (Str × Int)) | .ok v => .ok (v.fl, v.most)) | _ => .error "type") = (match sizedM env n size with | .error r => .error r | .ok v => .ok (v.fl, v.most)) := rfl
theorem argsM_nil (env : List (Str × Vr)) (vs : List (Str × Vr)) (k : Except Str Unit) : argsM env [] vs k = k := by cases vs <;> rfl
theorem resM_nil (env : List (Str × Vr)) (tns : List Str) (vs : List (Str × Vr)) : resM env tns [] vs = .ok () := by cases vs <;> rfl
theorem same_upd {H : Hp} {p : Addr} {o : HO} (h : H p = none) : Same H (upd H p o) := fun b x e => by
  rw [upd_ne (ne_of_none e h)]
  exact e
theorem part_ne : ¬ (HT.sIx 4 0 (some 1) = 0 ∧ HT.sIx 4 4 (some 3) = 4) := by decide
theorem iteT' {b : Bool} {A B : Prop} (e : b = true) (h : A) : if b = true then A else B := by
  rw [e]
  exact h
theorem iteF' {b : Bool} {A B : Prop} (e : b = false) (h : B) : if b = true then A else B := by
  rw [e]
  exact h
theorem ok_need_range (T : Tx P K mg) (G_BadProgram : FnOk P w K mg base CX0 1 T.E_BadProgram.f T.E_BadProgram.fd ["self", "reason"] (spI1 T.E_BadProgram.C "reason")) :
    FnOk P w K mg base (L2.CX P w) 3 T.a_need_range T.d_need_range ["most", "greatest"] (spRange T.E_BadProgram.C) := by
  refine T.F_need_range.okX sc_need_range (fun vs H Q E h => ?_) (fun cdv A outer s H vs Q E hr h => ?_)
  · obtain ⟨_, m, g, rfl, _⟩ := h
    rfl
  · obtain ⟨H0, m, g, rfl, s0, h⟩ := h
    have hr_BadProgram : Room 2 _ := hr
    refine ⟨_, (pss_one (ps_if (pt_cmpR op_gt (pv 0) (pv 1) (nomark _))
        (pss_one (ps_raise rfl (takes_of rfl rfl rfl rfl) (pmk_oex T.E_BadProgram.S.ox T.E_BadProgram.ini T.E_BadProgram.tI G_BadProgram hr_BadProgram T.E_BadProgram.b .nil pass0 (by rfl) T.E_BadProgram.g (pa_cons pe_str pa_nil))))
        pss_nil)), ?_⟩
    refine ⟨_, rfl, _, rfl, _, _, rfl, rfl, _, rfl, ?_⟩
    unfold rangeM at h
    refine ite2 (fun e => ?_) (fun e => ?_)
    · rw [if_pos (of_decide_eq_true e)] at h
      exact Rz.out h s0 (by decide +kernel)
    · rw [if_neg (fun z => e (decide_eq_true z))] at h
      exact h
theorem ok_need_fit (T : Tx P K mg) (G_BadProgram : FnOk P w K mg base CX0 1 T.E_BadProgram.f T.E_BadProgram.fd ["self", "reason"] (spI1 T.E_BadProgram.C "reason")) :
    FnOk P w K mg base (L2.CX P w) 4 T.a_need_fit T.d_need_fit ["rated", "variable"] (spFit K T.E_BadProgram.C) := by
  have G_need_range := ok_need_range T G_BadProgram
  refine T.F_need_fit.okX sc_need_fit (fun vs H Q E h => ?_) (fun cdv A outer s H vs Q E hr h => ?_)
  · obtain ⟨_, a, b, _, _, _, _, _, _, rfl, _⟩ := h
    rfl
  · obtain ⟨H0, a, b, fl, m, n, vfl, vm, size, rfl, s0, ha, hb, h⟩ := h
    have hr_BadProgram : Room 2 _ := hr.mono (by decide)
    have hr_need_range : Room 3 _ := hr
    refine ⟨_, (pss_cons (ps_asg (pv 0) (pg_tup rfl (pgs_cons (pg_name (i := 2) sc_need_fit.nd rfl (.inl rfl)) (pgs_cons (pg_name (i := 3) sc_need_fit.nd rfl (.inl rfl)) pgs_nil))))
        (pss_cons (ps_asg (pv 1) (pg_tup rfl (pgs_cons (pg_name (i := 4) sc_need_fit.nd rfl (.inl rfl)) (pgs_cons (pg_name (i := 5) sc_need_fit.nd rfl (.inl rfl)) (pgs_cons (pg_name (i := 6) sc_need_fit.nd rfl (.inl rfl)) (pgs_cons (pg_name (i := 4) sc_need_fit.nd rfl (.inl rfl)) pgs_nil))))))
        (pss_cons (ps_if (PW.pt (pw_and (pt_cmpR op_eq (pv 2) pe_str (nomark _)) (pw_and1 (pt_cmpR op_eq (pv 5) pe_str (nomark _)))))
        (pss_one (ps_raise rfl (takes_of rfl rfl rfl rfl) (pmk_oex T.E_BadProgram.S.ox T.E_BadProgram.ini T.E_BadProgram.tI G_BadProgram hr_BadProgram T.E_BadProgram.b .nil pass0 (by rfl) T.E_BadProgram.g (pa_cons pe_str pa_nil))))
        pss_nil)
        (pss_one (ps_expr (pe_call G_need_range hr_need_range (by rfl) T.g_need_range T.F_need_range.kp T.b_need_range .nil passE (pa_cons (pv 3) (pa_cons (pv 6) pa_nil)))))))), ?_⟩
    refine ⟨_, rfl, a, _, rfl, ha, rfl, _, _, rfl, _, _, rfl, rfl, ?_⟩
    refine ⟨_, rfl, b, _, rfl, hb, rfl, _, _, rfl, _, _, rfl, _, _, rfl, _, _, rfl, rfl, ?_⟩
    refine ⟨_, rfl, rfl, _, rfl, ?_⟩
    unfold fitM at h
    refine ite2 (fun e1 => ?_) (fun e1 => ?_)
    · have e1' : fl = "secret" := V.str.inj (of_decide_eq_true e1)
      refine ⟨_, rfl, rfl, _, rfl, ?_⟩
      refine ite2 (fun e2 => ?_) (fun e2 => ?_)
      · have e2' : vfl = "public" := V.str.inj (of_decide_eq_true e2)
        rw [if_pos ⟨e1', e2'⟩] at h
        exact Rz.out h s0 (by decide +kernel)
      · rw [if_neg (fun z => e2 (decide_eq_true (congrArg V.str z.2)))] at h
        exact ⟨_, rfl, _, rfl, H0, m, vm, rfl, s0, h⟩
    · rw [if_neg (fun z => e1 (decide_eq_true (congrArg V.str z.1)))] at h
      exact ⟨_, rfl, _, rfl, H0, m, vm, rfl, s0, h⟩
theorem CkAt.known {C p kn tu be : Addr} {H : Hp} (c : CkAt C H p kn tu be) : ∃ dx fs, H p = some (.ins C dx fs) ∧ fs.lookup ("known" : Str) = some (.ref kn) := by
  obtain ⟨dx, fs, h, k, _⟩ := c.at_
  exact ⟨dx, fs, h, k⟩
theorem CkAt.turning {C p kn tu be : Addr} {H : Hp} (c : CkAt C H p kn tu be) : ∃ dx fs, H p = some (.ins C dx fs) ∧ fs.lookup ("turning" : Str) = some (.ref tu) := by
  obtain ⟨dx, fs, h, _, k, _⟩ := c.at_
  exact ⟨dx, fs, h, k⟩
theorem CkAt.meth {C p kn tu be : Addr} {H : Hp} (c : CkAt C H p kn tu be) {m : Str} (hm : m ∈ ([("body" : Str), "statement", "loop", "call", "argument", "variable", "sized", "row", "changed", "check_index", "expression", "operation"] : List Str)) : ∃ dx fs, H p = some (.ins C dx fs) ∧ fs.lookup m = none := by
  obtain ⟨dx, fs, h, _, _, _, k⟩ := c.at_
  exact ⟨dx, fs, h, k m hm⟩
theorem ok_variable (T : Tx P K mg) (G_BadProgram : FnOk P w K mg base CX0 1 T.E_BadProgram.f T.E_BadProgram.fd ["self", "reason"] (spI1 T.E_BadProgram.C "reason")) :
    FnOk P w K mg base (L2.CX P w) 3 T.a_Checker_variable T.d_Checker_variable ["self", "name"] (spVar K T.c_Checker T.E_BadProgram.C) := by
  refine T.F_Checker_variable.okX sc_Checker_variable (fun vs H Q E h => ?_) (fun cdv A outer s H vs Q E hr h => ?_)
  · obtain ⟨_, p, _, _, _, n, _, rfl, _⟩ := h
    rfl
  · obtain ⟨H0, p, kn, tu, be, n, env, rfl, s0, hc, hk, h⟩ := h
    have hr_BadProgram : Room 2 _ := hr
    refine ⟨_, (pss_cons (ps_if (pt_cmp (pc_dnotin (hu_of hr) (pv 1) (pe_fld (pv 0) rfl)))
        (pss_one (ps_raise rfl (takes_of rfl rfl rfl rfl) (pmk_oex T.E_BadProgram.S.ox T.E_BadProgram.ini T.E_BadProgram.tI G_BadProgram hr_BadProgram T.E_BadProgram.b .nil pass0 (by rfl) T.E_BadProgram.g (pa_cons pe_str pa_nil))))
        pss_nil)
        (pss_one (ps_ret (pe_dget (hu_of hr) (pe_fld (pv 0) rfl) (pv 1) (fun _ _ => rfl))))), ?_⟩
    obtain ⟨dx, fs, hp, fk⟩ := hc.known
    obtain ⟨kvs, hkn, hv⟩ := hk
    refine ⟨_, rfl, _, rfl, p, T.c_Checker, dx, fs, _, rfl, hp, T.cl_Checker, T.no_Checker_known, fk, ?_⟩
    refine ⟨kn, _, rfl, DGet.k (k := Sum.inr n) hkn, _, rfl, ?_⟩
    cases ev : env.lookup n with
    | none =>
      rw [ev] at h
      rw [(hv n).1 ev]
      exact iteT' rfl (Rz.out h s0 (by decide +kernel))
    | some v =>
      rw [ev] at h
      obtain ⟨a, ea, ha⟩ := (hv n).2 v ev
      rw [ea]
      refine iteF' rfl ?_
      exact ⟨_, rfl, p, T.c_Checker, dx, fs, _, rfl, hp, T.cl_Checker, T.no_Checker_known, fk, _, rfl, kn, _, rfl, by rw [← ea]; exact DGet.k (k := Sum.inr n) hkn, h a ha⟩
theorem ok_sized (T : Tx P K mg) (G_BadProgram : FnOk P w K mg base CX0 1 T.E_BadProgram.f T.E_BadProgram.fd ["self", "reason"] (spI1 T.E_BadProgram.C "reason")) :
    FnOk P w K mg base (L2.CX P w) 4 T.a_Checker_sized T.d_Checker_sized ["self", "name", "size"] (spSized K T.c_Checker T.E_BadProgram.C) := by
  have G_Checker_variable := ok_variable T G_BadProgram
  refine T.F_Checker_sized.okX sc_Checker_sized (fun vs H Q E h => ?_) (fun cdv A outer s H vs Q E hr h => ?_)
  · obtain ⟨_, p, _, _, _, n, z, _, rfl, _⟩ := h
    rfl
  · obtain ⟨H0, p, kn, tu, be, n, z, env, rfl, s0, hc, hk, h⟩ := h
    have hr_BadProgram : Room 2 _ := hr.mono (by decide)
    have hr_Checker_variable : Room 3 _ := hr
    refine ⟨_, (pss_cons (ps_set (i := 3) sc_Checker_sized.nd rfl (.inl rfl) (pe_meth (pv 0) T.cl_Checker T.m_Checker_variable G_Checker_variable hr_Checker_variable T.b_Checker_variable .nil passE (pa_cons (pv 1) pa_nil)))
        (pss_cons (ps_if (pt_cmpR op_ne (pe_ix ix_tup (pv 3) pe_int (fun _ _ => rfl)) (pv 2) (nomark _))
        (pss_one (ps_raise rfl (takes_of rfl rfl rfl rfl) (pmk_oex T.E_BadProgram.S.ox T.E_BadProgram.ini T.E_BadProgram.tI G_BadProgram hr_BadProgram T.E_BadProgram.b .nil pass0 (by rfl) T.E_BadProgram.g (pa_cons pe_str pa_nil))))
        pss_nil)
        (pss_one (ps_ret (pv 3))))), ?_⟩
    obtain ⟨dx, fs, hp, fm⟩ := hc.meth (m := "variable") (by decide +kernel)
    refine ⟨_, rfl, p, dx, fs, rfl, hp, fm, _, rfl, H0, p, kn, tu, be, n, env, rfl, s0, hc, hk, ?_⟩
    unfold sizedM at h
    cases ev : env.lookup n with
    | none =>
      rw [ev] at h
      exact h
    | some v =>
      rw [ev] at h
      intro a ha
      refine ⟨_, rfl, a, _, _, _, rfl, rfl, ha, rfl, _, rfl, rfl, _, rfl, ?_⟩
      dsimp only at h
      refine ite2 (fun e => ?_) (fun e => ?_)
      · have e' : ¬ v.size = z := fun q => by simp [q] at e
        rw [if_neg e'] at h
        exact Rz.out h s0 (by decide +kernel)
      · have e' : v.size = z := Classical.byContradiction fun q => e (by simp [q])
        rw [if_pos e'] at h
        exact ⟨_, rfl, h a ha⟩
theorem ok_changed (T : Tx P K mg) (G_BadProgram : FnOk P w K mg base CX0 1 T.E_BadProgram.f T.E_BadProgram.fd ["self", "reason"] (spI1 T.E_BadProgram.C "reason")) :
    FnOk P w K mg base (L2.CX P w) 5 T.a_Checker_changed T.d_Checker_changed ["self", "name", "size"] (spChanged K T.c_Checker T.E_BadProgram.C) := by
  have G_Checker_sized := ok_sized T G_BadProgram
  refine T.F_Checker_changed.okX sc_Checker_changed (fun vs H Q E h => ?_) (fun cdv A outer s H vs Q E hr h => ?_)
  · obtain ⟨_, p, _, _, _, n, z, _, _, rfl, _⟩ := h
    rfl
  · obtain ⟨H0, p, kn, tu, be, n, z, env, tns, rfl, s0, hc, hk, ht, h⟩ := h
    have hr_BadProgram : Room 2 _ := hr.mono (by decide)
    have hr_Checker_sized : Room 4 _ := hr
    refine ⟨_, (pss_cons (ps_set (i := 3) sc_Checker_changed.nd rfl (.inl rfl) (pe_meth (pv 0) T.cl_Checker T.m_Checker_sized G_Checker_sized hr_Checker_sized T.b_Checker_sized .nil passE (pa_cons (pv 1) (pa_cons (pv 2) pa_nil))))
        (pss_cons (ps_if (pt_cmp (pc_din (hu_of hr) (pv 1) (pe_fld (pv 0) rfl)))
        (pss_one (ps_raise rfl (takes_of rfl rfl rfl rfl) (pmk_oex T.E_BadProgram.S.ox T.E_BadProgram.ini T.E_BadProgram.tI G_BadProgram hr_BadProgram T.E_BadProgram.b .nil pass0 (by rfl) T.E_BadProgram.g (pa_cons pe_str pa_nil))))
        pss_nil)
        (pss_one (ps_ret (pv 3))))), ?_⟩
    obtain ⟨dx, fs, hp, fm⟩ := hc.meth (m := "sized") (by decide +kernel)
    obtain ⟨dx2, fs2, hp2, ft⟩ := hc.turning
    obtain ⟨kvs, htu, hv⟩ := ht
    refine ⟨_, rfl, p, dx, fs, rfl, hp, fm, _, rfl, _, rfl, H0, p, kn, tu, be, n, z, env, rfl, s0, hc, hk, ?_⟩
    unfold changedM at h
    cases es : sizedM env n z with
    | error r =>
      rw [es] at h
      exact h
    | ok v =>
      rw [es] at h
      intro a ha
      refine ⟨_, rfl, _, rfl, p, T.c_Checker, dx2, fs2, _, rfl, hp2, T.cl_Checker, T.no_Checker_turning, ft, tu, _, rfl, DGet.k (k := Sum.inr n) htu, _, rfl, ?_⟩
      dsimp only at h
      refine ite2 (fun e => ?_) (fun e => ?_)
      · rw [hv n, decide_eq_true_eq] at e
        rw [if_pos e] at h
        exact Rz.out h s0 (by decide +kernel)
      · rw [hv n, decide_eq_true_eq] at e
        rw [if_neg e] at h
        exact ⟨_, rfl, h a ha⟩
theorem ok_expression (T : Tx P K mg) (G_BadProgram : FnOk P w K mg base CX0 1 T.E_BadProgram.f T.E_BadProgram.fd ["self", "reason"] (spI1 T.E_BadProgram.C "reason")) :
    FnOk P w K mg base (L2.CX P w) 5 T.a_Checker_expression T.d_Checker_expression ["self", "expression"] (spExpr K T.c_Checker T.E_BadProgram.C) := by
  have G_Checker_sized := ok_sized T G_BadProgram
  refine T.F_Checker_expression.okX sc_Checker_expression (fun vs H Q E h => ?_) (fun cdv A outer s H vs Q E hr h => ?_)
  · obtain ⟨_, p, _, _, _, a, _, _, rfl, _⟩ := h
    rfl
  · obtain ⟨H0, p, kn, tu, be, a, e, env, rfl, s0, hc, hk, he, hi, h⟩ := h
    have hr_BadProgram : Room 2 _ := hr.mono (by decide)
    have hr_Checker_sized : Room 4 _ := hr
    refine ⟨_, (pss_cons (ps_set (i := 2) sc_Checker_expression.nd rfl (.inl rfl) (pe_ix ix_tup (pv 1) pe_int (fun _ _ => rfl)))
        (pss_cons (ps_if (pt_cmpR op_eq (pv 2) pe_str (nomark _))
        (pss_one (ps_ret (pe_tup (pa_cons pe_str (pa_cons (pe_ix ix_tup (pv 1) pe_int (fun _ _ => rfl)) pa_nil)))))
        pss_nil)
        (pss_cons (ps_if (pt_cmpR op_eq (pv 2) pe_str (nomark _))
        (pss_one (ps_ret (pe_slice sl_tup (pe_meth (pv 0) T.cl_Checker T.m_Checker_sized G_Checker_sized hr_Checker_sized T.b_Checker_sized .nil passE (pa_cons (pe_ix ix_tup (pv 1) pe_int (fun _ _ => rfl)) (pa_cons pe_int pa_nil))) (po_some pe_int) (po_some pe_int))))
        pss_nil)
        (pss_cons ps_never
        (pss_cons ps_never
        (pss_one ps_never)))))), ?_⟩
    obtain ⟨dx, fs, hp, fm⟩ := hc.meth (m := "sized") (by decide +kernel)
    cases e with
    | item => exact absurd rfl hi
    | num i =>
      refine ⟨_, rfl, a, _, _, _, rfl, rfl, he, rfl, ?_⟩
      refine ⟨_, rfl, rfl, _, rfl, iteT' (by decide +kernel) ?_⟩
      refine ⟨_, rfl, a, _, _, _, rfl, rfl, he, rfl, (by show 2 ≤ sizeLine; decide), fun t ht => ?_⟩
      exact h t _ (fun b o hb => by rw [upd_ne (ne_of_none hb ht)]; exact hb) (SqT.of upd_same)
    | nm n =>
      refine ⟨_, rfl, a, _, _, _, rfl, rfl, he, rfl, ?_⟩
      refine ⟨_, rfl, rfl, _, rfl, iteF' (by decide +kernel) ?_⟩
      refine ⟨_, rfl, rfl, _, rfl, iteT' (by decide +kernel) ?_⟩
      refine ⟨_, rfl, p, dx, fs, rfl, hp, fm, _, rfl, a, _, _, _, rfl, rfl, he, rfl, H0, p, kn, tu, be, n, 0, env, rfl, s0, hc, hk, ?_⟩
      rw [exprM_nm] at h
      cases es : sizedM env n 0 with
      | error r =>
        rw [es] at h
        exact h
      | ok v =>
        rw [es] at h
        intro b hb
        refine ⟨1, rfl, 3, rfl, b, _, rfl, hb, part_ne, fun t ht => ?_⟩
        exact h t _ (fun o u ho => by rw [upd_ne (ne_of_none ho ht)]; exact ho) (SqT.of upd_same)
theorem ok_argument (T : Tx P K mg) (G_BadProgram : FnOk P w K mg base CX0 1 T.E_BadProgram.f T.E_BadProgram.fd ["self", "reason"] (spI1 T.E_BadProgram.C "reason")) :
    FnOk P w K mg base (L2.CX P w) 6 T.a_Checker_argument T.d_Checker_argument ["self", "argument", "param"] (spArg K T.c_Checker T.E_BadProgram.C) := by
  have G_Checker_sized := ok_sized T G_BadProgram
  have G_Checker_expression := ok_expression T G_BadProgram
  refine T.F_Checker_argument.okX sc_Checker_argument (fun vs H Q E h => ?_) (fun cdv A outer s H vs Q E hr h => ?_)
  · obtain ⟨_, p, _, _, _, a, b, _, _, _, _, _, _, rfl, _⟩ := h
    rfl
  · obtain ⟨H0, p, kn, tu, be, a, c, e, n, fl, most, size, env, rfl, s0, hc, hk, he, hi, hv, h⟩ := h
    have hr_BadProgram : Room 2 _ := hr.mono (by decide)
    have hr_Checker_sized : Room 4 _ := hr.mono (by decide)
    have hr_Checker_expression : Room 5 _ := hr
    refine ⟨_, (pss_cons (ps_set (i := 3) sc_Checker_argument.nd rfl (.inl rfl) (pe_ix ix_tup (pv 2) pe_int (fun _ _ => rfl)))
        (pss_cons (ps_if (pt_cmpR op_eq (pv 3) pe_int (nomark _))
        (pss_one (ps_ret (pe_meth (pv 0) T.cl_Checker T.m_Checker_expression G_Checker_expression hr_Checker_expression T.b_Checker_expression .nil passE (pa_cons (pv 1) pa_nil))))
        pss_nil)
        (pss_cons (ps_if (pt_cmpR op_ne (pe_ix ix_tup (pv 1) pe_int (fun _ _ => rfl)) pe_str (nomark _))
        (pss_one (ps_raise rfl (takes_of rfl rfl rfl rfl) (pmk_oex T.E_BadProgram.S.ox T.E_BadProgram.ini T.E_BadProgram.tI G_BadProgram hr_BadProgram T.E_BadProgram.b .nil pass0 (by rfl) T.E_BadProgram.g (pa_cons pe_str pa_nil))))
        pss_nil)
        (pss_one (ps_ret (pe_slice sl_tup (pe_meth (pv 0) T.cl_Checker T.m_Checker_sized G_Checker_sized hr_Checker_sized T.b_Checker_sized .nil passE (pa_cons (pe_ix ix_tup (pv 1) pe_int (fun _ _ => rfl)) (pa_cons (pv 3) pa_nil))) (po_some pe_int) (po_some pe_int))))))), ?_⟩
    obtain ⟨dx, fs, hp, fm⟩ := hc.meth (m := "sized") (by decide +kernel)
    obtain ⟨dx2, fs2, hp2, fe⟩ := hc.meth (m := "expression") (by decide +kernel)
    refine ⟨_, rfl, c, _, _, _, rfl, rfl, hv, rfl, _, rfl, rfl, _, rfl, ?_⟩
    unfold argM at h
    refine ite2 (fun e1 => ?_) (fun e1 => ?_)
    · have z : size = 0 := V.int.inj (of_decide_eq_true e1)
      rw [if_pos z] at h
      exact ⟨_, rfl, p, dx2, fs2, rfl, hp2, fe, _, rfl, H0, p, kn, tu, be, a, e, env, rfl, s0, hc, hk, he, hi z, h⟩
    · have z : ¬ size = 0 := fun q => e1 (decide_eq_true (congrArg V.int q))
      rw [if_neg z] at h
      cases e with
      | item =>
        obtain ⟨x, y, he⟩ := he
        refine ⟨_, rfl, a, _, _, _, rfl, rfl, he, rfl, rfl, _, rfl, iteT' (by decide +kernel) ?_⟩
        exact Rz.out h s0 (by decide +kernel)
      | num i =>
        refine ⟨_, rfl, a, _, _, _, rfl, rfl, he, rfl, rfl, _, rfl, iteT' (by decide +kernel) ?_⟩
        exact Rz.out h s0 (by decide +kernel)
      | nm m =>
        refine ⟨_, rfl, a, _, _, _, rfl, rfl, he, rfl, rfl, _, rfl, iteF' (by decide +kernel) ?_⟩
        refine ⟨_, rfl, p, dx, fs, rfl, hp, fm, _, rfl, a, _, _, _, rfl, rfl, he, rfl, _, rfl, H0, p, kn, tu, be, m, size, env, rfl, s0, hc, hk, ?_⟩
        rw [argM_nm] at h
        cases es : sizedM env m size with
        | error r =>
          rw [es] at h
          exact h
        | ok v =>
          rw [es] at h
          intro b hb
          refine ⟨1, rfl, 3, rfl, b, _, rfl, hb, part_ne, fun t ht => ?_⟩
          exact h t _ (fun o u ho => by rw [upd_ne (ne_of_none ho ht)]; exact ho) (SqT.of upd_same)
theorem ok_call (T : Tx P K mg) (G_BadProgram : FnOk P w K mg base CX0 1 T.E_BadProgram.f T.E_BadProgram.fd ["self", "reason"] (spI1 T.E_BadProgram.C "reason")) :
    FnOk P w K mg base (L2.CX P w) 7 T.a_Checker_call T.d_Checker_call ["self", "statement"] (spCall K T.c_Checker T.E_BadProgram.C) := by
  have G_need_fit := ok_need_fit T G_BadProgram
  have G_Checker_changed := ok_changed T G_BadProgram
  have G_Checker_argument := ok_argument T G_BadProgram
  refine T.F_Checker_call.okX sc_Checker_call (fun vs H Q E h => ?_) (fun cdv A outer s H vs Q E hr h => ?_)
  · obtain ⟨_, p, _, _, _, a, _, _, _, _, _, _, _, _, rfl, _⟩ := h
    rfl
  · obtain ⟨H0, p, kn, tu, be, a, at_, aa, targets, name, args, env, tns, fns, rfl, s0, hc, hk, ht, hb, ha, hat, haa, hi, h⟩ := h
    have hr_BadProgram : Room 2 _ := hr.mono (by decide)
    have hr_need_fit : Room 4 _ := hr.mono (by decide)
    have hr_Checker_changed : Room 5 _ := hr.mono (by decide)
    have hr_Checker_argument : Room 6 _ := hr
    refine ⟨_, (pss_cons (ps_asg (pv 1) (pg_tup rfl (pgs_cons (pg_name (i := 2) sc_Checker_call.nd rfl (.inl rfl)) (pgs_cons (pg_name (i := 3) sc_Checker_call.nd rfl (.inl rfl)) (pgs_cons (pg_name (i := 4) sc_Checker_call.nd rfl (.inl rfl)) (pgs_cons (pg_name (i := 5) sc_Checker_call.nd rfl (.inl rfl)) pgs_nil))))))
        (pss_cons (ps_if (pt_cmp (pc_dnotin (hu_of hr) (pv 4) (pe_fld (pv 0) rfl)))
        (pss_one (ps_raise rfl (takes_of rfl rfl rfl rfl) (pmk_oex T.E_BadProgram.S.ox T.E_BadProgram.ini T.E_BadProgram.tI G_BadProgram hr_BadProgram T.E_BadProgram.b .nil pass0 (by rfl) T.E_BadProgram.g (pa_cons pe_str pa_nil))))
        pss_nil)
        (pss_cons (ps_asg (pe_dget (hu_of hr) (pe_fld (pv 0) rfl) (pv 4) (fun _ _ => rfl)) (pg_tup rfl (pgs_cons (pg_name (i := 2) sc_Checker_call.nd rfl (.inl rfl)) (pgs_cons (pg_name (i := 6) sc_Checker_call.nd rfl (.inl rfl)) (pgs_cons (pg_name (i := 7) sc_Checker_call.nd rfl (.inl rfl)) (pgs_cons (pg_name (i := 2) sc_Checker_call.nd rfl (.inl rfl)) (pgs_cons (pg_name (i := 2) sc_Checker_call.nd rfl (.inl rfl)) pgs_nil)))))))
        (pss_cons (ps_if (PW.pt (pw_or (pt_cmpR op_ne (pe_callB call_len_seq (by rfl) T.z_len (by decide +kernel) (pa_cons (pv 5) pa_nil)) (pe_callB call_len_seq (by rfl) T.z_len (by decide +kernel) (pa_cons (pv 6) pa_nil)) (nomark _)) (pw_or1 (pt_cmpR op_ne (pe_callB call_len_seq (by rfl) T.z_len (by decide +kernel) (pa_cons (pv 3) pa_nil)) (pe_callB call_len_seq (by rfl) T.z_len (by decide +kernel) (pa_cons (pv 7) pa_nil)) (nomark _)))))
        (pss_one (ps_raise rfl (takes_of rfl rfl rfl rfl) (pmk_oex T.E_BadProgram.S.ox T.E_BadProgram.ini T.E_BadProgram.tI G_BadProgram hr_BadProgram T.E_BadProgram.b .nil pass0 (by rfl) T.E_BadProgram.g (pa_cons pe_str pa_nil))))
        pss_nil)
        (pss_cons (ps_for (passes_of rfl) rfl (RZ.pi_zipA rfl T.z_zip (pa_cons (pv 5) (pa_cons (pv 6) pa_nil))) (pg_tup rfl (pgs_cons (pg_name (i := 8) sc_Checker_call.nd rfl (.inl rfl)) (pgs_cons (pg_name (i := 9) sc_Checker_call.nd rfl (.inl rfl)) pgs_nil)))
        (pss_one (ps_expr (pe_call G_need_fit hr_need_fit (by rfl) T.g_need_fit T.F_need_fit.kp T.b_need_fit .nil passE (pa_cons (pe_meth (pv 0) T.cl_Checker T.m_Checker_argument G_Checker_argument hr_Checker_argument T.b_Checker_argument .nil passE (pa_cons (pv 8) (pa_cons (pv 9) pa_nil))) (pa_cons (pv 9) pa_nil))))))
        (pss_one (ps_for (passes_of rfl) rfl (RZ.pi_zipA rfl T.z_zip (pa_cons (pv 3) (pa_cons (pv 7) pa_nil))) (pg_tup rfl (pgs_cons (pg_name (i := 10) sc_Checker_call.nd rfl (.inl rfl)) (pgs_cons (pg_name (i := 11) sc_Checker_call.nd rfl (.inl rfl)) pgs_nil)))
        (pss_cons (ps_asg (pv 11) (pg_tup rfl (pgs_cons (pg_name (i := 2) sc_Checker_call.nd rfl (.inl rfl)) (pgs_cons (pg_name (i := 12) sc_Checker_call.nd rfl (.inl rfl)) (pgs_cons (pg_name (i := 13) sc_Checker_call.nd rfl (.inl rfl)) (pgs_cons (pg_name (i := 14) sc_Checker_call.nd rfl (.inl rfl)) pgs_nil))))))
        (pss_one (ps_expr (pe_call G_need_fit hr_need_fit (by rfl) T.g_need_fit T.F_need_fit.kp T.b_need_fit .nil passE (pa_cons (pe_tup (pa_cons (pv 12) (pa_cons (pv 13) pa_nil))) (pa_cons (pe_meth (pv 0) T.cl_Checker T.m_Checker_changed G_Checker_changed hr_Checker_changed T.b_Checker_changed .nil passE (pa_cons (pv 10) (pa_cons (pv 14) pa_nil))) pa_nil))))))))))))), ?_⟩
    obtain ⟨dx, fs, hp, fk⟩ : ∃ dx fs, H p = some (.ins T.c_Checker dx fs) ∧ fs.lookup ("before" : Str) = some (.ref be) := by
      obtain ⟨dx, fs, h, _, _, k, _⟩ := hc.at_
      exact ⟨dx, fs, h, k⟩
    obtain ⟨kvs, hbe, hbv⟩ := id hb
    refine ⟨_, rfl, a, _, rfl, ha, rfl, _, _, rfl, _, _, rfl, _, _, rfl, _, _, rfl, rfl, ?_⟩
    refine ⟨_, rfl, _, rfl, p, T.c_Checker, dx, fs, _, rfl, hp, T.cl_Checker, T.no_Checker_before, fk, be, _, rfl, DGet.k (k := Sum.inr name) hbe, _, rfl, ?_⟩
    unfold callM at h
    cases ef : fns.lookup name with
    | none =>
      rw [ef] at h
      rw [(hbv name).1 ef]
      exact iteT' rfl (Rz.out h s0 (by decide +kernel))
    | some f =>
      rw [ef] at h
      obtain ⟨fa, nm, ap, ar, x5, y5, e1, e2, e3, e4⟩ := (hbv name).2 f ef
      obtain ⟨xa, haa1, haa2, haa3⟩ := haa
      obtain ⟨xp, hp1, hp2, hp3⟩ := e3
      obtain ⟨xr, hr1, hr2, hr3⟩ := e4
      rw [e1]
      refine iteF' rfl ?_
      refine ⟨_, rfl, p, T.c_Checker, dx, fs, _, rfl, hp, T.cl_Checker, T.no_Checker_before, fk, _, rfl, be, _, rfl, by rw [← e1]; exact DGet.k (k := Sum.inr name) hbe, fa, _, rfl, e2, rfl, _, _, rfl, _, _, rfl, _, _, rfl, _, _, rfl, _, _, rfl, rfl, ?_⟩
      refine ⟨_, rfl, aa, _, rfl, .inr haa1, _, rfl, ap, _, rfl, .inr hp1, rfl, _, rfl, ?_⟩
      have hm2 : CkAt T.c_Checker H p kn tu be := hc
      have h' : Out T.E_BadProgram.C H0 E (fun _ => ∀ H', Same H H' → Q .non H') (if args.length ≠ f.1.length ∨ targets.length ≠ f.2.length then .error "type" else argsM env args f.1 (resM env tns targets f.2)) := h
      by_cases l1 : args.length = f.1.length
      · have b1 : (!decide (V.int (xa.length : Int) = V.int (xp.length : Int))) = false := by rw [haa2, hp2, l1]; simp
        refine iteF' b1 ?_
        refine ⟨_, rfl, at_, _, rfl, .inr hat, _, rfl, ar, _, rfl, .inr hr1, rfl, _, rfl, ?_⟩
        by_cases l2 : targets.length = f.2.length
        · have b2 : (!decide (V.int ((targets.map V.str).length : Int) = V.int (xr.length : Int))) = false := by rw [List.length_map, hr2, l2]; simp
          refine iteF' b2 ?_
          rw [if_neg (fun z => z.elim (fun q => q l1) (fun q => q l2))] at h'
          refine ⟨_, rfl, _, rfl, aa, ap, _, _, rfl, .inr ⟨haa1, hp1, RZ.for_zipT (K := K) (a := aa) (b := ap) (xs := xa) (ys := xp) (by rw [haa2, hp2, l1]) (fun i σ H' => ∃ v8 v9 : Option V, σ = [some (.ref p), some (.ref a), some y5, some (.ref at_), some (.str name), some (.ref aa), some (.ref ap), some (.ref ar), v8, v9, none, none, none, none, none] ∧ Same H H' ∧
              Out T.E_BadProgram.C H0 E (fun _ => ∀ G, Same H G → Q .non G) (argsM env (args.drop i) (f.1.drop i) (resM env tns targets f.2)))
            ⟨_, _, rfl, Same.refl H, h'⟩ (fun i σ H' ⟨_, _, _, s1, _⟩ => ⟨(tups_same s1).seq haa1, (tups_same s1).seq hp1⟩) ?_ ?_⟩⟩
          · rintro i x y t σ H' hx hy ⟨v8, v9, rfl, s1, h1⟩ hT
            have li : i < args.length := by
              have q := (List.getElem?_eq_some_iff.mp hx).1
              omega
            have li2 : i < f.1.length := by omega
            have ge : args[i]? = some args[i] := List.getElem?_eq_getElem li
            have gv : f.1[i]? = some f.1[i] := List.getElem?_eq_getElem li2
            obtain ⟨ea, ex, hex⟩ := haa3 i _ ge
            obtain ⟨vb, ev, hev⟩ := hp3 i _ gv
            obtain rfl : x = .ref ea := Option.some.inj (hx.symm.trans ex)
            obtain rfl : y = .ref vb := Option.some.inj (hy.symm.trans ev)
            rw [List.drop_eq_getElem_cons li, List.drop_eq_getElem_cons li2] at h1
            have hit := hi f ef i _ _ ge gv
            generalize args[i] = e at hex h1 hit
            generalize f.1[i] = v at hev h1 hit
            have s2 : Same H (upd H' t (.tup [.ref ea, .ref vb])) := s1.trans (same_upd hT)
            refine ⟨t, _, rfl, SqT.of upd_same, rfl, _, _, rfl, _, _, rfl, rfl, ?_⟩
            obtain ⟨dx2, fs2, hp2', fm⟩ := (ck_same hc s2).meth (m := "argument") (by decide +kernel)
            refine ⟨_, rfl, p, dx2, fs2, rfl, hp2', fm, _, rfl, _, rfl, H0, p, kn, tu, be, ea, vb, e, v.1, v.2.fl, v.2.most, v.2.size, env, rfl, s0.trans s2, ck_same hc s2, kn_same hk s2, ex_tups hex (tups_same s2), hit, (tups_same s2).seq hev, ?_⟩
            rw [argsM] at h1
            cases ee : argM env v.2.size e with
            | error r =>
              rw [ee] at h1
              exact h1
            | ok r =>
              rw [ee] at h1
              intro b H3 s3 hb3
              have s4 := s2.trans s3
              refine ⟨_, rfl, H0, b, vb, r.1, r.2, v.1, v.2.fl, v.2.most, v.2.size, rfl, s0.trans s4, hb3, (tups_same s4).seq hev, ?_⟩
              dsimp only at h1
              cases eg : fitM r.1 r.2 v.2.fl v.2.most with
              | error q2 =>
                rw [eg] at h1
                exact h1
              | ok _ =>
                rw [eg] at h1
                exact ⟨_, _, rfl, s4, h1⟩
          · rintro σ H' ⟨v8, v9, rfl, s1, h1⟩
            rw [List.drop_of_length_le (by rw [haa2]; exact Nat.le_refl _), argsM_nil] at h1
            refine ⟨_, rfl, _, rfl, at_, ar, _, _, rfl, .inr ⟨(tups_same s1).seq hat, (tups_same s1).seq hr1, RZ.for_zipT (K := K) (a := at_) (b := ar) (xs := targets.map V.str) (ys := xr) (by rw [List.length_map, hr2, l2]) (fun i σ H' => ∃ v2 v10 v11 v12 v13 v14 : Option V, σ = [some (.ref p), some (.ref a), v2, some (.ref at_), some (.str name), some (.ref aa), some (.ref ap), some (.ref ar), v8, v9, v10, v11, v12, v13, v14] ∧ Same H H' ∧
                Out T.E_BadProgram.C H0 E (fun _ => ∀ G, Same H G → Q .non G) (resM env tns (targets.drop i) (f.2.drop i)))
              ⟨_, _, _, _, _, _, rfl, s1, h1⟩ (fun i σ H' ⟨_, _, _, _, _, _, _, s1, _⟩ => ⟨(tups_same s1).seq hat, (tups_same s1).seq hr1⟩) ?_ ?_⟩⟩
            · rintro i x y t σ H' hx hy ⟨v2, v10, v11, v12, v13, v14, rfl, s1, h1⟩ hT
              have li : i < targets.length := by
                have q := (List.getElem?_eq_some_iff.mp hx).1
                rw [List.length_map] at q
                exact q
              have li2 : i < f.2.length := by omega
              have gv : f.2[i]? = some f.2[i] := List.getElem?_eq_getElem li2
              obtain ⟨vb, ev, hev⟩ := hr3 i _ gv
              rw [List.getElem?_map, List.getElem?_eq_getElem li] at hx
              obtain rfl : x = .str targets[i] := (Option.some.inj hx).symm
              obtain rfl : y = .ref vb := Option.some.inj (hy.symm.trans ev)
              rw [List.drop_eq_getElem_cons li, List.drop_eq_getElem_cons li2] at h1
              generalize targets[i] = tg at h1
              generalize f.2[i] = v at hev h1
              have s2 : Same H (upd H' t (.tup [.str tg, .ref vb])) := s1.trans (same_upd hT)
              refine ⟨t, _, rfl, SqT.of upd_same, rfl, _, _, rfl, _, _, rfl, rfl, ?_⟩
              refine ⟨_, rfl, vb, _, rfl, (tups_same s2).seq hev, rfl, _, _, rfl, _, _, rfl, _, _, rfl, _, _, rfl, rfl, ?_⟩
              refine ⟨_, rfl, _, rfl, (by show 2 ≤ sizeLine; decide), fun u hu => ?_⟩
              have s3 := s2.trans (same_upd (o := .tup [.str v.2.fl, .int v.2.most]) hu)
              obtain ⟨dx2, fs2, hp2', fm⟩ := (ck_same hc s3).meth (m := "changed") (by decide +kernel)
              refine ⟨_, rfl, p, dx2, fs2, rfl, hp2', fm, _, rfl, _, rfl, H0, p, kn, tu, be, tg, v.2.size, env, tns, rfl, s0.trans s3, ck_same hc s3, kn_same hk s3, tu_same ht s3, ?_⟩
              rw [resM] at h1
              cases ee : changedM env tns tg v.2.size with
              | error r =>
                rw [ee] at h1
                exact h1
              | ok z =>
                rw [ee] at h1
                intro c hcv
                refine ⟨H0, u, c, v.2.fl, v.2.most, tg, z.fl, z.most, z.size, rfl, s0.trans s3, SqT.of upd_same, hcv, ?_⟩
                dsimp only at h1
                cases eg : fitM v.2.fl v.2.most z.fl z.most with
                | error q2 =>
                  rw [eg] at h1
                  exact h1
                | ok _ =>
                  rw [eg] at h1
                  exact ⟨_, _, _, _, _, _, rfl, s3, h1⟩
            · rintro σ H' ⟨v2, v10, v11, v12, v13, v14, rfl, s1, h1⟩
              rw [List.length_map, List.drop_of_length_le (Nat.le_refl _), resM_nil] at h1
              exact h1 _ s1
        · have b2 : (!decide (V.int ((targets.map V.str).length : Int) = V.int (xr.length : Int))) = true := by
            rw [List.length_map, hr2]
            simp
            omega
          refine iteT' b2 ?_
          rw [if_pos (.inr l2)] at h'
          exact Rz.out h' s0 (by decide +kernel)
      · have b1 : (!decide (V.int (xa.length : Int) = V.int (xp.length : Int))) = true := by
          rw [haa2, hp2]
          simp
          omega
        refine iteT' b1 ?_
        rw [if_pos (.inl l1)] at h'
        exact Rz.out h' s0 (by decide +kernel)
theorem ok_loop (T : Tx P K mg) (G_BadProgram : FnOk P w K mg base CX0 1 T.E_BadProgram.f T.E_BadProgram.fd ["self", "reason"] (spI1 T.E_BadProgram.C "reason"))
    {α : Type} {subAt : Hp → Addr → α → Prop} {subM : EN → List Str → FN → α → Except Str Unit} {subOk : FN → α → Prop} {D lv : Nat} (hlv : 6 ≤ lv) (mono : ∀ H H' a b, subAt H a b → Tups H H' → subAt H' a b) (G_Checker_body : FnOk P w K mg base (L2.CX P w) lv T.a_Checker_body T.d_Checker_body ["self", "body"] (spSub K T.c_Checker T.E_BadProgram.C subAt subM subOk D)) :
    FnOk P w K mg base (L2.CX P w) (lv + 1) T.a_Checker_loop T.d_Checker_loop ["self", "statement"] (spLoop K T.c_Checker T.E_BadProgram.C subAt subM subOk D) := by
  refine T.F_Checker_loop.okX sc_Checker_loop (fun vs H Q E h => ?_) (fun cdv A outer s H vs Q E hr h => ?_)
  · obtain ⟨_, p, _, _, _, a, _, _, _, _, _, _, _, _, _, rfl, _⟩ := h
    rfl
  · obtain ⟨H0, p, kn, tu, be, a, y, n, f, l, b, env, tns, fns, m, rfl, g, ha, hy, ho, h⟩ := h
    have hr_BadProgram : Room 2 _ := hr.mono (by omega)
    have hr_Checker_body : Room lv _ := hr
    refine ⟨_, (pss_cons (ps_asg (pv 1) (pg_tup rfl (pgs_cons (pg_name (i := 2) sc_Checker_loop.nd rfl (.inl rfl)) (pgs_cons (pg_name (i := 3) sc_Checker_loop.nd rfl (.inl rfl)) (pgs_cons (pg_name (i := 2) sc_Checker_loop.nd rfl (.inl rfl)) (pgs_cons (pg_name (i := 4) sc_Checker_loop.nd rfl (.inl rfl)) (pgs_cons (pg_name (i := 5) sc_Checker_loop.nd rfl (.inl rfl)) pgs_nil)))))))
        (pss_cons (ps_if (pt_cmp (pc_din (hu_of hr) (pv 3) (pe_fld (pv 0) rfl)))
        (pss_one (ps_raise rfl (takes_of rfl rfl rfl rfl) (pmk_oex T.E_BadProgram.S.ox T.E_BadProgram.ini T.E_BadProgram.tI G_BadProgram hr_BadProgram T.E_BadProgram.b .nil pass0 (by rfl) T.E_BadProgram.g (pa_cons pe_str pa_nil))))
        pss_nil)
        (pss_cons (ps_dput (hu_of hr) (pe_fld (pv 0) rfl) (pv 3) (pe_tup (pa_cons (pv 3) (pa_cons pe_str (pa_cons (pv 4) (pa_cons pe_int pa_nil))))) rfl)
        (pss_cons (ps_dput (hu_of hr) (pe_fld (pv 0) rfl) (pv 3) pe_bl rfl)
        (pss_cons (ps_expr (pe_meth (pv 0) T.cl_Checker T.m_Checker_body G_Checker_body hr_Checker_body T.b_Checker_body .nil passE (pa_cons (pv 5) pa_nil)))
        (pss_cons (ps_ddel (pe_fld (pv 0) rfl) (pv 3))
        (pss_one (ps_ddel (pe_fld (pv 0) rfl) (pv 3))))))))), ?_⟩
    obtain ⟨dx, fs, hp, fk, ft, fb, fm⟩ := g.ck.at_
    obtain ⟨kvs, hkn, hkv⟩ := id g.hk
    obtain ⟨kts, htu, htv⟩ := id g.ht
    have lk : kvs.length ≤ m := by
      obtain ⟨k2, e, q⟩ := g.fk
      rw [hkn] at e
      cases e
      exact q
    have lt : kts.length ≤ m := by
      obtain ⟨k2, e, q⟩ := g.ft
      rw [htu] at e
      cases e
      exact q
    have md := g.md
    refine ⟨_, rfl, a, _, rfl, ha, rfl, _, _, rfl, _, _, rfl, _, _, rfl, _, _, rfl, _, _, rfl, rfl, ?_⟩
    refine ⟨_, rfl, _, rfl, p, T.c_Checker, dx, fs, _, rfl, hp, T.cl_Checker, T.no_Checker_known, fk, kn, _, rfl, DGet.k (k := Sum.inr n) hkn, _, rfl, ?_⟩
    unfold loopM at h
    cases ev : env.lookup n with
    | some v =>
      rw [ev] at h
      obtain ⟨c, ec, _⟩ := (hkv n).2 v ev
      rw [ec]
      exact iteT' rfl (Rz.out h g.s0 (by decide +kernel))
    | none =>
      rw [ev] at h
      have vk := (hkv n).1 ev
      have ntn : n ∉ tns := fun q => g.te n q ev
      have vt : valV kts (Sum.inr n) = none := by
        have q := htv n
        rw [decide_eq_false ntn] at q
        cases z : valV kts (Sum.inr n) with
        | none => rfl
        | some _ =>
          rw [z] at q
          cases q
      rw [vk]
      refine iteF' rfl ?_
      refine ⟨_, rfl, _, rfl, (by show 4 ≤ sizeLine; decide), fun t ht => ?_⟩
      have tk : kn ≠ t := ne_of_none hkn ht
      have tt : tu ≠ t := ne_of_none htu ht
      have tp : p ≠ t := ne_of_none hp ht
      have pk : p ≠ kn := ne_of hp hkn (by intro z; cases z)
      have pt : p ≠ tu := ne_of hp htu (by intro z; cases z)
      obtain ⟨Ha, eHa⟩ : ∃ Ha, Ha = upd H t (.tup [.str n, .str "public", .int l, .int 0]) := ⟨_, rfl⟩
      rw [← eHa]
      have sHa : Same H Ha := by rw [eHa]; exact same_upd ht
      have hta : Ha t = some (.tup [.str n, .str "public", .int l, .int 0]) := by rw [eHa]; exact upd_same
      refine ⟨_, rfl, p, T.c_Checker, dx, fs, _, rfl, sHa _ _ hp, T.cl_Checker, T.no_Checker_known, fk, _, rfl, kn, _, rfl, DPut.k (k := Sum.inr n) (sHa _ _ hkn) (Nat.lt_of_le_of_lt (Nat.le_trans lk (by omega : m ≤ 1000)) (by decide)), ?_⟩
      obtain ⟨Hb, eHb⟩ : ∃ Hb, Hb = upd Ha kn (.dK (putK kvs (Sum.inr n) (.ref t))) := ⟨_, rfl⟩
      rw [← eHb]
      have hbk : Hb kn = some (.dK (putK kvs (Sum.inr n) (.ref t))) := by rw [eHb]; exact upd_same
      have hbo : ∀ x o, x ≠ kn → H x = some o → Hb x = some o := fun x o nx e => by rw [eHb, upd_ne nx]; exact sHa _ _ e
      refine ⟨_, rfl, p, T.c_Checker, dx, fs, _, rfl, hbo _ _ pk hp, T.cl_Checker, T.no_Checker_turning, ft, _, rfl, tu, _, rfl, DPut.k (k := Sum.inr n) (hbo _ _ g.kt.symm htu) (Nat.lt_of_le_of_lt (Nat.le_trans lt (by omega : m ≤ 1000)) (by decide)), ?_⟩
      obtain ⟨Hc, eHc⟩ : ∃ Hc, Hc = upd Hb tu (.dK (putK kts (Sum.inr n) (.bl true))) := ⟨_, rfl⟩
      rw [← eHc]
      have hct : Hc tu = some (.dK (putK kts (Sum.inr n) (.bl true))) := by rw [eHc]; exact upd_same
      have hck : Hc kn = some (.dK (putK kvs (Sum.inr n) (.ref t))) := by rw [eHc, upd_ne g.kt]; exact hbk
      have hco : ∀ x o, x ≠ kn → x ≠ tu → H x = some o → Hc x = some o := fun x o nx nt e => by rw [eHc, upd_ne nt]; exact hbo _ _ nx e
      have tups : Tups H Hc := by
        refine (tups_same sHa).trans (Tups.trans (H1 := Hb) ?_ ?_)
        · rw [eHb]
          exact tups_upd (sHa _ _ hkn)
        · rw [eHc]
          exact tups_upd (hbo _ _ g.kt.symm htu)
      have htc : Hc t = some (.tup [.str n, .str "public", .int l, .int 0]) := by rw [eHc, upd_ne tt.symm, eHb, upd_ne tk.symm]; exact hta
      have s0c : Same H0 Hc := fun x o e => hco x o (fun z => by rw [z, g.zk] at e; cases e) (fun z => by rw [z, g.zt] at e; cases e) (g.s0 _ _ e)
      have g2 : Gd K T.c_Checker H0 Hc p kn tu be ((n, ⟨"public", l, 0⟩) :: env) (n :: tns) fns (m + 1) D := by
        refine ⟨s0c, g.zk, g.zt, g.kt, g.kb, g.tb, ⟨dx, fs, hco _ _ pk pt hp, fk, ft, fb, fm⟩, ⟨_, hck, fun n' => ?_⟩, ⟨_, hct, fun n' => ?_⟩, be_tups g.hb tups fun q e => hco _ _ g.kb.symm g.tb.symm e, ⟨_, hck, Nat.le_trans (length_putK _ _ _) (Nat.succ_le_succ lk)⟩, ⟨_, hct, Nat.le_trans (length_putK _ _ _) (Nat.succ_le_succ lt)⟩, by omega, fun n' hn => ?_⟩
        · rw [valV_put]
          by_cases q : n' = n
          · subst q
            rw [if_pos rfl, List.lookup_cons_self]
            refine ⟨fun z => (by cases z), fun v hv => ?_⟩
            cases hv
            exact ⟨t, rfl, SqT.of htc⟩
          · have q1 : (n' == n) = false := by simpa using q
            have q2 : List.lookup n' ((n, (⟨"public", l, 0⟩ : Vr)) :: env) = env.lookup n' := by rw [List.lookup_cons, q1]
            rw [if_neg (fun z => q (Sum.inr.inj z)), q2]
            refine ⟨(hkv n').1, fun v hv => ?_⟩
            obtain ⟨c, e1, e2⟩ := (hkv n').2 v hv
            exact ⟨c, e1, tups.seq e2⟩
        · rw [valV_put]
          by_cases q : n' = n
          · subst q
            rw [if_pos rfl]
            simp
          · rw [if_neg (fun z => q (Sum.inr.inj z)), htv n']
            simp [q]
        · rcases List.mem_cons.mp hn with q | q
          · subst q
            rw [List.lookup_cons_self]
            intro z
            cases z
          · by_cases q3 : n' = n
            · subst q3
              rw [List.lookup_cons_self]
              intro z
              cases z
            · have q1 : (n' == n) = false := by simpa using q3
              rw [List.lookup_cons, q1]
              exact g.te n' q
      refine ⟨_, rfl, p, dx, fs, rfl, hco _ _ pk pt hp, fm "body" (by decide +kernel), _, rfl, H0, p, kn, tu, be, y, b, _, _, fns, m + 1, rfl, g2, mono _ _ _ _ hy tups, ho, ?_⟩
      dsimp only at h
      cases es : subM ((n, ⟨"public", l, 0⟩) :: env) (n :: tns) fns b with
      | error r =>
        rw [es] at h
        exact h
      | ok u =>
        rw [es] at h
        intro H3 s3
        refine ⟨_, rfl, p, T.c_Checker, dx, fs, _, rfl, s3 _ _ (hco _ _ pk pt hp), T.cl_Checker, T.no_Checker_known, fk, _, rfl, kn, _, Sum.inr n, rfl, s3 _ _ hck, rfl, by rw [valV_put, if_pos rfl]; rfl, ?_⟩
        rw [drop_put vk]
        refine ⟨_, rfl, p, T.c_Checker, dx, fs, _, rfl, by rw [upd_ne pk]; exact s3 _ _ (hco _ _ pk pt hp), T.cl_Checker, T.no_Checker_turning, ft, _, rfl, tu, _, Sum.inr n, rfl, by rw [upd_ne g.kt.symm]; exact s3 _ _ hct, rfl, by rw [valV_put, if_pos rfl]; rfl, ?_⟩
        rw [drop_put vt]
        refine h _ fun x o e => ?_
        by_cases q1 : x = tu
        · subst q1
          rw [htu] at e
          cases e
          exact upd_same
        · rw [upd_ne q1]
          by_cases q2 : x = kn
          · subst q2
            rw [hkn] at e
            cases e
            exact upd_same
          · rw [upd_ne q2]
            exact s3 _ _ (hco _ _ q2 q1 e)
theorem ok_statement (T : Tx P K mg) (G_BadProgram : FnOk P w K mg base CX0 1 T.E_BadProgram.f T.E_BadProgram.fd ["self", "reason"] (spI1 T.E_BadProgram.C "reason"))
    {α : Type} {subAt : Hp → Addr → α → Prop} {subM : EN → List Str → FN → α → Except Str Unit} {subOk : FN → α → Prop} {D lv : Nat} (hlv : 6 ≤ lv) (mono : ∀ H H' a b, subAt H a b → Tups H H' → subAt H' a b) (G_Checker_body : FnOk P w K mg base (L2.CX P w) lv T.a_Checker_body T.d_Checker_body ["self", "body"] (spSub K T.c_Checker T.E_BadProgram.C subAt subM subOk D)) :
    FnOk P w K mg base (L2.CX P w) (lv + 2) T.a_Checker_statement T.d_Checker_statement ["self", "statement"] (spStm K T.c_Checker T.E_BadProgram.C subAt subM subOk D) := by
  have G_need_fit := ok_need_fit T G_BadProgram
  have G_Checker_changed := ok_changed T G_BadProgram
  have G_Checker_expression := ok_expression T G_BadProgram
  have G_Checker_call := ok_call T G_BadProgram
  have G_Checker_loop := ok_loop T G_BadProgram hlv mono G_Checker_body
  refine T.F_Checker_statement.okX sc_Checker_statement (fun vs H Q E h => ?_) (fun cdv A outer s H vs Q E hr h => ?_)
  · obtain ⟨_, p, _, _, _, a, _, _, _, _, _, rfl, _⟩ := h
    rfl
  · obtain ⟨H0, p, kn, tu, be, a, st, env, tns, fns, m, rfl, g, ha, ho, h⟩ := h
    have hr_BadProgram : Room 2 _ := hr.mono (by omega)
    have hr_need_fit : Room 4 _ := hr.mono (by omega)
    have hr_Checker_changed : Room 5 _ := hr.mono (by omega)
    have hr_Checker_expression : Room 5 _ := hr.mono (by omega)
    have hr_Checker_call : Room 7 _ := hr.mono (by omega)
    have hr_Checker_loop : Room (lv + 1) _ := hr
    have hr_Checker_body : Room lv _ := hr.mono (by omega)
    refine ⟨_, (pss_cons (ps_set (i := 2) sc_Checker_statement.nd rfl (.inl rfl) (pe_ix ix_tup (pv 1) pe_int (fun _ _ => rfl)))
        (pss_one (ps_if (pt_cmpR op_eq (pv 2) pe_str (nomark _))
        (pss_cons (ps_asg (pv 1) (pg_tup rfl (pgs_cons (pg_name (i := 3) sc_Checker_statement.nd rfl (.inl rfl)) (pgs_cons (pg_name (i := 4) sc_Checker_statement.nd rfl (.inl rfl)) (pgs_cons (pg_name (i := 5) sc_Checker_statement.nd rfl (.inl rfl)) pgs_nil)))))
        (pss_cons (ps_set (i := 6) sc_Checker_statement.nd rfl (.inl rfl) (pe_meth (pv 0) T.cl_Checker T.m_Checker_expression G_Checker_expression hr_Checker_expression T.b_Checker_expression .nil passE (pa_cons (pv 5) pa_nil)))
        (pss_one (ps_expr (pe_call G_need_fit hr_need_fit (by rfl) T.g_need_fit T.F_need_fit.kp T.b_need_fit .nil passE (pa_cons (pv 6) (pa_cons (pe_meth (pv 0) T.cl_Checker T.m_Checker_changed G_Checker_changed hr_Checker_changed T.b_Checker_changed .nil passE (pa_cons (pv 4) (pa_cons pe_int pa_nil))) pa_nil)))))))
        (pss_one (ps_if (pt_cmpR op_eq (pv 2) pe_str (nomark _))
        (pss_cons ps_never
        (pss_cons ps_never
        (pss_cons ps_never
        (pss_one ps_never))))
        (pss_one (ps_if (pt_cmpR op_eq (pv 2) pe_str (nomark _))
        (pss_one (ps_expr (pe_meth (pv 0) T.cl_Checker T.m_Checker_loop G_Checker_loop hr_Checker_loop T.b_Checker_loop .nil passE (pa_cons (pv 1) pa_nil))))
        (pss_one (ps_if (pt_cmpR op_eq (pv 2) pe_str (nomark _))
        (pss_cons (ps_asg (pv 1) (pg_tup rfl (pgs_cons (pg_name (i := 3) sc_Checker_statement.nd rfl (.inl rfl)) (pgs_cons (pg_name (i := 9) sc_Checker_statement.nd rfl (.inl rfl)) (pgs_cons (pg_name (i := 10) sc_Checker_statement.nd rfl (.inl rfl)) (pgs_cons (pg_name (i := 11) sc_Checker_statement.nd rfl (.inl rfl)) pgs_nil))))))
        (pss_cons (ps_asg (pe_meth (pv 0) T.cl_Checker T.m_Checker_expression G_Checker_expression hr_Checker_expression T.b_Checker_expression .nil passE (pa_cons (pv 9) pa_nil)) (pg_tup rfl (pgs_cons (pg_name (i := 12) sc_Checker_statement.nd rfl (.inl rfl)) (pgs_cons (pg_name (i := 3) sc_Checker_statement.nd rfl (.inl rfl)) pgs_nil))))
        (pss_cons (ps_if (pt_cmpR op_eq (pv 12) pe_str (nomark _))
        (pss_one (ps_raise rfl (takes_of rfl rfl rfl rfl) (pmk_oex T.E_BadProgram.S.ox T.E_BadProgram.ini T.E_BadProgram.tI G_BadProgram hr_BadProgram T.E_BadProgram.b .nil pass0 (by rfl) T.E_BadProgram.g (pa_cons pe_str pa_nil))))
        pss_nil)
        (pss_cons (ps_expr (pe_meth (pv 0) T.cl_Checker T.m_Checker_body G_Checker_body hr_Checker_body T.b_Checker_body .nil passE (pa_cons (pv 10) pa_nil)))
        (pss_one (ps_expr (pe_meth (pv 0) T.cl_Checker T.m_Checker_body G_Checker_body hr_Checker_body T.b_Checker_body .nil passE (pa_cons (pv 11) pa_nil))))))))
        (pss_one (ps_expr (pe_meth (pv 0) T.cl_Checker T.m_Checker_call G_Checker_call hr_Checker_call T.b_Checker_call .nil passE (pa_cons (pv 1) pa_nil))))))))))))), ?_⟩
    obtain ⟨dx, fs, hp, _, _, _, fm⟩ := g.ck.at_
    cases st with
    | set n e =>
      obtain ⟨x, h1, he⟩ := ha
      refine ⟨_, rfl, a, _, _, _, rfl, rfl, h1, rfl, _, rfl, rfl, _, rfl, iteT' (by decide +kernel) ?_⟩
      refine ⟨_, rfl, a, _, rfl, h1, rfl, _, _, rfl, _, _, rfl, _, _, rfl, rfl, ?_⟩
      refine ⟨_, rfl, p, dx, fs, rfl, hp, fm "expression" (by decide +kernel), _, rfl, H0, p, kn, tu, be, x, e, env, rfl, g.s0, g.ck, g.hk, he, ho, ?_⟩
      unfold stmM at h
      dsimp only at h
      cases ee : exprM env e with
      | error r =>
        rw [ee] at h
        exact h
      | ok r =>
        rw [ee] at h
        intro b H2 s2 hb
        dsimp only at h
        have g2 := g.same s2
        refine ⟨_, rfl, _, rfl, p, dx, fs, rfl, s2 _ _ hp, fm "changed" (by decide +kernel), _, rfl, H0, p, kn, tu, be, n, 0, env, tns, rfl, g2.s0, g2.ck, g2.hk, g2.ht, ?_⟩
        cases ec : changedM env tns n 0 with
        | error q =>
          rw [ec] at h
          exact h
        | ok u =>
          rw [ec] at h
          intro c hc
          refine ⟨H0, b, c, r.1, r.2, n, u.fl, u.most, u.size, rfl, g2.s0, hb, hc, ?_⟩
          dsimp only at h
          cases ef : fitM r.1 r.2 u.fl u.most with
          | error q2 =>
            rw [ef] at h
            exact h
          | ok _ =>
            rw [ef] at h
            exact h _ s2
    | ifs c b1 b2 =>
      obtain ⟨x, y, z, h1, he, hy, hz⟩ := ha
      obtain ⟨o1, o2, o3⟩ := ho
      refine ⟨_, rfl, a, _, _, _, rfl, rfl, h1, rfl, _, rfl, rfl, _, rfl, iteF' (by decide +kernel) ?_⟩
      refine ⟨_, rfl, rfl, _, rfl, iteF' (by decide +kernel) ?_⟩
      refine ⟨_, rfl, rfl, _, rfl, iteF' (by decide +kernel) ?_⟩
      refine ⟨_, rfl, rfl, _, rfl, iteT' (by decide +kernel) ?_⟩
      refine ⟨_, rfl, a, _, rfl, h1, rfl, _, _, rfl, _, _, rfl, _, _, rfl, _, _, rfl, rfl, ?_⟩
      refine ⟨_, rfl, p, dx, fs, rfl, hp, fm "expression" (by decide +kernel), _, rfl, H0, p, kn, tu, be, x, c, env, rfl, g.s0, g.ck, g.hk, he, o1, ?_⟩
      unfold stmM at h
      dsimp only at h
      cases ee : exprM env c with
      | error r =>
        rw [ee] at h
        exact h
      | ok r =>
        rw [ee] at h
        intro b H2 s2 hb
        dsimp only at h
        have g2 := g.same s2
        refine ⟨b, _, rfl, hb, rfl, _, _, rfl, _, _, rfl, rfl, ?_⟩
        refine ⟨_, rfl, rfl, _, rfl, ?_⟩
        refine ite2 (fun e1 => ?_) (fun e1 => ?_)
        · have e1' : r.1 = "secret" := V.str.inj (of_decide_eq_true e1)
          rw [if_pos e1'] at h
          exact Rz.out h g2.s0 (by decide +kernel)
        · have e1' : ¬ r.1 = "secret" := fun q => e1 (decide_eq_true (congrArg V.str q))
          rw [if_neg e1'] at h
          refine ⟨_, rfl, p, dx, fs, rfl, s2 _ _ hp, fm "body" (by decide +kernel), _, rfl, H0, p, kn, tu, be, y, b1, env, tns, fns, m, rfl, g2.less (Nat.le_succ _), mono _ _ _ _ hy (tups_same s2), o2, ?_⟩
          cases eb : subM env tns fns b1 with
          | error q =>
            rw [eb] at h
            exact h
          | ok _ =>
            rw [eb] at h
            intro H3 s3
            have s4 := s2.trans s3
            dsimp only at h
            refine ⟨_, rfl, p, dx, fs, rfl, s4 _ _ hp, fm "body" (by decide +kernel), _, rfl, H0, p, kn, tu, be, z, b2, env, tns, fns, m, rfl, (g.same s4).less (Nat.le_succ _), mono _ _ _ _ hz (tups_same s4), o3, ?_⟩
            cases ec : subM env tns fns b2 with
            | error q =>
              rw [ec] at h
              exact h
            | ok _ =>
              rw [ec] at h
              intro H5 s5
              exact h _ (s4.trans s5)
    | loop n f l b =>
      obtain ⟨y, h1, hy⟩ := ha
      refine ⟨_, rfl, a, _, _, _, rfl, rfl, h1, rfl, _, rfl, rfl, _, rfl, iteF' (by decide +kernel) ?_⟩
      refine ⟨_, rfl, rfl, _, rfl, iteF' (by decide +kernel) ?_⟩
      refine ⟨_, rfl, rfl, _, rfl, iteT' (by decide +kernel) ?_⟩
      exact ⟨_, rfl, p, dx, fs, rfl, hp, fm "loop" (by decide +kernel), _, rfl, H0, p, kn, tu, be, a, y, n, f, l, b, env, tns, fns, m, rfl, g, h1, hy, ho, h⟩
    | call ts name args =>
      obtain ⟨x, y, h1, hx, hy⟩ := ha
      refine ⟨_, rfl, a, _, _, _, rfl, rfl, h1, rfl, _, rfl, rfl, _, rfl, iteF' (by decide +kernel) ?_⟩
      refine ⟨_, rfl, rfl, _, rfl, iteF' (by decide +kernel) ?_⟩
      refine ⟨_, rfl, rfl, _, rfl, iteF' (by decide +kernel) ?_⟩
      refine ⟨_, rfl, rfl, _, rfl, iteF' (by decide +kernel) ?_⟩
      exact ⟨_, rfl, p, dx, fs, rfl, hp, fm "call" (by decide +kernel), _, rfl, H0, p, kn, tu, be, a, x, y, ts, name, args, env, tns, fns, rfl, g.s0, g.ck, g.hk, g.ht, g.hb, h1, hx, hy, ho, h⟩
theorem ok_body (T : Tx P K mg) (G_BadProgram : FnOk P w K mg base CX0 1 T.E_BadProgram.f T.E_BadProgram.fd ["self", "reason"] (spI1 T.E_BadProgram.C "reason"))
    {α : Type} {subAt : Hp → Addr → α → Prop} {subM : EN → List Str → FN → α → Except Str Unit} {subOk : FN → α → Prop} {D lv : Nat} (hlv : 6 ≤ lv) (mono : ∀ H H' a b, subAt H a b → Tups H H' → subAt H' a b) (G_Checker_body : FnOk P w K mg base (L2.CX P w) lv T.a_Checker_body T.d_Checker_body ["self", "body"] (spSub K T.c_Checker T.E_BadProgram.C subAt subM subOk D)) :
    FnOk P w K mg base (L2.CX P w) (lv + 3) T.a_Checker_body T.d_Checker_body ["self", "body"] (spSub K T.c_Checker T.E_BadProgram.C (rowAt K subAt) (bodyM subM) (rowOk subOk) (D + 1)) := by
  have G_Checker_statement := ok_statement T G_BadProgram hlv mono G_Checker_body
  refine T.F_Checker_body.okX sc_Checker_body (fun vs H Q E h => ?_) (fun cdv A outer s H vs Q E hr h => ?_)
  · obtain ⟨_, p, _, _, _, a, _, _, _, _, _, rfl, _⟩ := h
    rfl
  · obtain ⟨H0, p, kn, tu, be, a, l, env, tns, fns, m, rfl, g, ha, ho, h⟩ := h
    have hr_Checker_statement : Room (lv + 2) _ := hr
    refine ⟨_, (pss_one (ps_for (passes_of rfl) rfl (pi_tup (pv 1)) (pg_name (i := 2) sc_Checker_body.nd rfl (.inl rfl))
        (pss_one (ps_expr (pe_meth (pv 0) T.cl_Checker T.m_Checker_statement G_Checker_statement hr_Checker_statement T.b_Checker_statement .nil passE (pa_cons (pv 2) pa_nil)))))), ?_⟩
    obtain ⟨dx, fs, hp, _, _, _, fm⟩ := g.ck.at_
    obtain ⟨xs, h1, h2, h3⟩ := id ha
    refine ⟨_, rfl, a, rfl, ⟨_, h1⟩, for_tup (K := K) (a := a) (xs := xs) (fun i σ H' => ∃ v2 : Option V, σ = [some (.ref p), some (.ref a), v2] ∧ Same H H' ∧ Out T.E_BadProgram.C H0 E (fun _ => ∀ G, Same H G → Q .non G) (bodyM subM env tns fns (l.drop i)))
      ⟨_, rfl, Same.refl H, h⟩ (fun i σ H' _ ⟨_, _, s1, _⟩ => (tups_same s1).seq h1) ?_ ?_⟩
    · rintro i x σ H' hx ⟨v2, rfl, s1, hh⟩
      have li : i < l.length := by
        have q := (List.getElem?_eq_some_iff.mp hx).1
        omega
      obtain ⟨b, e1, e2⟩ := h3 i _ (List.getElem?_eq_getElem li)
      obtain rfl : x = .ref b := Option.some.inj (hx.symm.trans e1)
      rw [List.drop_eq_getElem_cons li, bodyM] at hh
      have os := ho _ (List.getElem_mem li)
      generalize l[i] = st at e2 hh os
      refine ⟨_, rfl, p, dx, fs, rfl, s1 _ _ hp, fm "statement" (by decide +kernel), _, rfl, H0, p, kn, tu, be, b, st, env, tns, fns, m, rfl, g.same s1, stm_tups mono e2 (tups_same s1), os, ?_⟩
      cases es : stmM subM env tns fns st with
      | error q =>
        rw [es] at hh
        exact hh
      | ok _ =>
        rw [es] at hh
        intro H2 s2
        exact ⟨_, rfl, s1.trans s2, hh⟩
    · rintro σ H' ⟨v2, rfl, s1, hh⟩
      rw [h2, List.drop_of_length_le (Nat.le_refl _)] at hh
      exact hh _ s1
theorem ok_sb (T : Tx P K mg) (G_BadProgram : FnOk P w K mg base CX0 1 T.E_BadProgram.f T.E_BadProgram.fd ["self", "reason"] (spI1 T.E_BadProgram.C "reason")) : ∀ d, FnOk P w K mg base (L2.CX P w) (3 * d + 6) T.a_Checker_body T.d_Checker_body ["self", "body"] (spSub K T.c_Checker T.E_BadProgram.C (SbAt K d) (SbM d) (SbOk d) d)
  | 0 => ⟨fun vs H Q E h => by
      obtain ⟨_, p, _, _, _, a, b, _⟩ := h
      exact b.elim, fun A outer s H args us vs Q E _ _ _ _ h => by
      obtain ⟨_, p, _, _, _, a, b, _⟩ := h
      exact b.elim⟩
  | d + 1 => ok_body T G_BadProgram (Nat.le_add_left 6 (3 * d)) (sb_tups d) (ok_sb T G_BadProgram d)
theorem ok_work_stm (T : Tx P K mg) {α : Type} {subAt : Hp → Addr → α → Prop} {subW : WN → α → Int} {subOk : WN → α → Prop} {lv : Nat} (mono : ∀ H H' a b, subAt H a b → Tups H H' → subAt H' a b)
    (G_work_of_body : FnOk P w K mg base CX0 lv T.a_work_of_body T.d_work_of_body ["body", "works"] (spWork subAt subW subOk)) :
    FnOk P w K mg base CX0 (lv + 1) T.a_work_of_statement T.d_work_of_statement ["statement", "works"] (spWork (stmAt K subAt) (stmW subW) (stmWok subOk)) := by
  refine T.F_work_of_statement.ok sc_work_of_statement (fun vs H Q E h => ?_) (fun cdv A outer s H vs Q E hr h => ?_)
  · obtain ⟨a, d, _, _, rfl, _⟩ := h
    rfl
  · obtain ⟨a, d, st, wk, rfl, ha, hw, ho, q⟩ := h
    have hr_work_of_body : Room lv _ := hr
    refine ⟨_, (pss_cons (ps_set (i := 2) sc_work_of_statement.nd rfl (.inl rfl) (pe_ix ix_tup (pv 0) pe_int (fun _ _ => rfl)))
        (pss_cons (ps_if (pt_cmpR op_eq (pv 2) pe_str (nomark _))
        (pss_cons (ps_asg (pv 0) (pg_tup rfl (pgs_cons (pg_name (i := 3) sc_work_of_statement.nd rfl (.inl rfl)) (pgs_cons (pg_name (i := 3) sc_work_of_statement.nd rfl (.inl rfl)) (pgs_cons (pg_name (i := 4) sc_work_of_statement.nd rfl (.inl rfl)) (pgs_cons (pg_name (i := 5) sc_work_of_statement.nd rfl (.inl rfl)) (pgs_cons (pg_name (i := 6) sc_work_of_statement.nd rfl (.inl rfl)) pgs_nil)))))))
        (pss_one (ps_ret (pe_op op_add pe_int (pe_op op_mul (pe_op op_add (pe_op op_sub (pv 5) (pv 4)) pe_int) (pe_call G_work_of_body hr_work_of_body (by rfl) T.g_work_of_body T.F_work_of_body.kp T.b_work_of_body .nil pass0 (pa_cons (pv 6) (pa_cons (pv 1) pa_nil))))))))
        pss_nil)
        (pss_cons (ps_if (pt_cmpR op_eq (pv 2) pe_str (nomark _))
        (pss_cons (ps_asg (pv 0) (pg_tup rfl (pgs_cons (pg_name (i := 3) sc_work_of_statement.nd rfl (.inl rfl)) (pgs_cons (pg_name (i := 3) sc_work_of_statement.nd rfl (.inl rfl)) (pgs_cons (pg_name (i := 6) sc_work_of_statement.nd rfl (.inl rfl)) (pgs_cons (pg_name (i := 7) sc_work_of_statement.nd rfl (.inl rfl)) pgs_nil))))))
        (pss_one (ps_ret (pe_op op_add pe_int (pe_callB (call_max2 rfl) (by rfl) T.z_max (by decide +kernel) (pa_cons (pe_call G_work_of_body hr_work_of_body (by rfl) T.g_work_of_body T.F_work_of_body.kp T.b_work_of_body .nil pass0 (pa_cons (pv 6) (pa_cons (pv 1) pa_nil))) (pa_cons (pe_call G_work_of_body hr_work_of_body (by rfl) T.g_work_of_body T.F_work_of_body.kp T.b_work_of_body .nil pass0 (pa_cons (pv 7) (pa_cons (pv 1) pa_nil))) pa_nil)))))))
        pss_nil)
        (pss_cons (ps_if (pt_cmpR op_eq (pv 2) pe_str (nomark _))
        (pss_one (ps_ret (pe_op op_add pe_int (pe_dget (hu_of hr) (pv 1) (pe_ix ix_tup (pv 0) pe_int (fun _ _ => rfl)) (fun _ _ => rfl)))))
        pss_nil)
        (pss_one (ps_ret pe_int)))))), ?_⟩
    cases st with
    | set n e =>
      obtain ⟨x, h1, he⟩ := ha
      refine ⟨_, rfl, a, _, _, _, rfl, rfl, h1, rfl, _, rfl, rfl, _, rfl, iteF' (by decide +kernel) ?_⟩
      refine ⟨_, rfl, rfl, _, rfl, iteF' (by decide +kernel) ?_⟩
      refine ⟨_, rfl, rfl, _, rfl, iteF' (by decide +kernel) ?_⟩
      exact q _ (Same.refl H)
    | ifs c b1 b2 =>
      obtain ⟨x, y, z, h1, he, hy, hz⟩ := ha
      refine ⟨_, rfl, a, _, _, _, rfl, rfl, h1, rfl, _, rfl, rfl, _, rfl, iteF' (by decide +kernel) ?_⟩
      refine ⟨_, rfl, rfl, _, rfl, iteT' (by decide +kernel) ?_⟩
      refine ⟨_, rfl, a, _, rfl, h1, rfl, _, _, rfl, _, _, rfl, _, _, rfl, _, _, rfl, rfl, ?_⟩
      refine ⟨_, rfl, _, rfl, y, d, b1, wk, rfl, hy, hw, ho.1, fun H2 s2 => ?_⟩
      refine ⟨_, rfl, _, rfl, z, d, b2, wk, rfl, mono _ _ _ _ hz (tups_same s2), wk_same hw s2, ho.2, fun H3 s3 => ?_⟩
      exact ⟨_, _, rfl, _, _, rfl, rfl, q _ (s2.trans s3)⟩
    | loop n f l b =>
      obtain ⟨y, h1, hy⟩ := ha
      refine ⟨_, rfl, a, _, _, _, rfl, rfl, h1, rfl, _, rfl, rfl, _, rfl, iteT' (by decide +kernel) ?_⟩
      refine ⟨_, rfl, a, _, rfl, h1, rfl, _, _, rfl, _, _, rfl, _, _, rfl, _, _, rfl, _, _, rfl, rfl, ?_⟩
      refine ⟨_, rfl, _, rfl, _, _, rfl, rfl, _, _, rfl, rfl, ?_⟩
      refine ⟨_, rfl, _, rfl, y, d, b, wk, rfl, hy, hw, ho.2, fun H2 s2 => ?_⟩
      exact ⟨_, _, rfl, rfl, .inl ho.1, _, _, rfl, rfl, q _ s2⟩
    | call ts name args =>
      obtain ⟨x, y, h1, hx, hy⟩ := ha
      obtain ⟨kvs, hd, hv⟩ := hw
      cases ew : wk.lookup name with
      | none => exact absurd ew ho
      | some i =>
        refine ⟨_, rfl, a, _, _, _, rfl, rfl, h1, rfl, _, rfl, rfl, _, rfl, iteF' (by decide +kernel) ?_⟩
        refine ⟨_, rfl, rfl, _, rfl, iteF' (by decide +kernel) ?_⟩
        refine ⟨_, rfl, rfl, _, rfl, iteT' (by decide +kernel) ?_⟩
        refine ⟨_, rfl, _, rfl, a, _, _, _, rfl, rfl, h1, rfl, d, .int i, rfl, by rw [← hv name i ew]; exact DGet.k (k := Sum.inr name) hd, _, _, rfl, rfl, ?_⟩
        have z : Q (.int (1 + (wk.lookup name).getD 0)) H := q _ (Same.refl H)
        rw [ew] at z
        exact z
theorem ok_work_row (T : Tx P K mg) {α : Type} {subAt : Hp → Addr → α → Prop} {subW : WN → α → Int} {subOk : WN → α → Prop} {lv : Nat} (mono : ∀ H H' a b, subAt H a b → Tups H H' → subAt H' a b)
    (G_work_of_body : FnOk P w K mg base CX0 lv T.a_work_of_body T.d_work_of_body ["body", "works"] (spWork subAt subW subOk)) :
    FnOk P w K mg base CX0 (lv + 2) T.a_work_of_body T.d_work_of_body ["body", "works"] (spWork (rowAt K subAt) (rowW subW) (rowWok subOk)) := by
  have G_work_of_statement := ok_work_stm T mono G_work_of_body
  refine T.F_work_of_body.ok sc_work_of_body (fun vs H Q E h => ?_) (fun cdv A outer s H vs Q E hr h => ?_)
  · obtain ⟨a, d, _, _, rfl, _⟩ := h
    rfl
  · obtain ⟨a, d, l, wk, rfl, ha, hw, ⟨hl, ho⟩, q⟩ := h
    have hr_work_of_statement : Room (lv + 1) _ := hr
    refine ⟨_, (pss_one (ps_ret (pe_callB (cr_sum rfl) (by rfl) T.z_sum (by decide +kernel) (pa_cons (pe_lc (own := [("statement", 2)]) (g := gName 2) rfl sc_work_of_body.nd (pi_tup (pv 0)) (blkOk_by (N := n_work_of_body) (sc := defScope s_work_of_body) (by decide +kernel)) (fun _ _ _ _ _ => pg_name (i := 2) sc_work_of_body.nd rfl (Or.inl rfl)) (fun _ _ _ _ _ => pts_nil) (fun _ _ _ _ _ => (pe_call G_work_of_statement hr_work_of_statement (by rfl) T.g_work_of_statement T.F_work_of_statement.kp T.b_work_of_statement .nil pass0 (pa_cons (pv 2) (pa_cons (pv 1) pa_nil))))) pa_nil)))), ?_⟩
    obtain ⟨xs, h1, h2, h3⟩ := id ha
    refine ⟨_, rfl, a, rfl, ⟨_, h1⟩, fun D nD => lc_tup (K := K) (a := a) (xs := xs) (fun i H' => Same H H' ∧ H' D = some (.lst (((l.take i).map (stmW subW wk)).map V.int))) ⟨same_upd nD, upd_same⟩ (fun i H' _ hh => (tups_same hh.1).seq h1) ?_ ?_⟩
    · rintro i x H2 hx ⟨s2, hD⟩
      have li : i < l.length := by
        have q := (List.getElem?_eq_some_iff.mp hx).1
        omega
      have gl : l[i]? = some l[i] := List.getElem?_eq_getElem li
      obtain ⟨b, e1, e2⟩ := h3 i _ gl
      obtain rfl : x = .ref b := Option.some.inj (hx.symm.trans e1)
      refine ⟨rfl, ?_⟩
      refine ⟨_, rfl, _, rfl, b, d, l[i], wk, rfl, stm_tups mono e2 (tups_same s2), wk_same hw s2, ho _ (List.getElem_mem li), fun H3 s3 => ?_⟩
      refine ⟨_, s3 _ _ hD, ?_, ?_, ?_⟩
      · rw [List.length_map, List.length_map, List.length_take]
        exact Nat.lt_of_le_of_lt (Nat.le_trans (Nat.min_le_right _ _) hl) (by decide)
      · intro x o e
        rw [upd_ne (ne_of_none e nD)]
        exact s3 _ _ (s2 _ _ e)
      · rw [upd_same, ← List.take_append_getElem li, List.map_append, List.map_append]
        rfl
    · rintro H2 ⟨s2, hD⟩
      rw [h2, List.take_length] at hD
      exact ⟨D, _, rfl, SqL.of hD, q _ s2⟩
theorem ok_work (T : Tx P K mg) : ∀ d, FnOk P w K mg base CX0 (2 * d) T.a_work_of_body T.d_work_of_body ["body", "works"] (spWork (SbAt K d) (SbW d) (SbWok d))
  | 0 => ⟨fun vs H Q E h => by
      obtain ⟨a, d, b, _⟩ := h
      exact b.elim, fun A outer s H args us vs Q E _ _ _ _ h => by
      obtain ⟨a, d, b, _⟩ := h
      exact b.elim⟩
  | d + 1 => ok_work_row T (sb_tups d) (ok_work T d)
theorem ok_init (T : Tx P K mg) : FnOk P w K mg base CX0 1 T.a_Checker_init T.d_Checker_init ["self", "variables", "before"] (spInit K T.c_Checker) := by
  refine T.F_Checker_init.ok sc_Checker_init (fun vs H Q E h => ?_) (fun cdv A outer s H vs Q E hr h => ?_)
  · obtain ⟨p, a, be, _, _, rfl, _⟩ := h
    rfl
  · obtain ⟨p, a, be, dx, vars, rfl, hp, ⟨xs, h1, h2, h3⟩, nd, hl, q⟩ := h
    refine ⟨_, (pss_cons (ps_fld (pv 0) (pe_dc (own := [("variable", 3)]) (g := gName 3) rfl sc_Checker_init.nd (pi_tup (pv 1)) (blkOk_by (N := n_Checker_init) (sc := defScope s_Checker_init) (by decide +kernel)) (fun _ _ _ _ _ => pg_name (i := 3) sc_Checker_init.nd rfl (Or.inl rfl)) (fun _ _ _ _ _ => pts_nil) (fun _ _ _ _ _ => (pe_ix (show IxR _ (rIxT K) from ix_tup) (pv 3) pe_int (fun _ _ => rfl))) (fun _ _ _ _ _ => (pv 3))) rfl)
        (pss_cons (ps_fld (pv 0) pe_dnewK rfl)
        (pss_one (ps_fld (pv 0) (pv 2) rfl)))), ?_⟩
    refine ⟨_, rfl, a, rfl, ⟨_, h1⟩, fun D nD => dc_tup (K := K) (a := a) (xs := xs) (fun i H' => Same H H' ∧ ∃ kvs : List (Key × V), H' D = some (.dK kvs) ∧ kvs.length ≤ i ∧ ∀ n, ((vars.take i).lookup n = none → valV kvs (Sum.inr n) = none) ∧ ∀ v, (vars.take i).lookup n = some v → ∃ b, valV kvs (Sum.inr n) = some (.ref b) ∧ VarAt K H b n v.fl v.most v.size)
      ⟨same_upd nD, [], upd_same, Nat.le_refl _, fun n => ⟨fun _ => rfl, fun v e => by cases e⟩⟩ (fun i H' _ hh => (tups_same hh.1).seq h1) ?_ ?_⟩
    · rintro i x H2 hx ⟨s2, kvs, hD, lk, hv⟩
      have li : i < vars.length := by
        have q := (List.getElem?_eq_some_iff.mp hx).1
        omega
      obtain ⟨b, e1, e2⟩ := h3 i _ (List.getElem?_eq_getElem li)
      obtain rfl : x = .ref b := Option.some.inj (hx.symm.trans e1)
      have new : (vars.take i).lookup vars[i].1 = none := lookup_none fun z => by
        rw [← List.take_append_drop (i + 1) vars] at nd
        rw [← List.take_append_getElem li, List.map_append, List.map_append] at nd
        have n1 := (List.nodup_append.mp (List.nodup_append.mp nd).1).2.2
        exact n1 _ z _ List.mem_cons_self rfl
      have lk2 : ∀ n, (vars.take (i + 1)).lookup n = if n = vars[i].1 then some vars[i].2 else (vars.take i).lookup n := fun n => by
        rw [← List.take_append_getElem li, List.lookup_append]
        by_cases e : n = vars[i].1
        · rw [if_pos e, e, new]
          show List.lookup vars[i].1 [(vars[i].1, vars[i].2)] = some vars[i].2
          rw [List.lookup_cons_self]
        · rw [if_neg e]
          have e2 : (n == vars[i].1) = false := by simpa using e
          simp [List.lookup, e2]
      refine ⟨rfl, ?_⟩
      refine ⟨_, rfl, b, _, _, _, rfl, rfl, (tups_same s2).seq e2, rfl, _, rfl, kvs, Sum.inr vars[i].1, rfl, hD, Nat.lt_of_le_of_lt (Nat.le_trans lk (Nat.le_trans (Nat.le_of_lt li) hl)) (by decide), ?_, ?_⟩
      · intro x o e
        rw [upd_ne (ne_of_none e nD)]
        exact s2 _ _ e
      · refine ⟨_, upd_same, Nat.le_trans (length_putK _ _ _) (Nat.succ_le_succ lk), fun n => ?_⟩
        rw [lk2 n, valV_put]
        by_cases e : n = vars[i].1
        · subst e
          rw [if_pos rfl, if_pos rfl]
          refine ⟨fun z => (by cases z), fun v z => ?_⟩
          cases z
          exact ⟨b, rfl, e2⟩
        · rw [if_neg e, if_neg (fun z => e (Sum.inr.inj z))]
          exact hv n
    · rintro H2 ⟨s2, kvs, hD, lk, hv⟩
      rw [h2] at lk
      rw [h2, List.take_length] at hv
      have hp2 := s2 _ _ hp
      have pD : p ≠ D := ne_of_none hp nD
      refine ⟨_, rfl, p, T.c_Checker, dx, _, rfl, hp2, T.cl_Checker, T.no_Checker_known, (by show 0 < 1000; decide), ?_⟩
      intro t ht
      have tp : p ≠ t := fun e => by
        rw [← e, upd_same] at ht
        cases ht
      have ht2 : H2 t = none := by
        rw [upd_ne tp.symm] at ht
        exact ht
      have tD : D ≠ t := ne_of_none hD ht2
      refine ⟨_, rfl, p, T.c_Checker, dx, _, rfl, by rw [upd_ne tp, upd_same], T.cl_Checker, T.no_Checker_turning, (by show 1 < 1000; decide), ?_⟩
      refine ⟨_, rfl, _, rfl, p, T.c_Checker, dx, _, rfl, upd_same, T.cl_Checker, T.no_Checker_before, (by show 2 < 1000; decide), ?_⟩
      have other : ∀ x o, x ≠ p → H2 x = some o → upd (upd (upd (upd H2 p (.ins T.c_Checker dx (putF "known" (.ref D) []))) t (.dK [])) p (.ins T.c_Checker dx (putF "turning" (.ref t) (putF "known" (.ref D) [])))) p (.ins T.c_Checker dx (putF "before" (.ref be) (putF "turning" (.ref t) (putF "known" (.ref D) [])))) x = some o := fun x o nx e => by
        rw [upd_ne nx, upd_ne nx, upd_ne (ne_of_none e ht2), upd_ne nx]
        exact e
      have hDn : upd (upd (upd (upd H2 p (.ins T.c_Checker dx (putF "known" (.ref D) []))) t (.dK [])) p (.ins T.c_Checker dx (putF "turning" (.ref t) (putF "known" (.ref D) [])))) p (.ins T.c_Checker dx (putF "before" (.ref be) (putF "turning" (.ref t) (putF "known" (.ref D) [])))) D = some (.dK kvs) := other _ _ pD.symm hD
      have htn : upd (upd (upd (upd H2 p (.ins T.c_Checker dx (putF "known" (.ref D) []))) t (.dK [])) p (.ins T.c_Checker dx (putF "turning" (.ref t) (putF "known" (.ref D) [])))) p (.ins T.c_Checker dx (putF "before" (.ref be) (putF "turning" (.ref t) (putF "known" (.ref D) [])))) t = some (.dK []) := by
        rw [upd_ne tp.symm, upd_ne tp.symm, upd_same]
      refine q _ D t (fun x o nx e => other _ _ nx (s2 _ _ e)) nD (s2.free ht2) tD ⟨dx, _, upd_same, ?_, ?_, ?_, ?_⟩ ⟨kvs, hDn, fun n => ⟨(hv n).1, fun v e => ?_⟩⟩ ⟨[], htn, fun n => rfl⟩ ⟨kvs, hDn, lk⟩ ⟨[], htn, Nat.le_refl _⟩
      · rw [lookup_putF, if_neg (by decide +kernel), lookup_putF, if_neg (by decide +kernel), lookup_putF, if_pos rfl]
      · rw [lookup_putF, if_neg (by decide +kernel), lookup_putF, if_pos rfl]
      · rw [lookup_putF, if_pos rfl]
      · intro m hm
        have z := (by decide +kernel : ∀ m ∈ ([("body" : Str), "statement", "loop", "call", "argument", "variable", "sized", "row", "changed", "check_index", "expression", "operation"] : List Str), m ≠ "known" ∧ m ≠ "turning" ∧ m ≠ "before") m hm
        rw [lookup_putF, if_neg z.2.2, lookup_putF, if_neg z.2.1, lookup_putF, if_neg z.1]
        rfl
      · obtain ⟨b, e1, e2⟩ := (hv n).2 v e
        refine ⟨b, e1, ?_⟩
        have tups : Tups H _ := fun x xs => ⟨fun z => other x _ (ne_of z hp (by intro w; cases w)) (s2 _ _ z), fun o z => other x _ (ne_of z hp (by intro w; cases w)) (s2 _ _ z)⟩
        exact tups.seq e2
theorem ok_law_reason (T : Tx P K mg) {d lv : Nat} (G_check_program : FnOk P w K mg base (L2.CX P w) lv T.a_check_program T.d_check_program ["program"] (spCheck K T.E_BadProgram.C d)) :
    FnOk P w K mg base CX0 (lv + 1) T.a_law_reason T.d_law_reason ["program"] (spReason K d) := by
  refine T.F_law_reason.ok sc_law_reason (fun vs H Q E h => ?_) (fun cdv A outer s H vs Q E hr h => ?_)
  · obtain ⟨a, _, rfl, _⟩ := h
    rfl
  · obtain ⟨a, l, rfl, hp, hl, hd, hc, q⟩ := h
    have hr_check_program : Room lv _ := hr
    refine ⟨_, (pss_cons (ps_try_as (i := 1) rfl rfl sc_law_reason.nd rfl rfl ⟨rfl, by decide, .inl T.E_BadProgram.g⟩ takes0 (fun W pn xe tk _ =>
        (pss_one (ps_expr (pe_callS G_check_program hr_check_program (by rfl) T.g_check_program T.F_check_program.kp T.b_check_program (fun σ => passAt tk σ) (pa_cons (pv 0) pa_nil)))))
        (fun a oe cls d pn hz hf =>
        (pss_one (ps_ret (pe_xf T.E_BadProgram.xf (T.E_BadProgram.no _ (by decide +kernel)) hz hf (pv 1))))))
        (pss_one (ps_ret pe_non))), ?_⟩
    refine ⟨_, rfl, a, l, rfl, hp, hl, hd, hc, ?_⟩
    cases ec : checkM [] [] l with
    | ok u =>
      rw [ec] at q
      intro H' s'
      exact q _ s'
    | error r =>
      rw [ec] at q
      intro e G he sG eG
      refine ⟨true, T.te_BadProgram, fun _ x _ => ?_, fun z => Bool.noConfusion z⟩
      exact ⟨_, rfl, rfl, rfl, e, _, _, rfl, eG, rfl, q _ sG⟩
theorem catA_of {H : Hp} {a1 a2 : Addr} {l1 l2 : EN} {Q : VK} (h1 : ParAt K H a1 l1) (h2 : ParAt K H a2 l2) (hl : l1.length + l2.length ≤ 5000) (q : ∀ a3 H', Same H H' → ParAt K H' a3 (l1 ++ l2) → Q (.ref a3) H') : rCatA K (.ref a1) (.ref a2) H Q := by
  obtain ⟨xs, x1, x2, x3⟩ := id h1
  obtain ⟨ys, y1, y2, y3⟩ := id h2
  refine ⟨a1, a2, xs, ys, rfl, rfl, x1, y1, Nat.le_trans (by rw [x2, y2]; exact hl) (by decide : 5000 ≤ sizeLine), fun e => ?_, fun _ e => ?_, fun _ _ p hp => ?_⟩
  · have z : l1 = [] := List.length_eq_zero_iff.mp (by rw [← x2, e]; rfl)
    refine q a2 H (Same.refl H) ?_
    rw [z, List.nil_append]
    exact h2
  · have z : l2 = [] := List.length_eq_zero_iff.mp (by rw [← y2, e]; rfl)
    refine q a1 H (Same.refl H) ?_
    rw [z, List.append_nil]
    exact h1
  · refine q p _ (same_upd hp) ⟨xs ++ ys, SqT.of upd_same, by rw [List.length_append, List.length_append, x2, y2], fun i v e => ?_⟩
    have t := tups_same (same_upd (o := .tup (xs ++ ys)) hp)
    by_cases c : i < l1.length
    · rw [List.getElem?_append_left c] at e
      obtain ⟨b, e1, e2⟩ := x3 i v e
      exact ⟨b, by rw [List.getElem?_append_left (by rw [x2]; exact c)]; exact e1, t.seq e2⟩
    · have c' : l1.length ≤ i := Nat.le_of_not_lt c
      rw [List.getElem?_append_right c'] at e
      obtain ⟨b, e1, e2⟩ := y3 _ v e
      exact ⟨b, by rw [List.getElem?_append_right (by rw [x2]; exact c'), x2]; exact e1, t.seq e2⟩
theorem ok_check (T : Tx P K mg) (G_BadProgram : FnOk P w K mg base CX0 1 T.E_BadProgram.f T.E_BadProgram.fd ["self", "reason"] (spI1 T.E_BadProgram.C "reason")) (d : Nat) :
    FnOk P w K mg base (L2.CX P w) (3 * d + 7) T.a_check_program T.d_check_program ["program"] (spCheck K T.E_BadProgram.C d) := by
  have G_Checker_init : FnOk P w K mg base CX0 1 T.a_Checker_init T.d_Checker_init ["self", "variables", "before"] (spInit K T.c_Checker) := ok_init T
  have G_Checker_body := ok_sb T G_BadProgram d
  have G_work_of_body : FnOk P w K mg base CX0 (2 * d) T.a_work_of_body T.d_work_of_body ["body", "works"] (spWork (SbAt K d) (SbW d) (SbWok d)) := ok_work T d
  refine T.F_check_program.okX sc_check_program (fun vs H Q E h => ?_) (fun cdv A outer s H vs Q E hr h => ?_)
  · obtain ⟨a, _, rfl, _⟩ := h
    rfl
  · obtain ⟨a, l, rfl, hpr, hl, hd, hc, h⟩ := h
    have hr_BadProgram : Room 2 _ := hr.mono (by omega)
    have hr_Checker_init : Room 2 _ := hr.mono (by omega)
    have hr_Checker_body : Room (3 * d + 6) _ := hr
    have hr_work_of_body : Room (2 * d) _ := hr.mono (by omega)
    refine ⟨_, (pss_cons (ps_set (i := 1) sc_check_program.nd rfl (.inl rfl) pe_dnewK)
        (pss_cons (ps_set (i := 2) sc_check_program.nd rfl (.inl rfl) pe_dnewK)
        (pss_cons (ps_for (passes_of rfl) rfl (pi_tup (pv 0)) (pg_name (i := 3) sc_check_program.nd rfl (.inl rfl))
        (pss_cons (ps_asg (pv 3) (pg_tup rfl (pgs_cons (pg_name (i := 4) sc_check_program.nd rfl (.inl rfl)) (pgs_cons (pg_name (i := 5) sc_check_program.nd rfl (.inl rfl)) (pgs_cons (pg_name (i := 6) sc_check_program.nd rfl (.inl rfl)) (pgs_cons (pg_name (i := 7) sc_check_program.nd rfl (.inl rfl)) (pgs_cons (pg_name (i := 8) sc_check_program.nd rfl (.inl rfl)) pgs_nil)))))))
        (pss_cons (ps_expr (pe_meth (pe_make T.mk_Checker G_Checker_init hr_Checker_init (by rfl) T.g_Checker T.b_Checker_init .nil pass0 (pa_cons (pe_op op_catA (pe_op op_catA (pv 5) (pv 6)) (pv 7)) (pa_cons (pv 1) pa_nil))) T.cl_Checker T.m_Checker_body G_Checker_body hr_Checker_body T.b_Checker_body .nil passE (pa_cons (pv 8) pa_nil)))
        (pss_cons (ps_dput (hu_of hr) (pv 2) (pv 4) (pe_call G_work_of_body hr_work_of_body (by rfl) T.g_work_of_body T.F_work_of_body.kp T.b_work_of_body .nil pass0 (pa_cons (pv 8) (pa_cons (pv 2) pa_nil))) rfl)
        (pss_cons (ps_if (pt_cmpR op_gt (pe_dget (hu_of hr) (pv 2) (pv 4) (fun _ _ => rfl)) (pe_glob rfl T.g_MOST_WORK T.r_MOST_WORK) (nomark _))
        (pss_one (ps_raise rfl (takes_of rfl rfl rfl rfl) (pmk_oex T.E_BadProgram.S.ox T.E_BadProgram.ini T.E_BadProgram.tI G_BadProgram hr_BadProgram T.E_BadProgram.b .nil pass0 (by rfl) T.E_BadProgram.g (pa_cons pe_str pa_nil))))
        pss_nil)
        (pss_one (ps_dput (hu_of hr) (pv 1) (pv 4) (pv 3) rfl)))))))
        (pss_one (ps_ret (pv 0)))))), ?_⟩
    obtain ⟨xs, hx1, hx2, hx3⟩ := id hpr
    intro be hbe
    intro wd hwd
    have nbw : be ≠ wd := fun e => by
      rw [← e, upd_same] at hwd
      cases hwd
    have hwd0 : H wd = none := by
      rw [upd_ne nbw.symm] at hwd
      exact hwd
    have sS : Same H (upd (upd H be (.dK [])) wd (.dK [])) := (same_upd hbe).trans (same_upd hwd)
    refine ⟨_, rfl, a, rfl, ⟨_, (tups_same sS).seq hx1⟩, for_tup (K := K) (a := a) (xs := xs) (fun i σ H' => ∃ (v3 v4 v5 v6 v7 v8 : Option V) (fns : FN) (wk : WN), σ = [some (.ref a), some (.ref be), some (.ref wd), v3, v4, v5, v6, v7, v8] ∧ Same H H' ∧ BeAt K H' be fns ∧ Few H' be i ∧ WkAt H' wd wk ∧ Few H' wd i ∧
        checkOk fns wk (l.drop i) ∧ Out T.E_BadProgram.C H E (fun _ => ∀ G, Same H G → Q (.ref a) G) (checkM fns wk (l.drop i)))
      ⟨_, _, _, _, _, _, [], [], rfl, sS, ⟨[], by rw [upd_ne nbw, upd_same], fun n => ⟨fun _ => rfl, fun f e => by cases e⟩⟩, ⟨[], by rw [upd_ne nbw, upd_same], Nat.le_refl _⟩, ⟨[], upd_same, fun n i e => by cases e⟩, ⟨[], upd_same, Nat.le_refl _⟩, hc, h⟩
      (fun i σ H' _ ⟨_, _, _, _, _, _, _, _, _, s1, _⟩ => (tups_same s1).seq hx1) ?_ ?_⟩
    · rintro i x σ H' hx ⟨v3, v4, v5, v6, v7, v8, fns, wk, rfl, s1, hB, fB, hW, fW, hok, hh⟩
      have li : i < l.length := by
        have q := (List.getElem?_eq_some_iff.mp hx).1
        omega
      obtain ⟨b, e1, e2⟩ := hx3 i _ (List.getElem?_eq_getElem li)
      obtain rfl : x = .ref b := Option.some.inj (hx.symm.trans e1)
      rw [List.drop_eq_getElem_cons li] at hh hok
      generalize l[i] = f at e2 hh hok
      rw [checkM] at hh
      obtain ⟨o1, o2, o3, o45⟩ := hok
      have lens : f.ps.length + f.rs.length + f.os.length ≤ 900 := by
        rw [List.length_append, List.length_append] at o2
        exact o2
      obtain ⟨ap, ar, ao, ab, f1, f2, f3, f4, f5⟩ := fn_tups e2 (tups_same s1)
      obtain ⟨kbs, hb1, hb2⟩ := fB
      obtain ⟨kws, hw1, hw2⟩ := fW
      refine ⟨_, rfl, b, _, rfl, f1, rfl, _, _, rfl, _, _, rfl, _, _, rfl, _, _, rfl, _, _, rfl, rfl, ?_⟩
      refine ⟨_, rfl, _, rfl, catA_of f2 f3 (by omega) fun a3 H3 s3 p3 => ?_⟩
      refine ⟨_, rfl, catA_of p3 (par_tups f4 (tups_same s3)) (by rw [List.length_append]; omega) fun a4 H4 s4 p4 => ?_⟩
      refine ⟨_, rfl, fun x dx nx ndx nex => ?_⟩
      have sA : Same H' H4 := s3.trans s4
      have sI : Same H4 (upd (upd H4 dx (.own x)) x (.ins T.c_Checker dx [])) := fun z o e => by
        rw [upd_ne (ne_of_none e nx), upd_ne (ne_of_none e ndx)]
        exact e
      refine ⟨x, a4, be, dx, _, rfl, upd_same, par_tups p4 (tups_same sI), o1, o2, fun H5 kn tu keep zk zt nkt ck hk ht fk ft => ⟨rfl, ?_⟩⟩
      have sB : Same H' H5 := fun z o e => keep z o (ne_of_none (sA _ _ e) nx) (sI _ _ (sA _ _ e))
      have hbI := sI _ _ (sA _ _ hb1)
      have kb : kn ≠ be := fun e => by
        rw [e, hbI] at zk
        cases zk
      have tb : tu ≠ be := fun e => by
        rw [e, hbI] at zt
        cases zt
      have g : Gd K T.c_Checker H H5 x kn tu be (f.ps ++ f.rs ++ f.os) [] fns (f.ps ++ f.rs ++ f.os).length d :=
        ⟨s1.trans sB, (s1.trans (sA.trans sI)).free zk, (s1.trans (sA.trans sI)).free zt, nkt, kb, tb, ck, hk, ht, be_same hB sB, fk, (by
          obtain ⟨z, z1, z2⟩ := ft
          exact ⟨z, z1, Nat.le_trans z2 (Nat.zero_le _)⟩), by omega, fun n hn => by cases hn⟩
      obtain ⟨dx5, fs5, hp5, _, _, _, fm5⟩ := ck.at_
      refine ⟨x, dx5, fs5, rfl, hp5, fm5 "body" (by decide +kernel), _, rfl, H, x, kn, tu, be, ab, f.body, _, _, fns, _, rfl, g, sb_tups d _ _ _ _ f5 (tups_same sB), o3, ?_⟩
      cases es : SbM d (f.ps ++ f.rs ++ f.os) [] fns f.body with
      | error r =>
        rw [es] at hh
        exact hh
      | ok u =>
        rw [es] at hh
        dsimp only at hh
        obtain ⟨o4, o5⟩ := o45 es
        intro H6 s6
        have sC := sB.trans s6
        refine ⟨_, rfl, _, rfl, ab, wd, f.body, wk, rfl, sb_tups d _ _ _ _ f5 (tups_same sC), wk_same hW sC, o4, fun H7 s7 => ?_⟩
        have sD := sC.trans s7
        have hw7 := sD _ _ hw1
        have hb7 := sD _ _ hb1
        refine ⟨_, rfl, _, rfl, wd, _, rfl, DPut.k (k := Sum.inr f.name) hw7 (Nat.lt_of_le_of_lt (Nat.le_trans hw2 (Nat.le_trans (Nat.le_of_lt li) hl)) (by decide)), ?_⟩
        obtain ⟨H8, e8⟩ : ∃ H8, H8 = upd H7 wd (.dK (putK kws (Sum.inr f.name) (.int (SbW d wk f.body)))) := ⟨_, rfl⟩
        rw [← e8]
        have h8 : H8 wd = some (.dK (putK kws (Sum.inr f.name) (.int (SbW d wk f.body)))) := by rw [e8, upd_same]
        have o8 : ∀ z o, z ≠ wd → H7 z = some o → H8 z = some o := fun z o n e => by rw [e8, upd_ne n]; exact e
        have s8 : Same H H8 := fun z o e => o8 z o (ne_of_none e hwd0) ((s1.trans sD) _ _ e)
        have g8 : DGet H8 wd (.str f.name) (some (.int (SbW d wk f.body))) := by
          have z := DGet.k (k := Sum.inr f.name) h8
          rw [valV_put, if_pos rfl] at z
          exact z
        refine ⟨_, rfl, _, rfl, wd, _, rfl, g8, _, _, rfl, rfl, _, rfl, ?_⟩
        refine ite2 (fun c => ?_) (fun c => ?_)
        · rw [if_pos (of_decide_eq_true c)] at hh
          exact Rz.out hh s8 (by decide +kernel)
        · rw [if_neg (fun z => c (decide_eq_true z))] at hh
          have hb8 := o8 _ _ nbw hb7
          refine ⟨_, rfl, _, rfl, _, rfl, be, _, rfl, DPut.k (k := Sum.inr f.name) hb8 (Nat.lt_of_le_of_lt (Nat.le_trans hb2 (Nat.le_trans (Nat.le_of_lt li) hl)) (by decide)), ?_⟩
          have t9 : Tups H' (upd H8 be (.dK (putK kbs (Sum.inr f.name) (.ref b)))) := by
            refine (tups_same sD).trans (Tups.trans (H1 := H8) ?_ (tups_upd hb8))
            rw [e8]
            exact tups_upd hw7
          refine ⟨_, _, _, _, _, _, (f.name, (f.ps, f.rs)) :: fns, (f.name, SbW d wk f.body) :: wk, rfl, fun z o e => ?_, ⟨_, upd_same, fun n => ?_⟩, ⟨_, upd_same, Nat.le_trans (length_putK _ _ _) (Nat.succ_le_succ hb2)⟩, ⟨_, by rw [upd_ne nbw.symm]; exact h8, fun n j e => ?_⟩, ⟨_, by rw [upd_ne nbw.symm]; exact h8, Nat.le_trans (length_putK _ _ _) (Nat.succ_le_succ hw2)⟩, o5, hh⟩
          · rw [upd_ne (ne_of_none e hbe)]
            exact s8 _ _ e
          · obtain ⟨kb2, hq1, hq2⟩ := hB
            have ekb : kb2 = kbs := by
              rw [hb1] at hq1
              cases hq1
              rfl
            subst ekb
            rw [valV_put]
            by_cases e : n = f.name
            · subst e
              rw [if_pos rfl, List.lookup_cons_self]
              refine ⟨fun z => (by cases z), fun g z => ?_⟩
              cases z
              exact ⟨b, _, ap, ar, _, _, rfl, t9.seq f1, par_tups f2 t9, par_tups f3 t9⟩
            · have q1 : (n == f.name) = false := by simpa using e
              rw [if_neg (fun z => e (Sum.inr.inj z)), List.lookup_cons, q1]
              refine ⟨(hq2 n).1, fun g z => ?_⟩
              obtain ⟨fa, nm, ap2, ar2, x5, y5, z1, z2, z3, z4⟩ := (hq2 n).2 g z
              exact ⟨fa, nm, ap2, ar2, x5, y5, z1, t9.seq z2, par_tups z3 t9, par_tups z4 t9⟩
          · obtain ⟨kw2, hq1, hq2⟩ := hW
            have ekw : kw2 = kws := by
              rw [hw1] at hq1
              cases hq1
              rfl
            subst ekw
            rw [valV_put]
            by_cases e2 : n = f.name
            · subst e2
              rw [List.lookup_cons_self] at e
              cases e
              rw [if_pos rfl]
            · have q1 : (n == f.name) = false := by simpa using e2
              rw [List.lookup_cons, q1] at e
              rw [if_neg (fun z => e2 (Sum.inr.inj z))]
              exact hq2 n j e
    · rintro σ H' ⟨v3, v4, v5, v6, v7, v8, fns, wk, rfl, s1, hB, fB, hW, fW, hok, hh⟩
      rw [hx2, List.drop_of_length_le (Nat.le_refl _)] at hh
      exact ⟨_, rfl, hh _ s1⟩
def Keep (H H' : Hp) (p : Addr) : Prop := ∀ b o, b ≠ p → H b = some o → H' b = some o
theorem Keep.trans {H H1 H2 : Hp} {p : Addr} (a : Keep H H1 p) (b : Keep H1 H2 p) : Keep H H2 p := fun c o n e => b c o n (a c o n e)
theorem keep_upd (H : Hp) (p : Addr) (o : HO) : Keep H (upd H p o) p := fun b u n e => by
  rw [upd_ne n]
  exact e
theorem Same.keep {H H' : Hp} {p : Addr} (s : Same H H') : Keep H H' p := fun b o _ e => s b o e
theorem Keep.new {H H1 H2 : Hp} {p : Addr} (n : H p = none) (s : Same H H1) (k : Keep H1 H2 p) : Same H H2 := fun b o e => k b o (ne_of_none e n) (s b o e)
theorem cut_map (ns : List Int) (lo hi : Option Int) : ∃ ms : List Int, cutV (ns.map V.int) lo hi = ms.map V.int ∧ ms.length ≤ ns.length := by
  refine ⟨(ns.drop (HT.sIx (ns.map V.int).length 0 lo)).take (HT.sIx (ns.map V.int).length (ns.map V.int).length hi - HT.sIx (ns.map V.int).length 0 lo), ?_, ?_⟩
  · unfold cutV
    rw [List.map_take, List.map_drop]
  · rw [List.length_take, List.length_drop]
    omega
theorem line5 {n : Nat} (h : n ≤ 5000) : n ≤ sizeLine := Nat.le_trans h (by decide)
theorem line5' {n : Nat} (h : n ≤ 5000) : n < sizeLine := Nat.lt_of_le_of_lt h (by decide)
def spDraws (K : PySem.W.Frag) : Sp := fun vs H Q _ => ∃ (a : Addr) (ns : List Int) (st mo : Int), vs = [.ref a, .int st, .int mo] ∧ SqL K H a (ns.map V.int) ∧ ns.length ≤ 63 ∧
  ∀ (p : Addr) (ds : List Int) (H' : Hp), Same H H' → H p = none → H' p = some (.lst (ds.map V.int)) → ds.length ≤ 2000 → Q (.ref p) H'
def spNext : Sp := fun vs H Q _ => ∃ (p : Addr) (ds : List Int), vs = [.ref p] ∧ H p = some (.lst (ds.map V.int)) ∧ ds.length ≤ 2000 ∧
  ∀ (v : Int) (es : List Int) (H' : Hp), Keep H H' p → H' p = some (.lst (es.map V.int)) → es.length ≤ ds.length → Q (.int v) H'
theorem ok_draws (T : Tx P K mg) : FnOk P w K mg base CX0 1 T.a_law_draws T.d_law_draws ["script", "start", "most"] (spDraws K) := by
  refine T.F_law_draws.ok sc_law_draws (fun vs H Q E h => ?_) (fun cdv A outer s H vs Q E hr h => ?_)
  · obtain ⟨a, ns, st, mo, rfl, _⟩ := h
    rfl
  · obtain ⟨a, ns, st, mo, rfl, hS, hl, q⟩ := h
    refine ⟨_, (pss_cons (ps_set (i := 3) sc_law_draws.nd rfl (.inl rfl) (pe_lst pa_nil))
        (pss_cons (ps_for PassesOwn.never rfl (pi_list (pe_slice sl_list (pv 0) (po_some (pv 1)) po_none)) (pg_name (i := 4) sc_law_draws.nd rfl (.inl rfl))
        (pss_cons (ps_set (i := 5) sc_law_draws.nd rfl (.inl rfl) (pe_callB call_abs (by rfl) T.z_abs (by decide +kernel) (pa_cons (pe_callTy call_int1 (by rfl) T.z_int (by decide +kernel) (pa_cons (pv 4) pa_nil)) pa_nil)))
        (pss_one (ps_if (pt_cmpR op_lt (pv 5) (pe_op op_pow pe_int pe_int) (nomark _))
        (pss_cons (ps_set (i := 6) sc_law_draws.nd rfl (.inl rfl) (pe_op op_mod (pe_callTy call_int1 (by rfl) T.z_int (by decide +kernel) (pa_cons (pe_op op_add (pe_op op_mul (pv 5) pe_int) pe_int) pa_nil)) pe_int))
        (pss_cons (ps_expr (pe_bm PySem.F.plainAttrs_list PySem.F.slot_list_append PySem.F.type_list_append mt_append (pv 3) (pa_cons (pv 5) pa_nil)))
        (pss_cons (ps_expr (pe_bm PySem.F.plainAttrs_list PySem.F.slot_list_append PySem.F.type_list_append mt_append (pv 3) (pa_cons (pe_op op_fdiv (pe_op op_mod (pe_callTy call_int1 (by rfl) T.z_int (by decide +kernel) (pa_cons (pe_op op_add (pe_op op_add (pe_op op_mul (pv 6) pe_int) (pe_op op_fdiv (pv 5) pe_int)) pe_int) pa_nil)) pe_int) pe_int) pa_nil)))
        (pss_one (ps_expr (pe_bm PySem.F.plainAttrs_list PySem.F.slot_list_append PySem.F.type_list_append mt_append (pv 3) (pa_cons (pe_op op_fdiv (pe_op op_mod (pe_callTy call_int1 (by rfl) T.z_int (by decide +kernel) (pa_cons (pe_op op_add (pe_op op_add (pe_op op_mul (pv 6) pe_int) (pe_op op_fdiv (pv 5) pe_int)) pe_int) pa_nil)) pe_int) pe_int) pa_nil)))))))
        (pss_one (ps_for PassesOwn.never rfl (pi_range1 rfl T.z_range (pa_cons pe_int pa_nil)) (pg_name (i := 7) sc_law_draws.nd rfl (.inl rfl))
        (pss_cons (ps_if (pt_cmpR op_gt (pv 5) pe_int (nomark _))
        (pss_one (ps_expr (pe_bm PySem.F.plainAttrs_list PySem.F.slot_list_append PySem.F.type_list_append mt_append (pv 3) (pa_cons (pe_op op_mod (pe_callTy call_int1 (by rfl) T.z_int (by decide +kernel) (pa_cons (pv 5) pa_nil)) pe_int) pa_nil))))
        pss_nil)
        (pss_one (ps_set (i := 5) sc_law_draws.nd rfl (.inl rfl) (pe_op op_fdiv (pv 5) pe_int))))))))))
        (pss_one (ps_ret (pe_slice sl_list (pv 3) po_none (po_some (pv 2))))))), ?_⟩
    refine ⟨Nat.zero_le _, fun d hd => ?_⟩
    have s1 : Same H (upd H d (.lst [])) := same_upd hd
    refine ⟨_, rfl, _, rfl, _, rfl, a, _, rfl, s1.seq hS, fun c hc => ?_⟩
    obtain ⟨ms, hm, hml⟩ := cut_map ns (some st) none
    rw [hm]
    have s2 : Same (upd H d (.lst [])) (upd (upd H d (.lst [])) c (.lst (ms.map V.int))) := same_upd hc
    have ndc : d ≠ c := ne_of_none upd_same hc
    refine ⟨c, rfl, ⟨_, SqL.of upd_same⟩, for_list (K := K) (a := c) (xs := ms.map V.int) (fun i σ H2 => ∃ (v4 v5 v6 v7 : Option V) (ds : List Int), σ = [some (.ref a), some (.int st), some (.int mo), some (.ref d), v4, v5, v6, v7] ∧ Same H H2 ∧
        H2 c = some (.lst (ms.map V.int)) ∧ H2 d = some (.lst (ds.map V.int)) ∧ ds.length ≤ 20 * i)
      ⟨none, none, none, none, [], rfl, s1.trans s2, upd_same, by rw [upd_ne ndc, upd_same]; rfl, Nat.le_refl _⟩ (fun i σ H2 _ ⟨_, _, _, _, _, _, _, h2, _⟩ => SqL.of h2) ?_ ?_⟩
    · rintro i y σ H2 hi ⟨v4, v5, v6, v7, ds, rfl, sH, h2, g2, el⟩
      have hil : i < ms.length := by
        have := (List.getElem?_eq_some_iff.mp hi).1
        rw [List.length_map] at this
        exact this
      obtain ⟨z, rfl⟩ : ∃ z, y = V.int z := by
        rw [List.getElem?_map, List.getElem?_eq_getElem hil] at hi
        exact ⟨_, (Option.some.inj hi).symm⟩
      (repeat (first | refine ⟨_, rfl, ?_⟩ | refine ⟨_, _, rfl, rfl, ?_⟩ | refine ⟨rfl, ?_⟩ | refine .inl ⟨_, rfl, ?_⟩ | refine .inr ⟨_, rfl, ?_⟩ | refine ⟨.inr ⟨by decide, by decide⟩, ?_⟩ | refine ⟨⟨by decide, by decide⟩, ?_⟩ | refine ⟨⟨by decide, by decide, by decide⟩, ?_⟩ | refine ⟨.inr ⟨by omega, by omega⟩, ?_⟩ | refine ⟨(by show (0 : Int) < _; first | decide | omega), ?_⟩ | refine ⟨Nat.le_trans (Nat.le_of_ble_eq_true rfl : _ ≤ 50) (by decide), ?_⟩ | refine ⟨_, _, _, _, rfl, rfl, upd_same, rfl, ?_⟩ | refine ⟨_, _, _, _, rfl, rfl, SqL.of upd_same, rfl, ?_⟩ | refine ⟨_, _, _, _, rfl, rfl, SqT.of upd_same, rfl, ?_⟩ | refine ⟨_, _, rfl, .inl (SqL.of upd_same), ?_⟩ | refine ⟨_, _, rfl, .inr (SqT.of upd_same), ?_⟩ | (refine' ⟨_, _, _, _, rfl, rfl, _, _, _⟩; rotate_left 2; (focus (first | assumption | exact SqL.of (by assumption) | exact SqT.of (by assumption) | exact Same.seq (by assumption) (by assumption))); (focus (exact rfl))) | (refine' ⟨_, _, rfl, _, _⟩; rotate_left 1; (focus (first | exact .inl (by assumption) | exact .inl (SqL.of (by assumption)) | exact .inr (by assumption) | exact .inr (SqT.of (by assumption)))))))
      generalize (if z < 0 then -z else z) = m
      refine ite2 (fun _ => ?_) (fun _ => ?_)
      · (repeat (first | refine ⟨_, rfl, ?_⟩ | refine ⟨_, _, rfl, rfl, ?_⟩ | refine ⟨rfl, ?_⟩ | refine .inl ⟨_, rfl, ?_⟩ | refine .inr ⟨_, rfl, ?_⟩ | refine ⟨.inr ⟨by decide, by decide⟩, ?_⟩ | refine ⟨⟨by decide, by decide⟩, ?_⟩ | refine ⟨⟨by decide, by decide, by decide⟩, ?_⟩ | refine ⟨.inr ⟨by omega, by omega⟩, ?_⟩ | refine ⟨(by show (0 : Int) < _; first | decide | omega), ?_⟩ | refine ⟨Nat.le_trans (Nat.le_of_ble_eq_true rfl : _ ≤ 50) (by decide), ?_⟩ | refine ⟨_, _, _, _, rfl, rfl, upd_same, rfl, ?_⟩ | refine ⟨_, _, _, _, rfl, rfl, SqL.of upd_same, rfl, ?_⟩ | refine ⟨_, _, _, _, rfl, rfl, SqT.of upd_same, rfl, ?_⟩ | refine ⟨_, _, rfl, .inl (SqL.of upd_same), ?_⟩ | refine ⟨_, _, rfl, .inr (SqT.of upd_same), ?_⟩ | (refine' ⟨_, _, _, _, rfl, rfl, _, _, _⟩; rotate_left 2; (focus (first | assumption | exact SqL.of (by assumption) | exact SqT.of (by assumption) | exact Same.seq (by assumption) (by assumption))); (focus (exact rfl))) | (refine' ⟨_, _, rfl, _, _⟩; rotate_left 1; (focus (first | exact .inl (by assumption) | exact .inl (SqL.of (by assumption)) | exact .inr (by assumption) | exact .inr (SqT.of (by assumption)))))))
        refine ⟨.inl ⟨rfl, _, SqL.of g2⟩, ?_⟩
        (repeat (first | refine ⟨_, rfl, ?_⟩ | refine ⟨_, _, rfl, rfl, ?_⟩ | refine ⟨rfl, ?_⟩ | refine .inl ⟨_, rfl, ?_⟩ | refine .inr ⟨_, rfl, ?_⟩ | refine ⟨.inr ⟨by decide, by decide⟩, ?_⟩ | refine ⟨⟨by decide, by decide⟩, ?_⟩ | refine ⟨⟨by decide, by decide, by decide⟩, ?_⟩ | refine ⟨.inr ⟨by omega, by omega⟩, ?_⟩ | refine ⟨(by show (0 : Int) < _; first | decide | omega), ?_⟩ | refine ⟨Nat.le_trans (Nat.le_of_ble_eq_true rfl : _ ≤ 50) (by decide), ?_⟩ | refine ⟨_, _, _, _, rfl, rfl, upd_same, rfl, ?_⟩ | refine ⟨_, _, _, _, rfl, rfl, SqL.of upd_same, rfl, ?_⟩ | refine ⟨_, _, _, _, rfl, rfl, SqT.of upd_same, rfl, ?_⟩ | refine ⟨_, _, rfl, .inl (SqL.of upd_same), ?_⟩ | refine ⟨_, _, rfl, .inr (SqT.of upd_same), ?_⟩ | (refine' ⟨_, _, _, _, rfl, rfl, _, _, _⟩; rotate_left 2; (focus (first | assumption | exact SqL.of (by assumption) | exact SqT.of (by assumption) | exact Same.seq (by assumption) (by assumption))); (focus (exact rfl))) | (refine' ⟨_, _, rfl, _, _⟩; rotate_left 1; (focus (first | exact .inl (by assumption) | exact .inl (SqL.of (by assumption)) | exact .inr (by assumption) | exact .inr (SqT.of (by assumption)))))))
        refine ⟨d, _, _, rfl, rfl, g2, line5' (by rw [List.length_map]; omega), ?_⟩
        refine ⟨_, rfl, .inl ⟨rfl, _, SqL.of upd_same⟩, ?_⟩
        (repeat (first | refine ⟨_, rfl, ?_⟩ | refine ⟨_, _, rfl, rfl, ?_⟩ | refine ⟨rfl, ?_⟩ | refine .inl ⟨_, rfl, ?_⟩ | refine .inr ⟨_, rfl, ?_⟩ | refine ⟨.inr ⟨by decide, by decide⟩, ?_⟩ | refine ⟨⟨by decide, by decide⟩, ?_⟩ | refine ⟨⟨by decide, by decide, by decide⟩, ?_⟩ | refine ⟨.inr ⟨by omega, by omega⟩, ?_⟩ | refine ⟨(by show (0 : Int) < _; first | decide | omega), ?_⟩ | refine ⟨Nat.le_trans (Nat.le_of_ble_eq_true rfl : _ ≤ 50) (by decide), ?_⟩ | refine ⟨_, _, _, _, rfl, rfl, upd_same, rfl, ?_⟩ | refine ⟨_, _, _, _, rfl, rfl, SqL.of upd_same, rfl, ?_⟩ | refine ⟨_, _, _, _, rfl, rfl, SqT.of upd_same, rfl, ?_⟩ | refine ⟨_, _, rfl, .inl (SqL.of upd_same), ?_⟩ | refine ⟨_, _, rfl, .inr (SqT.of upd_same), ?_⟩ | (refine' ⟨_, _, _, _, rfl, rfl, _, _, _⟩; rotate_left 2; (focus (first | assumption | exact SqL.of (by assumption) | exact SqT.of (by assumption) | exact Same.seq (by assumption) (by assumption))); (focus (exact rfl))) | (refine' ⟨_, _, rfl, _, _⟩; rotate_left 1; (focus (first | exact .inl (by assumption) | exact .inl (SqL.of (by assumption)) | exact .inr (by assumption) | exact .inr (SqT.of (by assumption)))))))
        refine ⟨d, _, _, rfl, rfl, upd_same, line5' (by rw [List.length_append, List.length_map]; show _ + 1 ≤ _; omega), ?_⟩
        refine ⟨_, rfl, .inl ⟨rfl, _, SqL.of upd_same⟩, ?_⟩
        (repeat (first | refine ⟨_, rfl, ?_⟩ | refine ⟨_, _, rfl, rfl, ?_⟩ | refine ⟨rfl, ?_⟩ | refine .inl ⟨_, rfl, ?_⟩ | refine .inr ⟨_, rfl, ?_⟩ | refine ⟨.inr ⟨by decide, by decide⟩, ?_⟩ | refine ⟨⟨by decide, by decide⟩, ?_⟩ | refine ⟨⟨by decide, by decide, by decide⟩, ?_⟩ | refine ⟨.inr ⟨by omega, by omega⟩, ?_⟩ | refine ⟨(by show (0 : Int) < _; first | decide | omega), ?_⟩ | refine ⟨Nat.le_trans (Nat.le_of_ble_eq_true rfl : _ ≤ 50) (by decide), ?_⟩ | refine ⟨_, _, _, _, rfl, rfl, upd_same, rfl, ?_⟩ | refine ⟨_, _, _, _, rfl, rfl, SqL.of upd_same, rfl, ?_⟩ | refine ⟨_, _, _, _, rfl, rfl, SqT.of upd_same, rfl, ?_⟩ | refine ⟨_, _, rfl, .inl (SqL.of upd_same), ?_⟩ | refine ⟨_, _, rfl, .inr (SqT.of upd_same), ?_⟩ | (refine' ⟨_, _, _, _, rfl, rfl, _, _, _⟩; rotate_left 2; (focus (first | assumption | exact SqL.of (by assumption) | exact SqT.of (by assumption) | exact Same.seq (by assumption) (by assumption))); (focus (exact rfl))) | (refine' ⟨_, _, rfl, _, _⟩; rotate_left 1; (focus (first | exact .inl (by assumption) | exact .inl (SqL.of (by assumption)) | exact .inr (by assumption) | exact .inr (SqT.of (by assumption)))))))
        refine ⟨d, _, _, rfl, rfl, upd_same, line5' (by rw [List.length_append, List.length_append, List.length_map]; show _ + 1 + 1 ≤ _; omega), ?_⟩
        refine ⟨_, _, _, _, ds ++ [m] ++ [((m * 48271 + 11) % 2147483647 * 16807 + m / 9 + 3) % 2147483647 / 7] ++ [((m * 48271 + 11) % 2147483647 * 69621 + m / 5 + 7) % 2147483647 / 11], rfl, fun b o hb => ?_, ?_, ?_, by simp only [List.length_append, List.length_singleton]; omega⟩
        · rw [upd_ne (ne_of_none hb hd), upd_ne (ne_of_none hb hd), upd_ne (ne_of_none hb hd)]
          exact sH _ _ hb
        · rw [upd_ne ndc.symm, upd_ne ndc.symm, upd_ne ndc.symm]
          exact h2
        · rw [upd_same, List.map_append, List.map_append, List.map_append]
          rfl
      · refine ⟨20, rfl, by decide, by decide, for_range (lo := 0) (n := 20) (fun j σ H3 => ∃ (v6 v7 : Option V) (m : Int) (es : List Int), σ = [some (.ref a), some (.int st), some (.int mo), some (.ref d), some (.int z), some (.int m), v6, v7] ∧ Same H H3 ∧
            H3 c = some (.lst (ms.map V.int)) ∧ H3 d = some (.lst (es.map V.int)) ∧ es.length ≤ ds.length + j)
          ⟨_, _, m, ds, rfl, sH, h2, g2, Nat.le_refl _⟩ ?_ ?_⟩
        · rintro j σ H3 hj ⟨w6, w7, m, es, rfl, sH3, h3, g3, el3⟩
          (repeat (first | refine ⟨_, rfl, ?_⟩ | refine ⟨_, _, rfl, rfl, ?_⟩ | refine ⟨rfl, ?_⟩ | refine .inl ⟨_, rfl, ?_⟩ | refine .inr ⟨_, rfl, ?_⟩ | refine ⟨.inr ⟨by decide, by decide⟩, ?_⟩ | refine ⟨⟨by decide, by decide⟩, ?_⟩ | refine ⟨⟨by decide, by decide, by decide⟩, ?_⟩ | refine ⟨.inr ⟨by omega, by omega⟩, ?_⟩ | refine ⟨(by show (0 : Int) < _; first | decide | omega), ?_⟩ | refine ⟨Nat.le_trans (Nat.le_of_ble_eq_true rfl : _ ≤ 50) (by decide), ?_⟩ | refine ⟨_, _, _, _, rfl, rfl, upd_same, rfl, ?_⟩ | refine ⟨_, _, _, _, rfl, rfl, SqL.of upd_same, rfl, ?_⟩ | refine ⟨_, _, _, _, rfl, rfl, SqT.of upd_same, rfl, ?_⟩ | refine ⟨_, _, rfl, .inl (SqL.of upd_same), ?_⟩ | refine ⟨_, _, rfl, .inr (SqT.of upd_same), ?_⟩ | (refine' ⟨_, _, _, _, rfl, rfl, _, _, _⟩; rotate_left 2; (focus (first | assumption | exact SqL.of (by assumption) | exact SqT.of (by assumption) | exact Same.seq (by assumption) (by assumption))); (focus (exact rfl))) | (refine' ⟨_, _, rfl, _, _⟩; rotate_left 1; (focus (first | exact .inl (by assumption) | exact .inl (SqL.of (by assumption)) | exact .inr (by assumption) | exact .inr (SqT.of (by assumption)))))))
          refine ite2 (fun _ => ?_) (fun _ => ?_)
          · refine ⟨_, rfl, .inl ⟨rfl, _, SqL.of g3⟩, ?_⟩
            (repeat (first | refine ⟨_, rfl, ?_⟩ | refine ⟨_, _, rfl, rfl, ?_⟩ | refine ⟨rfl, ?_⟩ | refine .inl ⟨_, rfl, ?_⟩ | refine .inr ⟨_, rfl, ?_⟩ | refine ⟨.inr ⟨by decide, by decide⟩, ?_⟩ | refine ⟨⟨by decide, by decide⟩, ?_⟩ | refine ⟨⟨by decide, by decide, by decide⟩, ?_⟩ | refine ⟨.inr ⟨by omega, by omega⟩, ?_⟩ | refine ⟨(by show (0 : Int) < _; first | decide | omega), ?_⟩ | refine ⟨Nat.le_trans (Nat.le_of_ble_eq_true rfl : _ ≤ 50) (by decide), ?_⟩ | refine ⟨_, _, _, _, rfl, rfl, upd_same, rfl, ?_⟩ | refine ⟨_, _, _, _, rfl, rfl, SqL.of upd_same, rfl, ?_⟩ | refine ⟨_, _, _, _, rfl, rfl, SqT.of upd_same, rfl, ?_⟩ | refine ⟨_, _, rfl, .inl (SqL.of upd_same), ?_⟩ | refine ⟨_, _, rfl, .inr (SqT.of upd_same), ?_⟩ | (refine' ⟨_, _, _, _, rfl, rfl, _, _, _⟩; rotate_left 2; (focus (first | assumption | exact SqL.of (by assumption) | exact SqT.of (by assumption) | exact Same.seq (by assumption) (by assumption))); (focus (exact rfl))) | (refine' ⟨_, _, rfl, _, _⟩; rotate_left 1; (focus (first | exact .inl (by assumption) | exact .inl (SqL.of (by assumption)) | exact .inr (by assumption) | exact .inr (SqT.of (by assumption)))))))
            refine ⟨d, _, _, rfl, rfl, g3, line5' (by rw [List.length_map]; omega), ?_⟩
            refine ⟨_, rfl, _, _, rfl, rfl, ⟨by decide, by decide⟩, ?_⟩
            refine ⟨_, _, _, es ++ [m % 10000], rfl, fun b o hb => ?_, ?_, ?_, by simp only [List.length_append, List.length_singleton]; omega⟩
            · rw [upd_ne (ne_of_none hb hd)]
              exact sH3 _ _ hb
            · rw [upd_ne ndc.symm]
              exact h3
            · rw [upd_same, List.map_append]
              rfl
          · refine ⟨_, rfl, _, _, rfl, rfl, ⟨by decide, by decide⟩, ?_⟩
            exact ⟨_, _, _, es, rfl, sH3, h3, g3, by omega⟩
        · rintro σ H3 ⟨w6, w7, m, es, rfl, sH3, h3, g3, el3⟩
          exact ⟨_, _, _, _, es, rfl, sH3, h3, g3, by omega⟩
    · rintro σ H2 ⟨v4, v5, v6, v7, ds, rfl, sH, h2, g2, el⟩
      rw [List.length_map] at el
      refine ⟨_, rfl, _, rfl, _, rfl, d, _, rfl, SqL.of g2, fun r hr2 => ?_⟩
      obtain ⟨es, he, hel⟩ := cut_map ds none (some mo)
      rw [he]
      exact q r es _ (sH.trans (same_upd hr2)) (sH.free hr2) upd_same (by omega)
theorem ok_next (T : Tx P K mg) : FnOk P w K mg base CX0 1 T.a_law_next T.d_law_next ["draws"] spNext := by
  refine T.F_law_next.ok sc_law_next (fun vs H Q E h => ?_) (fun cdv A outer s H vs Q E hr h => ?_)
  · obtain ⟨p, ds, rfl, _⟩ := h
    rfl
  · obtain ⟨p, ds, rfl, hp, hl, q⟩ := h
    refine ⟨_, (pss_cons (ps_if (pt_cmpR op_eq (pe_callB call_len_seq (by rfl) T.z_len (by decide +kernel) (pa_cons (pv 0) pa_nil)) pe_int (nomark _))
        (pss_one (ps_ret pe_int))
        pss_nil)
        (pss_one (ps_ret (pe_bm PySem.F.plainAttrs_list PySem.F.slot_list_pop PySem.F.type_list_pop mt_popAt (pv 0) (pa_cons pe_int pa_nil))))), ?_⟩
    refine ⟨_, rfl, p, _, rfl, .inl (SqL.of hp), ?_⟩
    cases ds with
    | nil =>
      (repeat (first | refine ⟨_, rfl, ?_⟩ | refine ⟨_, _, rfl, rfl, ?_⟩ | refine ⟨rfl, ?_⟩ | refine .inl ⟨_, rfl, ?_⟩ | refine .inr ⟨_, rfl, ?_⟩ | refine ⟨.inr ⟨by decide, by decide⟩, ?_⟩ | refine ⟨⟨by decide, by decide⟩, ?_⟩ | refine ⟨⟨by decide, by decide, by decide⟩, ?_⟩ | refine ⟨.inr ⟨by omega, by omega⟩, ?_⟩ | refine ⟨(by show (0 : Int) < _; first | decide | omega), ?_⟩ | refine ⟨Nat.le_trans (Nat.le_of_ble_eq_true rfl : _ ≤ 50) (by decide), ?_⟩ | refine ⟨_, _, _, _, rfl, rfl, upd_same, rfl, ?_⟩ | refine ⟨_, _, _, _, rfl, rfl, SqL.of upd_same, rfl, ?_⟩ | refine ⟨_, _, _, _, rfl, rfl, SqT.of upd_same, rfl, ?_⟩ | refine ⟨_, _, rfl, .inl (SqL.of upd_same), ?_⟩ | refine ⟨_, _, rfl, .inr (SqT.of upd_same), ?_⟩ | (refine' ⟨_, _, _, _, rfl, rfl, _, _, _⟩; rotate_left 2; (focus (first | assumption | exact SqL.of (by assumption) | exact SqT.of (by assumption) | exact Same.seq (by assumption) (by assumption))); (focus (exact rfl))) | (refine' ⟨_, _, rfl, _, _⟩; rotate_left 1; (focus (first | exact .inl (by assumption) | exact .inl (SqL.of (by assumption)) | exact .inr (by assumption) | exact .inr (SqT.of (by assumption)))))))
      exact q 0 [] H (fun b o _ e => e) hp (Nat.le_refl _)
    | cons x r =>
      (repeat (first | refine ⟨_, rfl, ?_⟩ | refine ⟨_, _, rfl, rfl, ?_⟩ | refine ⟨rfl, ?_⟩ | refine .inl ⟨_, rfl, ?_⟩ | refine .inr ⟨_, rfl, ?_⟩ | refine ⟨.inr ⟨by decide, by decide⟩, ?_⟩ | refine ⟨⟨by decide, by decide⟩, ?_⟩ | refine ⟨⟨by decide, by decide, by decide⟩, ?_⟩ | refine ⟨.inr ⟨by omega, by omega⟩, ?_⟩ | refine ⟨(by show (0 : Int) < _; first | decide | omega), ?_⟩ | refine ⟨Nat.le_trans (Nat.le_of_ble_eq_true rfl : _ ≤ 50) (by decide), ?_⟩ | refine ⟨_, _, _, _, rfl, rfl, upd_same, rfl, ?_⟩ | refine ⟨_, _, _, _, rfl, rfl, SqL.of upd_same, rfl, ?_⟩ | refine ⟨_, _, _, _, rfl, rfl, SqT.of upd_same, rfl, ?_⟩ | refine ⟨_, _, rfl, .inl (SqL.of upd_same), ?_⟩ | refine ⟨_, _, rfl, .inr (SqT.of upd_same), ?_⟩ | (refine' ⟨_, _, _, _, rfl, rfl, _, _, _⟩; rotate_left 2; (focus (first | assumption | exact SqL.of (by assumption) | exact SqT.of (by assumption) | exact Same.seq (by assumption) (by assumption))); (focus (exact rfl))) | (refine' ⟨_, _, rfl, _, _⟩; rotate_left 1; (focus (first | exact .inl (by assumption) | exact .inl (SqL.of (by assumption)) | exact .inr (by assumption) | exact .inr (SqT.of (by assumption)))))))
      refine ⟨.inl ⟨rfl, _, SqL.of hp⟩, p, _, 0, 0, .int x, rfl, rfl, hp, by decide, by decide, ?_, rfl, ?_⟩
      · rw [List.length_map, List.length_cons]
        unfold seqIndex?
        simp
        try omega
      · exact q x r _ (keep_upd H p _) upd_same (Nat.le_succ _)
theorem ok_law_work1 (T : Tx P K mg) {α : Type} {subAt : Hp → Addr → α → Prop} {subW : WN → α → Int} {subOk : WN → α → Prop} {lv : Nat} (mono : ∀ H H' a b, subAt H a b → Tups H H' → subAt H' a b)
    (G_law_work : FnOk P w K mg base CX0 lv T.a_law_work T.d_law_work ["body", "known"] (spWork subAt subW subOk)) :
    FnOk P w K mg base CX0 (lv + 1) T.a_law_work T.d_law_work ["body", "known"] (spWork (rowAt K subAt) (rowW subW) (rowWok subOk)) := by
  refine T.F_law_work.ok sc_law_work (fun vs H Q E h => ?_) (fun cdv A outer s H vs Q E hr h => ?_)
  · obtain ⟨a, d, _, _, rfl, _⟩ := h
    rfl
  · obtain ⟨a, d, l, wk, rfl, ha, hw, ⟨hl, ho⟩, q⟩ := h
    have hr_law_work : Room lv _ := hr
    refine ⟨_, (pss_cons (ps_set (i := 2) sc_law_work.nd rfl (.inl rfl) pe_int)
        (pss_cons (ps_for PassesOwn.never rfl (pi_tup (pv 0)) (pg_name (i := 3) sc_law_work.nd rfl (.inl rfl))
        (pss_one (ps_if (pt_cmpR op_in_seq (pe_ix ix_tup (pv 3) pe_int (fun _ _ => rfl)) (pe_tup (pa_cons pe_str (pa_cons pe_str pa_nil))) (by rfl))
        (pss_one (ps_set (i := 2) sc_law_work.nd rfl (.inl rfl) (pe_op op_add (pv 2) pe_int)))
        (pss_one (ps_if (pt_cmpR op_eq (pe_ix ix_tup (pv 3) pe_int (fun _ _ => rfl)) pe_str (nomark _))
        (pss_one (ps_set (i := 2) sc_law_work.nd rfl (.inl rfl) (pe_op op_add (pe_op op_add (pv 2) pe_int) (pe_op op_mul (pe_op op_add (pe_op op_sub (pe_ix ix_tup (pv 3) pe_int (fun _ _ => rfl)) (pe_ix ix_tup (pv 3) pe_int (fun _ _ => rfl))) pe_int) (pe_call G_law_work hr_law_work (by rfl) T.g_law_work T.F_law_work.kp T.b_law_work .nil pass0 (pa_cons (pe_ix ix_tup (pv 3) pe_int (fun _ _ => rfl)) (pa_cons (pv 1) pa_nil)))))))
        (pss_one (ps_if (pt_cmpR op_eq (pe_ix ix_tup (pv 3) pe_int (fun _ _ => rfl)) pe_str (nomark _))
        (pss_one (ps_set (i := 2) sc_law_work.nd rfl (.inl rfl) (pe_op op_add (pe_op op_add (pv 2) pe_int) (pe_callB (call_max2 rfl) (by rfl) T.z_max (by decide +kernel) (pa_cons (pe_call G_law_work hr_law_work (by rfl) T.g_law_work T.F_law_work.kp T.b_law_work .nil pass0 (pa_cons (pe_ix ix_tup (pv 3) pe_int (fun _ _ => rfl)) (pa_cons (pv 1) pa_nil))) (pa_cons (pe_call G_law_work hr_law_work (by rfl) T.g_law_work T.F_law_work.kp T.b_law_work .nil pass0 (pa_cons (pe_ix ix_tup (pv 3) pe_int (fun _ _ => rfl)) (pa_cons (pv 1) pa_nil))) pa_nil))))))
        (pss_one (ps_set (i := 2) sc_law_work.nd rfl (.inl rfl) (pe_op op_add (pe_op op_add (pv 2) pe_int) (pe_dget (hu_of hr) (pv 1) (pe_ix ix_tup (pv 3) pe_int (fun _ _ => rfl)) (fun _ _ => rfl))))))))))))
        (pss_one (ps_ret (pv 2))))), ?_⟩
    obtain ⟨xs, h1, h2, h3⟩ := id ha
    refine ⟨_, rfl, a, rfl, ⟨_, h1⟩, for_tup (K := K) (a := a) (xs := xs) (fun i σ H' => ∃ v3 : Option V, σ = [some (.ref a), some (.ref d), some (.int ((l.take i).map (stmW subW wk)).sum), v3] ∧ Same H H')
      ⟨_, rfl, Same.refl H⟩ (fun i σ H' _ ⟨_, _, s1⟩ => (tups_same s1).seq h1) ?_ ?_⟩
    · rintro i x σ H' hx ⟨v3, rfl, s1⟩
      have li : i < l.length := by
        have q := (List.getElem?_eq_some_iff.mp hx).1
        omega
      obtain ⟨b, e1, e2⟩ := h3 i _ (List.getElem?_eq_getElem li)
      obtain rfl : x = .ref b := Option.some.inj (hx.symm.trans e1)
      rw [← List.take_append_getElem li, List.map_append, List.sum_append]
      have os := ho _ (List.getElem_mem li)
      have one : (List.map (stmW subW wk) [l[i]]).sum = stmW subW wk l[i] := by simp
      rw [one]
      generalize l[i] = st at e2 os
      generalize ((l.take i).map (stmW subW wk)).sum = tot
      have e2 := stm_tups mono e2 (tups_same s1)
      have hw := wk_same hw s1
      have fin : ∀ (H2 : Hp) (w1 w2 : Int), Same H H2 → w1 = w2 → ∃ v3 : Option V, ([some (.ref a), some (.ref d), some (.int w1), some (.ref b)] : L2.St) = [some (.ref a), some (.ref d), some (.int w2), v3] ∧ Same H H2 := fun H2 w1 w2 s e => ⟨some (.ref b), by rw [e], s⟩
      cases st with
      | set n e =>
        obtain ⟨x, g1, he⟩ := e2
        refine ⟨_, rfl, b, _, _, _, rfl, rfl, g1, rfl, (by show 2 ≤ sizeLine; decide), fun t ht => ⟨t, _, rfl, .inr (SqT.of upd_same), rfl, rfl, _, rfl, iteT' (by decide +kernel) ?_⟩⟩
        exact ⟨_, rfl, _, _, rfl, rfl, fin _ _ _ (s1.trans (same_upd ht)) rfl⟩
      | ifs c b1 b2 =>
        obtain ⟨x, y, z, g1, he, hy, hz⟩ := e2
        refine ⟨_, rfl, b, _, _, _, rfl, rfl, g1, rfl, (by show 2 ≤ sizeLine; decide), fun t ht => ⟨t, _, rfl, .inr (SqT.of upd_same), rfl, rfl, _, rfl, iteF' (by decide +kernel) ?_⟩⟩
        have sT := same_upd (o := .tup [.str "set", .str "put"]) ht
        have g2 := (tups_same sT).seq g1
        refine ⟨_, rfl, b, _, _, _, rfl, rfl, g2, rfl, rfl, _, rfl, iteF' (by decide +kernel) ?_⟩
        refine ⟨_, rfl, b, _, _, _, rfl, rfl, g2, rfl, rfl, _, rfl, iteT' (by decide +kernel) ?_⟩
        refine ⟨_, rfl, _, _, rfl, rfl, ?_⟩
        refine ⟨_, rfl, b, _, _, _, rfl, rfl, g2, rfl, _, rfl, y, d, b1, wk, rfl, mono _ _ _ _ hy (tups_same sT), wk_same hw sT, os.1, fun H3 s3 => ?_⟩
        have sU := sT.trans s3
        refine ⟨_, rfl, b, _, _, _, rfl, rfl, (tups_same sU).seq g1, rfl, _, rfl, z, d, b2, wk, rfl, mono _ _ _ _ hz (tups_same sU), wk_same hw sU, os.2, fun H4 s4 => ?_⟩
        exact ⟨_, _, rfl, _, _, rfl, rfl, fin _ _ _ (s1.trans (sU.trans s4)) (Int.add_assoc _ _ _)⟩
      | loop n f l b9 =>
        obtain ⟨y, g1, hy⟩ := e2
        refine ⟨_, rfl, b, _, _, _, rfl, rfl, g1, rfl, (by show 2 ≤ sizeLine; decide), fun t ht => ⟨t, _, rfl, .inr (SqT.of upd_same), rfl, rfl, _, rfl, iteF' (by decide +kernel) ?_⟩⟩
        have sT := same_upd (o := .tup [.str "set", .str "put"]) ht
        have g2 := (tups_same sT).seq g1
        refine ⟨_, rfl, b, _, _, _, rfl, rfl, g2, rfl, rfl, _, rfl, iteT' (by decide +kernel) ?_⟩
        refine ⟨_, rfl, _, _, rfl, rfl, ?_⟩
        refine ⟨_, rfl, b, _, _, _, rfl, rfl, g2, rfl, _, rfl, b, _, _, _, rfl, rfl, g2, rfl, _, _, rfl, rfl, _, _, rfl, rfl, ?_⟩
        refine ⟨_, rfl, b, _, _, _, rfl, rfl, g2, rfl, _, rfl, y, d, b9, wk, rfl, mono _ _ _ _ hy (tups_same sT), wk_same hw sT, os.2, fun H3 s3 => ?_⟩
        exact ⟨_, _, rfl, rfl, .inl os.1, _, _, rfl, rfl, fin _ _ _ (s1.trans (sT.trans s3)) (Int.add_assoc _ _ _)⟩
      | call ts name args =>
        obtain ⟨x, y, g1, hx, hy⟩ := e2
        refine ⟨_, rfl, b, _, _, _, rfl, rfl, g1, rfl, (by show 2 ≤ sizeLine; decide), fun t ht => ⟨t, _, rfl, .inr (SqT.of upd_same), rfl, rfl, _, rfl, iteF' (by decide +kernel) ?_⟩⟩
        have sT := same_upd (o := .tup [.str "set", .str "put"]) ht
        have g2 := (tups_same sT).seq g1
        obtain ⟨kvs, hd, hv⟩ := wk_same hw sT
        refine ⟨_, rfl, b, _, _, _, rfl, rfl, g2, rfl, rfl, _, rfl, iteF' (by decide +kernel) ?_⟩
        refine ⟨_, rfl, b, _, _, _, rfl, rfl, g2, rfl, rfl, _, rfl, iteF' (by decide +kernel) ?_⟩
        cases ew : wk.lookup name with
        | none => exact absurd ew os
        | some i =>
          refine ⟨_, rfl, _, _, rfl, rfl, _, rfl, _, rfl, b, _, _, _, rfl, rfl, g2, rfl, d, .int i, rfl, by rw [← hv name i ew]; exact DGet.k (k := Sum.inr name) hd, _, _, rfl, rfl, ?_⟩
          refine fin _ _ _ (s1.trans sT) ?_
          show tot + 1 + i = tot + (1 + (wk.lookup name).getD 0)
          rw [ew]
          exact Int.add_assoc _ _ _
    · rintro σ H' ⟨v3, rfl, s1⟩
      rw [h2, List.take_length]
      exact ⟨_, rfl, q _ s1⟩
theorem ok_law_work (T : Tx P K mg) : ∀ d, FnOk P w K mg base CX0 d T.a_law_work T.d_law_work ["body", "known"] (spWork (SbAt K d) (SbW d) (SbWok d))
  | 0 => ⟨fun vs H Q E h => by
      obtain ⟨a, d, b, _⟩ := h
      exact b.elim, fun A outer s H args us vs Q E _ _ _ _ h => by
      obtain ⟨a, d, b, _⟩ := h
      exact b.elim⟩
  | d + 1 => ok_law_work1 T (sb_tups d) (ok_law_work T d)
end
end K17

set_option Elab.async false
set_option linter.all false
set_option maxRecDepth 100000
set_option maxHeartbeats 4000000
namespace K17
open PySem PySem.Spec PyProof.Rows L2 QX
/-! ### the law's own bodies -/
def letter : Nat → Str
  | 1 => "j"
  | _ => "k"
def GoodStm {α : Type} (names : List Str) (d : Nat) (sub : α → Prop) : Stm α → Prop
  | .set n e => n = "r" ∧ e = .nm "s"
  | .ifs c x y => c = .nm "p" ∧ sub x ∧ sub y
  | .loop n f l b => n = letter d ∧ 0 ≤ f ∧ f ≤ l ∧ l ≤ f + 39 ∧ f ≤ 4 ∧ sub b
  | .call ts name args => ts = [("r" : Str)] ∧ name ∈ names ∧ args = [.nm "s", .nm "p"]
def Good (names : List Str) : (d : Nat) → Sb d → Prop
  | 0 => fun _ => False
  | d + 1 => fun l => List.length (α := Stm (Sb d)) l ≤ 2 ∧ ∀ s : Stm (Sb d), s ∈ (show List (Stm (Sb d)) from l) → GoodStm names d (Good names d) s
def spLB (K : PySem.W.Frag) (depth : Nat) : Sp := fun vs H Q _ => ∃ (p c : Addr) (ds : List Int) (names : List Str), vs = [.ref p, .ref c, .int depth] ∧ H p = some (.lst (ds.map V.int)) ∧ ds.length ≤ 2000 ∧ SqL K H c (names.map V.str) ∧ c ≠ p ∧ names.length ≤ 3 ∧ depth ≤ 2 ∧
  ∀ t b (es : List Int) H', Keep H H' p → H' p = some (.lst (es.map V.int)) → es.length ≤ ds.length → SbAt K (depth + 1) H' t b → Good names (depth + 1) b → Q (.ref t) H'
def spPrev (K : PySem.W.Frag) : Nat → Sp
  | 0 => fun _ _ _ _ => False
  | k + 1 => spLB K k
theorem tups_lst {H : Hp} {d : Addr} {vs : List V} {u : HO} (h : H d = some (.lst vs)) : Tups H (upd H d u) := fun b xs =>
  ⟨fun z => by rw [upd_ne (ne_of z h (by intro w; cases w))]; exact z, fun o z => by rw [upd_ne (ne_of z h (by intro w; cases w))]; exact z⟩
theorem tups_keep {H H' : Hp} {d : Addr} {vs : List V} (h : H d = some (.lst vs)) (k : Keep H H' d) : Tups H H' := fun b xs =>
  ⟨fun z => k _ _ (ne_of z h (by intro w; cases w)) z, fun o z => k _ _ (ne_of z h (by intro w; cases w)) z⟩
/-- the rows made so far -/
def RowsAt {α : Type} (K : PySem.W.Frag) (subAt : Hp → Addr → α → Prop) (H : Hp) (l : Addr) (b : List (Stm α)) : Prop := ∃ xs : List V, H l = some (.lst xs) ∧ xs.length = b.length ∧ ∀ (i : Nat) (s : Stm α), b[i]? = some s → ∃ a : Addr, xs[i]? = some (V.ref a) ∧ stmAt K subAt H a s
theorem rows_tups {α : Type} {K : PySem.W.Frag} {subAt : Hp → Addr → α → Prop} (mono : ∀ H H' a b, subAt H a b → Tups H H' → subAt H' a b) {H H' : Hp} {l : Addr} {b : List (Stm α)} (h : RowsAt K subAt H l b) (t : Tups H H') (k : ∀ xs, H l = some (.lst xs) → H' l = some (.lst xs)) : RowsAt K subAt H' l b := by
  obtain ⟨xs, h1, h2, h3⟩ := h
  refine ⟨xs, k _ h1, h2, fun i s e => ?_⟩
  obtain ⟨a, e1, e2⟩ := h3 i s e
  exact ⟨a, e1, stm_tups mono e2 t⟩
/-- one more row -/
theorem rows_add {α : Type} {K : PySem.W.Frag} {subAt : Hp → Addr → α → Prop} (mono : ∀ H H' a b, subAt H a b → Tups H H' → subAt H' a b) {H : Hp} {l a : Addr} {b : List (Stm α)} {xs : List V} {s : Stm α} (h1 : H l = some (.lst xs)) (h : RowsAt K subAt H l b) (ha : stmAt K subAt H a s) :
    RowsAt K subAt (upd H l (.lst (xs ++ [.ref a]))) l (b ++ [s]) := by
  obtain ⟨ys, g1, g2, g3⟩ := h
  have e : ys = xs := by
    rw [h1] at g1
    cases g1
    rfl
  subst e
  have t : Tups H (upd H l (.lst (ys ++ [.ref a]))) := tups_lst h1
  refine ⟨_, upd_same, by rw [List.length_append, List.length_append, g2]; rfl, fun i s' e => ?_⟩
  by_cases c : i < b.length
  · rw [List.getElem?_append_left c] at e
    obtain ⟨a', e1, e2⟩ := g3 i s' e
    exact ⟨a', by rw [List.getElem?_append_left (by rw [g2]; exact c)]; exact e1, stm_tups mono e2 t⟩
  · have c' : b.length ≤ i := Nat.le_of_not_lt c
    rw [List.getElem?_append_right c'] at e
    have z : i - b.length = 0 := by
      have := (List.getElem?_eq_some_iff.mp e).1
      rw [List.length_singleton] at this
      omega
    rw [z] at e
    obtain rfl : s = s' := Option.some.inj e
    exact ⟨a, by rw [List.getElem?_append_right (by rw [g2]; exact c'), g2, z]; rfl, stm_tups mono ha t⟩
section
variable {P : Program} {w : World} {K : PySem.W.Frag} {mg : Str → Option Value} {base : Heap}
theorem ok_law_body1 (T : Tx P K mg) (depth : Nat) (G_law_body : FnOk P w K mg base CX0 (depth + 1) T.a_law_body T.d_law_body ["draws", "calls", "depth"] (spPrev K depth)) :
    FnOk P w K mg base CX0 (depth + 2) T.a_law_body T.d_law_body ["draws", "calls", "depth"] (spLB K depth) := by
  have G_law_next : FnOk P w K mg base CX0 1 T.a_law_next T.d_law_next ["draws"] spNext := ok_next T
  refine T.F_law_body.ok sc_law_body (fun vs H Q E h => ?_) (fun cdv A outer s H vs Q E hr h => ?_)
  · obtain ⟨p, c, _, _, rfl, _⟩ := h
    rfl
  · obtain ⟨p, c, ds, names, rfl, hp, hl, hc, ncp, hn, hd, q⟩ := h
    have hr_law_next : Room 1 _ := hr.mono (by omega)
    have hr_law_body : Room (depth + 1) _ := hr
    refine ⟨_, (pss_cons (ps_set (i := 3) sc_law_body.nd rfl (.inl rfl) (pe_lst pa_nil))
        (pss_cons (ps_for PassesOwn.never rfl (pi_range1 rfl T.z_range (pa_cons (pe_op op_mod (pe_call G_law_next hr_law_next (by rfl) T.g_law_next T.F_law_next.kp T.b_law_next .nil pass0 (pa_cons (pv 0) pa_nil)) pe_int) pa_nil)) (pg_name (i := 4) sc_law_body.nd rfl (.inl rfl))
        (pss_cons (ps_set (i := 5) sc_law_body.nd rfl (.inl rfl) (pe_call G_law_next hr_law_next (by rfl) T.g_law_next T.F_law_next.kp T.b_law_next .nil pass0 (pa_cons (pv 0) pa_nil)))
        (pss_one (ps_if (PW.pt (pw_and (pt_cmpR op_gt (pv 2) pe_int (nomark _)) (pw_and1 (pt_cmpR op_eq (pe_op op_mod (pv 5) pe_int) pe_int (nomark _)))))
        (pss_one (ps_expr (pe_bm PySem.F.plainAttrs_list PySem.F.slot_list_append PySem.F.type_list_append mt_append (pv 3) (pa_cons (pe_tup (pa_cons pe_str (pa_cons (pe_ix ix_str pe_str (pv 2) (fun _ _ => rfl)) (pa_cons (pe_op op_mod (pe_op op_fdiv (pv 5) pe_int) pe_int) (pa_cons (pe_op op_add (pe_op op_mod (pe_op op_fdiv (pv 5) pe_int) pe_int) (pe_op op_mod (pe_op op_fdiv (pv 5) pe_int) pe_int)) (pa_cons (pe_call G_law_body hr_law_body (by rfl) T.g_law_body T.F_law_body.kp T.b_law_body .nil pass0 (pa_cons (pv 0) (pa_cons (pv 1) (pa_cons (pe_op op_sub (pv 2) pe_int) pa_nil)))) pa_nil)))))) pa_nil))))
        (pss_one (ps_if (PW.pt (pw_and (pt_cmpR op_gt (pv 2) pe_int (nomark _)) (pw_and1 (pt_cmpR op_eq (pe_op op_mod (pv 5) pe_int) pe_int (nomark _)))))
        (pss_cons (ps_set (i := 6) sc_law_body.nd rfl (.inl rfl) (pe_call G_law_body hr_law_body (by rfl) T.g_law_body T.F_law_body.kp T.b_law_body .nil pass0 (pa_cons (pv 0) (pa_cons (pv 1) (pa_cons (pe_op op_sub (pv 2) pe_int) pa_nil)))))
        (pss_one (ps_expr (pe_bm PySem.F.plainAttrs_list PySem.F.slot_list_append PySem.F.type_list_append mt_append (pv 3) (pa_cons (pe_tup (pa_cons pe_str (pa_cons (pe_tup (pa_cons pe_str (pa_cons pe_str pa_nil))) (pa_cons (pv 6) (pa_cons (pe_call G_law_body hr_law_body (by rfl) T.g_law_body T.F_law_body.kp T.b_law_body .nil pass0 (pa_cons (pv 0) (pa_cons (pv 1) (pa_cons (pe_op op_sub (pv 2) pe_int) pa_nil)))) pa_nil))))) pa_nil)))))
        (pss_one (ps_if (PW.pt (pw_and (pt_cmpR op_gt (pe_callB call_len_seq (by rfl) T.z_len (by decide +kernel) (pa_cons (pv 1) pa_nil)) pe_int (nomark _)) (pw_and1 (pt_cmpR op_eq (pe_op op_mod (pv 5) pe_int) pe_int (nomark _)))))
        (pss_one (ps_expr (pe_bm PySem.F.plainAttrs_list PySem.F.slot_list_append PySem.F.type_list_append mt_append (pv 3) (pa_cons (pe_tup (pa_cons pe_str (pa_cons (pe_tup (pa_cons pe_str pa_nil)) (pa_cons (pe_ix ix_list (pv 1) (pe_op op_mod (pe_op op_fdiv (pv 5) pe_int) (pe_callB call_len_seq (by rfl) T.z_len (by decide +kernel) (pa_cons (pv 1) pa_nil))) (fun _ _ => rfl)) (pa_cons (pe_tup (pa_cons (pe_tup (pa_cons pe_str (pa_cons pe_str pa_nil))) (pa_cons (pe_tup (pa_cons pe_str (pa_cons pe_str pa_nil))) pa_nil))) pa_nil))))) pa_nil))))
        (pss_one (ps_expr (pe_bm PySem.F.plainAttrs_list PySem.F.slot_list_append PySem.F.type_list_append mt_append (pv 3) (pa_cons (pe_tup (pa_cons pe_str (pa_cons pe_str (pa_cons (pe_tup (pa_cons pe_str (pa_cons pe_str pa_nil))) pa_nil)))) pa_nil))))))))))))
        (pss_one (ps_ret (pe_callTy call_tuple_of (by rfl) T.z_tuple (by decide +kernel) (pa_cons (pv 3) pa_nil)))))), ?_⟩
    refine ⟨Nat.zero_le _, fun l nl => ?_⟩
    have npl : p ≠ l := ne_of_none hp nl
    refine ⟨_, rfl, p, ds, rfl, by rw [upd_ne npl]; exact hp, hl, fun v es H1 k1 hp1 el1 => ?_⟩
    refine ⟨_, _, rfl, rfl, (by show (0 : Int) < _; decide), ?_⟩
    have hv : 0 ≤ v % 3 ∧ v % 3 < 3 := ⟨Int.emod_nonneg _ (by decide), Int.emod_lt_of_pos _ (by decide)⟩
    have hl1 : H1 l = some (.lst []) := k1 _ _ npl.symm upd_same
    have kH : Keep H H1 p := fun b o nb e => k1 b o nb (by rw [upd_ne (ne_of_none e nl)]; exact e)
    refine ⟨_, rfl, by omega, by omega, for_range (lo := 0) (n := (v % 3).toNat) (fun i σ H' => ∃ (v4 v5 v6 : Option V) (es : List Int) (b : List (Stm (Sb depth))), σ = [some (.ref p), some (.ref c), some (.int depth), some (.ref l), v4, v5, v6] ∧ Keep H H' p ∧ H' p = some (.lst (es.map V.int)) ∧ es.length ≤ ds.length ∧
        RowsAt K (SbAt K depth) H' l b ∧ b.length ≤ i ∧ ∀ s ∈ b, GoodStm names depth (Good names depth) s)
      ⟨_, _, _, es, [], rfl, kH, hp1, el1, ⟨[], hl1, rfl, fun i s e => by cases e⟩, Nat.le_refl _, fun s hs => by cases hs⟩ ?_ ?_⟩
    · rintro i σ H' hi ⟨v4, v5, v6, es2, b, rfl, kp, hp2, el2, hR, hbi, hG⟩
      have hi2 : i < 3 := by omega
      obtain ⟨xs0, hl2, hxs0, _⟩ := id hR
      refine ⟨_, rfl, p, es2, rfl, hp2, by omega, fun dr es3 H2 k2 hp3 el3 => ?_⟩
      have t2 := tups_keep hp2 k2
      have hR2 : RowsAt K (SbAt K depth) H2 l b := rows_tups (sb_tups depth) hR t2 fun xs e => k2 _ _ npl.symm e
      have hl3 : H2 l = some (.lst xs0) := k2 _ _ npl.symm hl2
      have kp2 : Keep H H2 p := fun z o nz e => k2 z o nz (kp z o nz e)
      have small : ∀ n : Nat, n < 3 → n < sizeLine := fun n h => Nat.lt_of_lt_of_le h (by decide)
      have hc2 : SqL K H2 c (names.map V.str) := by
        rcases hc with (h | ⟨o, h⟩) | h
        · exact .inl (.inl (kp2 _ _ ncp h))
        · exact .inl (.inr ⟨o, kp2 _ _ ncp h⟩)
        · exact .inr h
      have fin : ∀ (H3 : Hp) (a : Addr) (s : Stm (Sb depth)) (es3 : List Int) (w4 w5 w6 : Option V), Keep H H3 p → H3 p = some (.lst (es3.map V.int)) → es3.length ≤ ds.length → RowsAt K (SbAt K depth) H3 l b → H3 l = some (.lst xs0) → stmAt K (SbAt K depth) H3 a s → GoodStm names depth (Good names depth) s →
          ∃ (v4 v5 v6 : Option V) (es : List Int) (b : List (Stm (Sb depth))), ([some (.ref p), some (.ref c), some (.int depth), some (.ref l), w4, w5, w6] : L2.St) = [some (.ref p), some (.ref c), some (.int depth), some (.ref l), v4, v5, v6] ∧ Keep H (upd H3 l (.lst (xs0 ++ [.ref a]))) p ∧ upd H3 l (.lst (xs0 ++ [.ref a])) p = some (.lst (es.map V.int)) ∧ es.length ≤ ds.length ∧
            RowsAt K (SbAt K depth) (upd H3 l (.lst (xs0 ++ [.ref a]))) l b ∧ b.length ≤ i + 1 ∧ ∀ s ∈ b, GoodStm names depth (Good names depth) s := by
        intro H3 a s es3 w4 w5 w6 g1 g2 g3 g4 g5 g6 g7
        refine ⟨w4, w5, w6, es3, b ++ [s], rfl, fun z o nz e => ?_, by rw [upd_ne npl]; exact g2, g3, rows_add (sb_tups depth) g5 g4 g6, by rw [List.length_append, List.length_singleton]; omega, fun s' hs => ?_⟩
        · rw [upd_ne (ne_of_none e nl)]
          exact g1 z o nz e
        · rcases List.mem_append.mp hs with h | h
          · exact hG s' h
          · rw [List.mem_singleton.mp h]
            exact g7
      have hcK : ∀ H3, Keep H H3 p → SqL K H3 c (names.map V.str) := fun H3 kp3 => by
        rcases hc with (h | ⟨o, h⟩) | h
        · exact .inl (.inl (kp3 _ _ ncp h))
        · exact .inl (.inr ⟨o, kp3 _ _ ncp h⟩)
        · exact .inr h
      have lx : xs0.length < sizeLine := by rw [hxs0]; exact small _ (by omega)
      have kS : ∀ {H3 H4 : Hp}, Keep H H3 p → Same H3 H4 → Keep H H4 p := fun k s z o nz e => s _ _ (k z o nz e)
      rcases Nat.eq_zero_or_pos depth with hz | hz
      · have hzF : decide ((depth : Int) > 0) = false := decide_eq_false (by omega)
        refine ⟨_, rfl, _, _, rfl, rfl, _, rfl, iteF' hzF (iteF' rfl ?_)⟩
        refine ⟨_, rfl, _, _, rfl, rfl, _, rfl, iteF' hzF (iteF' rfl ?_)⟩
        refine ⟨_, rfl, c, _, rfl, .inl hc2, _, _, rfl, rfl, _, rfl, ?_⟩
        refine ite2 (fun e0 => ?_) (fun e0 => ?_)
        · have len0 : (0 : Int) < ((names.map V.str).length : Int) := of_decide_eq_true e0
          refine ⟨_, rfl, _, _, rfl, rfl, (by show (0 : Int) < _; decide), rfl, _, rfl, ?_⟩
          refine ite2 (fun e3 => ?_) (fun e3 => ?_)
          · refine ⟨_, rfl, .inl ⟨rfl, _, SqL.of hl3⟩, (by show 1 ≤ sizeLine; decide), fun u1 hu1 => ?_⟩
            have s1' := same_upd (o := .tup [.str "r"]) hu1
            refine ⟨_, rfl, _, rfl, _, _, rfl, rfl, ⟨by decide, by decide⟩, _, rfl, c, _, rfl, .inl (hcK _ (kS kp2 s1')), _, _, rfl, rfl, len0, ?_⟩
            obtain ⟨j, hj, ej⟩ : ∃ j : Nat, j < names.length ∧ dr / 4 % ((names.map V.str).length : Int) = (j : Int) := by
              have m1 := Int.emod_nonneg (dr / 4) (Int.ne_of_gt len0)
              have m2 := Int.emod_lt_of_pos (dr / 4) len0
              have lm : (names.map V.str).length = names.length := List.length_map _
              exact ⟨(dr / 4 % ((names.map V.str).length : Int)).toNat, by omega, by omega⟩
            have hat : atI (names.map V.str) (dr / 4 % ((names.map V.str).length : Int)) = some (.str names[j]) := by
              rw [ej]
              exact atI_nat (by rw [List.getElem?_map, List.getElem?_eq_getElem hj]; rfl)
            refine ⟨c, _, _, _, rfl, rfl, hcK _ (kS kp2 s1'), hat, ?_⟩
            refine ⟨(by show 2 ≤ sizeLine; decide), fun u2 hu2 => ⟨(by show 2 ≤ sizeLine; decide), fun u3 hu3 => ⟨(by show 2 ≤ sizeLine; decide), fun u4 hu4 => ⟨(by show 4 ≤ sizeLine; decide), fun u5 hu5 => ?_⟩⟩⟩⟩
            have q2 := same_upd (o := .tup [.str "name", .str "s"]) hu2
            have q3 := same_upd (o := .tup [.str "name", .str "p"]) hu3
            have q4 := same_upd (o := .tup [.ref u2, .ref u3]) hu4
            have q5 := same_upd (o := .tup [.str "call", .ref u1, .str names[j], .ref u4]) hu5
            have s5' := s1'.trans (q2.trans (q3.trans (q4.trans q5)))
            refine ⟨l, xs0, _, rfl, rfl, s5' _ _ hl3, lx, ?_⟩
            refine fin _ u5 (.call ["r"] names[j] [.nm "s", .nm "p"]) es3 _ _ _ (kS kp2 s5') (s5' _ _ hp3) (by omega) (rows_tups (sb_tups depth) hR2 (tups_same s5') fun xs e => s5' _ _ e) (s5' _ _ hl3) ⟨u1, u4, SqT.of upd_same, (tups_same (q2.trans (q3.trans (q4.trans q5)))).seq (SqT.of upd_same), ⟨[.ref u2, .ref u3], (tups_same q5).seq (SqT.of upd_same), rfl, fun i e h => ?_⟩⟩ ⟨rfl, List.getElem_mem hj, rfl⟩
            match i, h with
            | 0, h => cases h; exact ⟨u2, rfl, (tups_same (q3.trans (q4.trans q5))).seq (SqT.of upd_same)⟩
            | 1, h => cases h; exact ⟨u3, rfl, (tups_same (q4.trans q5)).seq (SqT.of upd_same)⟩
          · refine ⟨_, rfl, .inl ⟨rfl, _, SqL.of hl3⟩, (by show 2 ≤ sizeLine; decide), fun u1 hu1 => ⟨(by show 3 ≤ sizeLine; decide), fun u2 hu2 => ?_⟩⟩
            have s1' := same_upd (o := .tup [.str "name", .str "s"]) hu1
            have s2' := s1'.trans (same_upd (o := .tup [.str "set", .str "r", .ref u1]) hu2)
            refine ⟨l, xs0, _, rfl, rfl, s2' _ _ hl3, lx, ?_⟩
            exact fin _ u2 (.set "r" (.nm "s")) es3 _ _ _ (kS kp2 s2') (s2' _ _ hp3) (by omega) (rows_tups (sb_tups depth) hR2 (tups_same s2') fun xs e => s2' _ _ e) (s2' _ _ hl3) ⟨u1, SqT.of upd_same, (tups_same (same_upd hu2)).seq (SqT.of upd_same)⟩ ⟨rfl, rfl⟩
        · refine iteF' rfl ?_
          refine ⟨_, rfl, .inl ⟨rfl, _, SqL.of hl3⟩, (by show 2 ≤ sizeLine; decide), fun u1 hu1 => ⟨(by show 3 ≤ sizeLine; decide), fun u2 hu2 => ?_⟩⟩
          have s1' := same_upd (o := .tup [.str "name", .str "s"]) hu1
          have s2' := s1'.trans (same_upd (o := .tup [.str "set", .str "r", .ref u1]) hu2)
          refine ⟨l, xs0, _, rfl, rfl, s2' _ _ hl3, lx, ?_⟩
          exact fin _ u2 (.set "r" (.nm "s")) es3 _ _ _ (kS kp2 s2') (s2' _ _ hp3) (by omega) (rows_tups (sb_tups depth) hR2 (tups_same s2') fun xs e => s2' _ _ e) (s2' _ _ hl3) ⟨u1, SqT.of upd_same, (tups_same (same_upd hu2)).seq (SqT.of upd_same)⟩ ⟨rfl, rfl⟩
      · obtain ⟨k, rfl⟩ : ∃ k, depth = k + 1 := ⟨depth - 1, by omega⟩
        have hk1 : (((k + 1 : Nat) : Int) - 1) = (k : Int) := by omega
        have hke : ([V.ref p, V.ref c, V.int (((k + 1 : Nat) : Int) - 1)] : List V) = [V.ref p, V.ref c, V.int (k : Int)] := by rw [hk1]
        have hzT : decide (((k + 1 : Nat) : Int) > 0) = true := decide_eq_true (by omega)
        obtain ⟨ch, hch, hlt⟩ : ∃ ch, atI ("ijk" : Str).cps.toList ((k + 1 : Nat) : Int) = some ch ∧ (⟨#[ch]⟩ : Str) = letter (k + 1) := by
          obtain rfl | rfl : k = 0 ∨ k = 1 := by omega
          · exact ⟨106, by decide +kernel, by decide +kernel⟩
          · exact ⟨107, by decide +kernel, by decide +kernel⟩
        refine ⟨_, rfl, _, _, rfl, rfl, _, rfl, iteT' hzT ?_⟩
        refine ⟨_, rfl, _, _, rfl, rfl, (by show (0 : Int) < _; decide), rfl, _, rfl, ?_⟩
        refine ite2 (fun c1 => ?_) (fun c1 => ?_)
        · refine ⟨_, rfl, .inl ⟨rfl, _, SqL.of hl3⟩, _, rfl, _, _, ch, rfl, rfl, (by decide +kernel), hch, ?_⟩
          refine ⟨_, rfl, _, _, rfl, rfl, ⟨by decide, by decide⟩, _, _, rfl, rfl, (by show (0 : Int) < _; decide), ?_⟩
          refine ⟨_, rfl, _, _, rfl, rfl, ⟨by decide, by decide⟩, _, _, rfl, rfl, (by show (0 : Int) < _; decide), _, rfl, _, _, rfl, rfl, ⟨by decide, by decide⟩, _, _, rfl, rfl, (by show (0 : Int) < _; decide), _, _, rfl, rfl, ?_⟩
          refine ⟨_, rfl, _, rfl, _, rfl, _, _, rfl, rfl, ?_⟩
          refine ⟨p, c, es3, names, hke, hp3, by omega, hc2, ncp, hn, by omega, fun t b9 es4 H3 k3 hp4 el4 sb good => ?_⟩
          have kp3 : Keep H H3 p := fun z o nz e => k3 z o nz (kp2 z o nz e)
          have t3 := tups_keep hp3 k3
          have hl4 := k3 _ _ npl.symm hl3
          refine ⟨(by show 5 ≤ sizeLine; decide), fun u hu => ?_⟩
          have sU := same_upd (o := .tup [.str "loop", .str ⟨#[ch]⟩, .int (dr / 4 % 5), .int (dr / 4 % 5 + dr / 20 % 40), .ref t]) hu
          have f1 : 0 ≤ dr / 4 % 5 ∧ dr / 4 % 5 < 5 := ⟨Int.emod_nonneg _ (by decide), Int.emod_lt_of_pos _ (by decide)⟩
          have f2 : 0 ≤ dr / 20 % 40 ∧ dr / 20 % 40 < 40 := ⟨Int.emod_nonneg _ (by decide), Int.emod_lt_of_pos _ (by decide)⟩
          refine ⟨l, xs0, _, rfl, rfl, sU _ _ hl4, lx, ?_⟩
          exact fin _ u (.loop (letter (k + 1)) (dr / 4 % 5) (dr / 4 % 5 + dr / 20 % 40) b9) es4 _ _ _ (kS kp3 sU) (sU _ _ hp4) (by omega) (rows_tups (sb_tups (k + 1)) (rows_tups (sb_tups (k + 1)) hR2 t3 fun xs e => k3 _ _ npl.symm e) (tups_same sU) fun xs e => sU _ _ e) (sU _ _ hl4) ⟨t, by rw [← hlt]; exact SqT.of upd_same, sb_tups (k + 1) _ _ _ _ sb (tups_same sU)⟩ ⟨rfl, by omega, by omega, by omega, by omega, good⟩
        · refine ⟨_, rfl, _, _, rfl, rfl, _, rfl, iteT' hzT ?_⟩
          refine ⟨_, rfl, _, _, rfl, rfl, (by show (0 : Int) < _; decide), rfl, _, rfl, ?_⟩
          refine ite2 (fun c2 => ?_) (fun c2 => ?_)
          · refine ⟨_, rfl, _, rfl, _, rfl, _, _, rfl, rfl, ?_⟩
            refine ⟨p, c, es3, names, hke, hp3, by omega, hc2, ncp, hn, by omega, fun t1 b1 es4 H3 k3 hp4 el4 sb1 good1 => ?_⟩
            have kp3 : Keep H H3 p := fun z o nz e => k3 z o nz (kp2 z o nz e)
            have t3 := tups_keep hp3 k3
            have hl4 := k3 _ _ npl.symm hl3
            refine ⟨_, rfl, .inl ⟨rfl, _, SqL.of hl4⟩, (by show 2 ≤ sizeLine; decide), fun u1 hu1 => ?_⟩
            have sU := same_upd (o := .tup [.str "name", .str "p"]) hu1
            refine ⟨_, rfl, _, rfl, _, rfl, _, rfl, _, _, rfl, rfl, ?_⟩
            refine ⟨p, c, es4, names, hke, sU _ _ hp4, by omega, hcK _ (kS kp3 sU), ncp, hn, by omega, fun t2 b2 es5 H4 k4 hp5 el5 sb2 good2 => ?_⟩
            have kp4 : Keep H H4 p := fun z o nz e => k4 z o nz (kS kp3 sU z o nz e)
            have t4 := tups_keep (sU _ _ hp4) k4
            have hl5 := k4 _ _ npl.symm (sU _ _ hl4)
            refine ⟨(by show 4 ≤ sizeLine; decide), fun u2 hu2 => ?_⟩
            have sV := same_upd (o := .tup [.str "if", .ref u1, .ref t1, .ref t2]) hu2
            refine ⟨l, xs0, _, rfl, rfl, sV _ _ hl5, lx, ?_⟩
            exact fin _ u2 (.ifs (.nm "p") b1 b2) es5 _ _ _ (kS kp4 sV) (sV _ _ hp5) (by omega) (rows_tups (sb_tups (k + 1)) (rows_tups (sb_tups (k + 1)) (rows_tups (sb_tups (k + 1)) (rows_tups (sb_tups (k + 1)) hR2 t3 fun xs e => k3 _ _ npl.symm e) (tups_same sU) fun xs e => sU _ _ e) t4 fun xs e => k4 _ _ npl.symm e) (tups_same sV) fun xs e => sV _ _ e) (sV _ _ hl5)
              ⟨u1, t1, t2, SqT.of upd_same, (t4.trans (tups_same sV)).seq (SqT.of upd_same), sb_tups (k + 1) _ _ _ _ sb1 ((tups_same sU).trans (t4.trans (tups_same sV))), sb_tups (k + 1) _ _ _ _ sb2 (tups_same sV)⟩ ⟨rfl, good1, good2⟩
          · refine ⟨_, rfl, c, _, rfl, .inl hc2, _, _, rfl, rfl, _, rfl, ?_⟩
            refine ite2 (fun e0 => ?_) (fun e0 => ?_)
            · have len0 : (0 : Int) < ((names.map V.str).length : Int) := of_decide_eq_true e0
              refine ⟨_, rfl, _, _, rfl, rfl, (by show (0 : Int) < _; decide), rfl, _, rfl, ?_⟩
              refine ite2 (fun e3 => ?_) (fun e3 => ?_)
              · refine ⟨_, rfl, .inl ⟨rfl, _, SqL.of hl3⟩, (by show 1 ≤ sizeLine; decide), fun u1 hu1 => ?_⟩
                have s1' := same_upd (o := .tup [.str "r"]) hu1
                refine ⟨_, rfl, _, rfl, _, _, rfl, rfl, ⟨by decide, by decide⟩, _, rfl, c, _, rfl, .inl (hcK _ (kS kp2 s1')), _, _, rfl, rfl, len0, ?_⟩
                obtain ⟨j, hj, ej⟩ : ∃ j : Nat, j < names.length ∧ dr / 4 % ((names.map V.str).length : Int) = (j : Int) := by
                  have m1 := Int.emod_nonneg (dr / 4) (Int.ne_of_gt len0)
                  have m2 := Int.emod_lt_of_pos (dr / 4) len0
                  have lm : (names.map V.str).length = names.length := List.length_map _
                  exact ⟨(dr / 4 % ((names.map V.str).length : Int)).toNat, by omega, by omega⟩
                have hat : atI (names.map V.str) (dr / 4 % ((names.map V.str).length : Int)) = some (.str names[j]) := by
                  rw [ej]
                  exact atI_nat (by rw [List.getElem?_map, List.getElem?_eq_getElem hj]; rfl)
                refine ⟨c, _, _, _, rfl, rfl, hcK _ (kS kp2 s1'), hat, ?_⟩
                refine ⟨(by show 2 ≤ sizeLine; decide), fun u2 hu2 => ⟨(by show 2 ≤ sizeLine; decide), fun u3 hu3 => ⟨(by show 2 ≤ sizeLine; decide), fun u4 hu4 => ⟨(by show 4 ≤ sizeLine; decide), fun u5 hu5 => ?_⟩⟩⟩⟩
                have q2 := same_upd (o := .tup [.str "name", .str "s"]) hu2
                have q3 := same_upd (o := .tup [.str "name", .str "p"]) hu3
                have q4 := same_upd (o := .tup [.ref u2, .ref u3]) hu4
                have q5 := same_upd (o := .tup [.str "call", .ref u1, .str names[j], .ref u4]) hu5
                have s5' := s1'.trans (q2.trans (q3.trans (q4.trans q5)))
                refine ⟨l, xs0, _, rfl, rfl, s5' _ _ hl3, lx, ?_⟩
                refine fin _ u5 (.call ["r"] names[j] [.nm "s", .nm "p"]) es3 _ _ _ (kS kp2 s5') (s5' _ _ hp3) (by omega) (rows_tups (sb_tups (k + 1)) hR2 (tups_same s5') fun xs e => s5' _ _ e) (s5' _ _ hl3) ⟨u1, u4, SqT.of upd_same, (tups_same (q2.trans (q3.trans (q4.trans q5)))).seq (SqT.of upd_same), ⟨[.ref u2, .ref u3], (tups_same q5).seq (SqT.of upd_same), rfl, fun i e h => ?_⟩⟩ ⟨rfl, List.getElem_mem hj, rfl⟩
                match i, h with
                | 0, h => cases h; exact ⟨u2, rfl, (tups_same (q3.trans (q4.trans q5))).seq (SqT.of upd_same)⟩
                | 1, h => cases h; exact ⟨u3, rfl, (tups_same (q4.trans q5)).seq (SqT.of upd_same)⟩
              · refine ⟨_, rfl, .inl ⟨rfl, _, SqL.of hl3⟩, (by show 2 ≤ sizeLine; decide), fun u1 hu1 => ⟨(by show 3 ≤ sizeLine; decide), fun u2 hu2 => ?_⟩⟩
                have s1' := same_upd (o := .tup [.str "name", .str "s"]) hu1
                have s2' := s1'.trans (same_upd (o := .tup [.str "set", .str "r", .ref u1]) hu2)
                refine ⟨l, xs0, _, rfl, rfl, s2' _ _ hl3, lx, ?_⟩
                exact fin _ u2 (.set "r" (.nm "s")) es3 _ _ _ (kS kp2 s2') (s2' _ _ hp3) (by omega) (rows_tups (sb_tups (k + 1)) hR2 (tups_same s2') fun xs e => s2' _ _ e) (s2' _ _ hl3) ⟨u1, SqT.of upd_same, (tups_same (same_upd hu2)).seq (SqT.of upd_same)⟩ ⟨rfl, rfl⟩
            · refine iteF' rfl ?_
              refine ⟨_, rfl, .inl ⟨rfl, _, SqL.of hl3⟩, (by show 2 ≤ sizeLine; decide), fun u1 hu1 => ⟨(by show 3 ≤ sizeLine; decide), fun u2 hu2 => ?_⟩⟩
              have s1' := same_upd (o := .tup [.str "name", .str "s"]) hu1
              have s2' := s1'.trans (same_upd (o := .tup [.str "set", .str "r", .ref u1]) hu2)
              refine ⟨l, xs0, _, rfl, rfl, s2' _ _ hl3, lx, ?_⟩
              exact fin _ u2 (.set "r" (.nm "s")) es3 _ _ _ (kS kp2 s2') (s2' _ _ hp3) (by omega) (rows_tups (sb_tups (k + 1)) hR2 (tups_same s2') fun xs e => s2' _ _ e) (s2' _ _ hl3) ⟨u1, SqT.of upd_same, (tups_same (same_upd hu2)).seq (SqT.of upd_same)⟩ ⟨rfl, rfl⟩
    · rintro σ H' ⟨v4, v5, v6, es2, b, rfl, kp, hp2, el2, ⟨xs, x1, x2, x3⟩, hbi, hG⟩
      refine ⟨_, rfl, l, xs, rfl, .inl ⟨SqL.of x1, fun t ht => ?_⟩⟩
      have tt := tups_same (same_upd (o := .tup xs) ht)
      refine q t b es2 _ (fun z o nz e => by rw [upd_ne (ne_of_none (kp z o nz e) ht)]; exact kp z o nz e) (by rw [upd_ne (ne_of_none hp2 ht)]; exact hp2) el2 ⟨xs, SqT.of upd_same, x2, fun i s e => ?_⟩ ⟨by omega, hG⟩
      obtain ⟨a, e1, e2⟩ := x3 i s e
      exact ⟨a, e1, stm_tups (sb_tups depth) e2 tt⟩
end
end K17

set_option Elab.async false
set_option linter.all false
set_option maxRecDepth 100000
set_option maxHeartbeats 4000000
namespace K17
open PySem PySem.Spec PyProof.Rows L2 QX
/-! ### what the checker says to the law's own bodies -/
def vS : Vr := ⟨"secret", 99, 0⟩
def vP : Vr := ⟨"public", 9, 0⟩
structure Base (env : EN) (tns : List Str) (d : Nat) : Prop where
  s : env.lookup ("s" : Str) = some vS
  p : env.lookup ("p" : Str) = some vP
  r : env.lookup ("r" : Str) = some vS
  rt : ("r" : Str) ∉ tns
  js : ∀ j, 1 ≤ j → j < d → env.lookup (letter j) = none
  d3 : d ≤ 3
def NamesAt (fns : FN) (names : List Str) : Prop := ∀ n ∈ names, fns.lookup n = some ([(("s" : Str), vS), (("p" : Str), vP)], [(("r" : Str), vS)])
theorem b_s {env : EN} {tns : List Str} {d : Nat} (b : Base env tns d) : exprM env (.nm "s") = .ok ("secret", 99) := by
  rw [exprM_nm]
  unfold sizedM
  rw [b.s]
  rfl
theorem b_p {env : EN} {tns : List Str} {d : Nat} (b : Base env tns d) : exprM env (.nm "p") = .ok ("public", 9) := by
  rw [exprM_nm]
  unfold sizedM
  rw [b.p]
  rfl
theorem b_r {env : EN} {tns : List Str} {d : Nat} (b : Base env tns d) : changedM env tns "r" 0 = .ok vS := by
  unfold changedM sizedM
  rw [b.r]
  show (if ("r" : Str) ∈ tns then _ else _) = _
  rw [if_neg b.rt]
theorem fit1 : fitM "secret" 99 "secret" 99 = .ok () := by
  unfold fitM rangeM
  rw [if_neg (by decide +kernel), if_neg (by decide)]
theorem fit2 : fitM "public" 9 "public" 9 = .ok () := by
  unfold fitM rangeM
  rw [if_neg (by decide +kernel), if_neg (by decide)]
theorem args_step {env : EN} {e : Ex} {es : List Ex} {v : Str × Vr} {vs : EN} {k : Except Str Unit} {r : Str × Int} (h1 : argM env v.2.size e = .ok r) (h2 : fitM r.1 r.2 v.2.fl v.2.most = .ok ()) : argsM env (e :: es) (v :: vs) k = argsM env es vs k := by
  rw [argsM, h1]
  dsimp only
  rw [h2]
theorem res_step {env : EN} {tns : List Str} {t : Str} {ts : List Str} {v : Str × Vr} {vs : EN} {u : Vr} (h1 : changedM env tns t v.2.size = .ok u) (h2 : fitM v.2.fl v.2.most u.fl u.most = .ok ()) : resM env tns (t :: ts) (v :: vs) = resM env tns ts vs := by
  rw [resM, h1]
  dsimp only
  rw [h2]
theorem arg0 (env : EN) (e : Ex) : argM env 0 e = exprM env e := by
  unfold argM
  rw [if_pos rfl]
theorem b_call {env : EN} {tns : List Str} {d : Nat} (b : Base env tns d) {fns : FN} {names : List Str} (hn : NamesAt fns names) {n : Str} (h : n ∈ names) : callM env tns fns ["r"] n [.nm "s", .nm "p"] = .ok () := by
  unfold callM
  rw [hn n h]
  show (if (2 ≠ 2 ∨ 1 ≠ 1) then _ else argsM env [.nm "s", .nm "p"] [(("s" : Str), vS), (("p" : Str), vP)] (resM env tns [("r" : Str)] [(("r" : Str), vS)])) = _
  rw [if_neg (by decide)]
  rw [args_step (r := ("secret", 99)) (v := (("s" : Str), vS)) ((arg0 env _).trans (b_s b)) fit1, args_step (r := ("public", 9)) (v := (("p" : Str), vP)) ((arg0 env _).trans (b_p b)) fit2, argsM_nil, res_step (u := vS) (v := (("r" : Str), vS)) (b_r b) fit1, resM_nil]
theorem letter_ne {j d : Nat} (h1 : 1 ≤ j) (h : j < d) (h3 : d ≤ 2) : letter j ≠ letter d := by
  obtain ⟨rfl, rfl⟩ : j = 1 ∧ d = 2 := by omega
  decide +kernel
theorem letter_cases (d : Nat) : letter d = "j" ∨ letter d = "k" := by
  unfold letter
  split
  · exact .inl rfl
  · exact .inr rfl
theorem Base.loop {env : EN} {tns : List Str} {d : Nat} (b : Base env tns (d + 1)) (v : Vr) : Base ((letter d, v) :: env) (letter d :: tns) d := by
  have n1 : ∀ x : Str, x = "s" ∨ x = "p" ∨ x = "r" → x ≠ letter d := by
    intro x hx e
    rcases letter_cases d with h | h <;> rw [h] at e <;> rcases hx with rfl | rfl | rfl <;> exact absurd e (by decide +kernel)
  have lk : ∀ x : Str, x ≠ letter d → List.lookup x ((letter d, v) :: env) = env.lookup x := fun x h => by
    have q : (x == letter d) = false := by simpa using h
    rw [List.lookup_cons, q]
  have d3 := b.d3
  refine ⟨?_, ?_, ?_, ?_, fun j h1 h2 => ?_, by omega⟩
  · rw [lk _ (n1 _ (.inl rfl))]
    exact b.s
  · rw [lk _ (n1 _ (.inr (.inl rfl)))]
    exact b.p
  · rw [lk _ (n1 _ (.inr (.inr rfl)))]
    exact b.r
  · intro z
    rcases List.mem_cons.mp z with q | q
    · exact n1 "r" (.inr (.inr rfl)) q
    · exact b.rt q
  · rw [lk _ (letter_ne h1 h2 (by omega))]
    exact b.js j h1 (by omega)
theorem Base.less {env : EN} {tns : List Str} {d : Nat} (b : Base env tns (d + 1)) : Base env tns d := ⟨b.s, b.p, b.r, b.rt, fun j h1 h2 => b.js j h1 (by omega), by have := b.d3; omega⟩
theorem body_ok {α : Type} {subM : EN → List Str → FN → α → Except Str Unit} {env : EN} {tns : List Str} {fns : FN} : ∀ l : List (Stm α), (∀ s ∈ l, stmM subM env tns fns s = .ok ()) → bodyM subM env tns fns l = .ok ()
  | [], _ => rfl
  | s :: r, h => by
    rw [bodyM, h s List.mem_cons_self]
    exact body_ok r fun t ht => h t (List.mem_cons_of_mem _ ht)
theorem good_ok {fns : FN} {names : List Str} (hn : NamesAt fns names) : ∀ d (b : Sb d) env tns, Good names d b → Base env tns d → SbM d env tns fns b = .ok ()
  | 0, b, _, _, _, _ => b.elim
  | d + 1, l, env, tns, ⟨_, hg⟩, hb => by
    have ih := fun b env tns => good_ok hn d b env tns
    have stm : ∀ s : Stm (Sb d), GoodStm names d (Good names d) s → stmM (SbM d) env tns fns s = .ok () := by
      intro s gs
      cases s with
      | set n e =>
        obtain ⟨rfl, rfl⟩ := gs
        unfold stmM
        dsimp only
        rw [b_s hb]
        dsimp only
        rw [b_r hb]
        exact fit1
      | ifs c x y =>
        obtain ⟨rfl, g1, g2⟩ := gs
        unfold stmM
        dsimp only
        rw [b_p hb]
        dsimp only
        rw [if_neg (by decide +kernel), ih x env tns g1 hb.less]
        exact ih y env tns g2 hb.less
      | loop n f l b =>
        obtain ⟨rfl, _, _, _, _, g1⟩ := gs
        unfold stmM loopM
        dsimp only
        have z : env.lookup (letter d) = none := by
          cases d with
          | zero => exact b.elim
          | succ k => exact hb.js (k + 1) (by omega) (by omega)
        rw [z]
        exact ih b _ _ g1 (hb.loop _)
      | call ts name args =>
        obtain ⟨rfl, g1, rfl⟩ := gs
        exact b_call hb hn g1
    exact body_ok (α := Sb d) l fun s hs => stm s (hg s hs)
theorem good_sbok {fns : FN} {names : List Str} : ∀ d (b : Sb d), Good names d b → SbOk d fns b
  | 0, b, _ => b.elim
  | d + 1, l, ⟨_, hg⟩ => fun s hs => by
    have g := hg s hs
    cases s with
    | set n e =>
      obtain ⟨_, rfl⟩ := g
      intro z
      cases z
    | ifs c x y =>
      obtain ⟨rfl, g1, g2⟩ := g
      refine ⟨?_, good_sbok d x g1, good_sbok d y g2⟩
      intro z
      cases z
    | loop n f l b => exact good_sbok d b g.2.2.2.2.2
    | call ts name args =>
      obtain ⟨_, _, rfl⟩ := g
      intro f _ i e v h1 _ _ z
      subst z
      match i, h1 with
      | 0, h1 => cases h1
      | 1, h1 => cases h1
theorem good_wok {wk : WN} {names : List Str} (hw : ∀ n ∈ names, wk.lookup n ≠ none) : ∀ d (b : Sb d), Good names d b → SbWok d wk b
  | 0, b, _ => b.elim
  | d + 1, l, ⟨h2, hg⟩ => by
    refine ⟨Nat.le_trans h2 (by decide), fun s hs => ?_⟩
    have g := hg s hs
    cases s with
    | set n e => exact trivial
    | ifs c x y => exact ⟨good_wok hw d x g.2.1, good_wok hw d y g.2.2⟩
    | loop n f l b =>
      obtain ⟨_, g0, g1, g2, g3, g4⟩ := g
      exact ⟨⟨by omega, by omega⟩, good_wok hw d b g4⟩
    | call ts name args => exact hw name g.2.1
section
variable {P : Program} {w : World} {K : PySem.W.Frag} {mg : Str → Option Value} {base : Heap}
theorem ok_lb (T : Tx P K mg) : ∀ depth, FnOk P w K mg base CX0 (depth + 2) T.a_law_body T.d_law_body ["draws", "calls", "depth"] (spLB K depth)
  | 0 => ok_law_body1 T 0 ⟨fun _ _ _ _ h => h.elim, fun _ _ _ _ _ _ _ _ _ _ _ _ _ h => h.elim⟩
  | k + 1 => ok_law_body1 T (k + 1) (ok_lb T k)
end
end K17

set_option Elab.async false
set_option linter.all false
set_option maxRecDepth 100000
set_option maxHeartbeats 4000000
namespace K17
open PySem PySem.Spec PyProof.Rows L2 QX
/-! ### the second program: sixteen calls -/
def xS : Ex := .nm "s"
def xP : Ex := .nm "p"
/-- targets, name, arguments; the reason, if there is one -/
def bad : List (List Str × Str × List Ex × Option Str) :=
  [(["r"], "f", [xS], some "type"), (["r"], "f", [xS, xP, xP], some "type"), (["r", "s"], "f", [xS, xP], some "type"), (["r"], "f", [xS, xS], some "flow"), (["p"], "f", [xS, xP], some "flow"), (["z"], "f", [xS, xP], some "name"),
   (["row"], "f", [xS, xP], some "type"), (["r"], "f", [.nm "row", xP], some "type"), (["r"], "h", [xS, xP], some "name"), (["small"], "f", [xS, xP], some "range"), (["r"], "f", [xS, .num 10], some "range"), (["r"], "g", [xS, xP], some "type"),
   (["r"], "g", [.nm "row", xP], none), (["r"], "g", [.nm "long", xP], some "type"), (["r"], "g", [.item, xP], some "type"), (["r"], "f", [xS, .nm "z"], some "name")]
def sp2 : EN := [("s", vS), ("p", vP)]
def rr : EN := [("r", vS)]
def prog2 (c : List Str × Str × List Ex × Option Str) : List (Fn 3) :=
  [⟨"f", sp2, rr, [], ([Stm.set "r" xS] : List (Stm (Sb 2)))⟩, ⟨"g", [("s", ⟨"secret", 99, 3⟩), ("p", vP)], rr, [], ([] : List (Stm (Sb 2)))⟩,
   ⟨"m", sp2, rr, [("row", ⟨"secret", 99, 3⟩), ("long", ⟨"secret", 99, 4⟩), ("small", ⟨"secret", 98, 0⟩)], ([Stm.call c.1 c.2.1 c.2.2.1, Stm.set "nobody" (.num 1)] : List (Stm (Sb 2)))⟩]
def code : Except Str Unit → Option Str
  | .ok _ => none
  | .error r => some r
theorem code_eq {x : Except Str Unit} {r : Str} (h : code x = some r) : x = .error r := by
  cases x with
  | ok _ => cases h
  | error q => exact congrArg _ (Option.some.inj h)
theorem bad_code : ∀ c ∈ bad, code (checkM [] [] (prog2 c)) = some (c.2.2.2.getD "name") := by decide +kernel
/-- what the checker says of each -/
theorem bad_says {c : List Str × Str × List Ex × Option Str} (h : c ∈ bad) : checkM [] [] (prog2 c) = .error (c.2.2.2.getD "name") := code_eq (bad_code c h)
def isItem : Ex → Bool
  | .item => true
  | _ => false
def fns2 : FN := [("g", ([("s", ⟨"secret", 99, 3⟩), ("p", vP)], rr)), ("f", (sp2, rr))]
def callB (c : List Str × Str × List Ex × Option Str) : Bool := match fns2.lookup c.2.1 with
  | none => true
  | some f => (List.range c.2.2.1.length).all fun i => match c.2.2.1[i]?, f.1[i]? with
    | some e, some v => !(decide (v.2.size = 0) && isItem e)
    | _, _ => true
theorem bad_call : ∀ c ∈ bad, callB c = true := by decide +kernel
theorem bad_stm {c : List Str × Str × List Ex × Option Str} (h : c ∈ bad) : stmOk (SbOk 2) fns2 (.call c.1 c.2.1 c.2.2.1 : Stm (Sb 2)) := by
  intro f hf i e v h1 h2 h3 h4
  have z := bad_call c h
  unfold callB at z
  rw [hf] at z
  have hi : i < c.2.2.1.length := (List.getElem?_eq_some_iff.mp h1).1
  have q := List.all_eq_true.mp z i (List.mem_range.mpr hi)
  rw [h1, h2] at q
  subst h4
  simp [h3, isItem] at q
def mBody (c : List Str × Str × List Ex × Option Str) : Sb 3 := ([Stm.call c.1 c.2.1 c.2.2.1, Stm.set "nobody" (.num 1)] : List (Stm (Sb 2)))
def mOs : EN := [("row", ⟨"secret", 99, 3⟩), ("long", ⟨"secret", 99, 4⟩), ("small", ⟨"secret", 98, 0⟩)]
def mVars : EN := sp2 ++ rr ++ mOs
theorem bad_m : ∀ c ∈ bad, code (SbM 3 mVars [] fns2 (mBody c)) ≠ none := by decide +kernel
theorem m_nodup : (mVars.map (·.1)).Nodup := by decide +kernel
theorem bad_ok {c : List Str × Str × List Ex × Option Str} (h : c ∈ bad) : checkOk [] [] (prog2 c) := by
  refine ⟨by decide +kernel, by decide, ?_, fun _ => ⟨⟨by decide, ?_⟩, by decide +kernel, by decide, ?_, fun _ => ⟨⟨by decide, ?_⟩, m_nodup, Nat.le_of_ble_eq_true rfl, ?_, fun z => ?_⟩⟩⟩
  · intro s hs
    rw [List.mem_singleton.mp hs]
    intro z
    cases z
  · intro s hs
    rw [List.mem_singleton.mp hs]
    exact trivial
  · intro s hs
    cases hs
  · intro s hs
    cases hs
  · intro s hs
    rcases List.mem_cons.mp hs with rfl | hs
    · exact bad_stm h
    · rw [List.mem_singleton.mp hs]
      intro z
      cases z
  · have z2 : SbM 3 mVars [] fns2 (mBody c) = .ok () := z
    have q := bad_m c h
    rw [z2] at q
    exact absurd rfl q
/-! ### the first program: function by function -/
def names3 : List Str := ["f", "g", "h"]
theorem step_says {d : Nat} {fns : FN} {wk : WN} {f : Fn d} {rest : List (Fn d)} (h : SbM d (f.ps ++ f.rs ++ f.os) [] fns f.body = .ok ()) :
    checkM fns wk (f :: rest) = if SbW d wk f.body > 20000 then .error "work" else checkM ((f.name, (f.ps, f.rs)) :: fns) ((f.name, SbW d wk f.body) :: wk) rest := by
  rw [checkM, h]
theorem base0 : Base (sp2 ++ rr ++ []) [] 3 := ⟨by kernel_rfl, by kernel_rfl, by kernel_rfl, List.not_mem_nil, fun j h1 h2 => (by
  rcases letter_cases j with h | h <;> rw [h] <;> kernel_rfl), by decide⟩
/-- what the loop over k keeps: the functions L so far, what is known of them, whether one is too great -/
structure Kept (L : List (Fn 3)) (fns : FN) (wk : WN) (names : List Str) (due : Bool) : Prop where
  says : ∀ rest, checkM [] [] (L ++ rest) = if due = true then .error "work" else checkM fns wk rest
  ok : ∀ rest, checkOk fns wk rest → checkOk [] [] (L ++ rest)
  na : NamesAt fns names
  wk : ∀ n ∈ names, wk.lookup n ≠ none
theorem kept0 : Kept [] [] [] [] false := ⟨fun _ => rfl, fun _ h => h, (fun n h => nomatch h), (fun n h => nomatch h)⟩
theorem f_nodup : ((sp2 ++ rr ++ ([] : EN)).map (·.1)).Nodup := by decide +kernel
theorem Kept.step {L : List (Fn 3)} {fns : FN} {wk : WN} {names : List Str} {due : Bool} (k : Kept L fns wk names due) {n : Str} {b : Sb 3} (hn : n ∉ names) (g : Good names 3 b) :
    Kept (L ++ [⟨n, sp2, rr, [], b⟩]) ((n, (sp2, rr)) :: fns) ((n, SbW 3 wk b) :: wk) (names ++ [n]) (due || decide (SbW 3 wk b > 20000)) := by
  have hok : SbM 3 (sp2 ++ rr ++ []) [] fns b = .ok () := good_ok k.na 3 b _ _ g base0
  refine ⟨fun rest => ?_, fun rest h => ?_, fun m hm => ?_, fun m hm => ?_⟩
  · rw [List.append_assoc, k.says]
    cases due with
    | true => rfl
    | false =>
      rw [if_neg (by decide)]
      show checkM fns wk (⟨n, sp2, rr, [], b⟩ :: rest) = _
      rw [step_says hok]
      by_cases c : SbW 3 wk b > 20000
      · rw [if_pos c, decide_eq_true c]
        rfl
      · rw [if_neg c, decide_eq_false c]
        rfl
  · rw [List.append_assoc]
    refine k.ok _ ?_
    exact ⟨f_nodup, Nat.le_of_ble_eq_true rfl, good_sbok 3 b g, fun _ => ⟨good_wok k.wk 3 b g, h⟩⟩
  · rcases List.mem_append.mp hm with q | q
    · have z : m ≠ n := fun e => hn (e ▸ q)
      have z2 : (m == n) = false := by simpa using z
      rw [List.lookup_cons, z2]
      exact k.na m q
    · rw [List.mem_singleton.mp q, List.lookup_cons_self]
      rfl
  · rcases List.mem_append.mp hm with q | q
    · have z : m ≠ n := fun e => hn (e ▸ q)
      have z2 : (m == n) = false := by simpa using z
      rw [List.lookup_cons, z2]
      exact k.wk m q
    · rw [List.mem_singleton.mp q, List.lookup_cons_self]
      intro z
      cases z
end K17

set_option Elab.async false
set_option linter.all false
set_option maxRecDepth 100000
set_option maxHeartbeats 4000000
namespace K17
open PySem PySem.Spec PyProof.Rows L2 QX
def rv (c : List Str × Str × List Ex × Option Str) : V := match c.2.2.2 with
  | none => .non
  | some r => .str r
def Pair (K : PySem.W.Frag) (H : Hp) (xs : List V) (i : Nat) (c : List Str × Str × List Ex × Option Str) : Prop := ∃ a cc : Addr, xs[i]? = some (V.ref a) ∧ SqT K H a [.ref cc, rv c] ∧ stmAt K (SbAt K 2) H cc (.call c.1 c.2.1 c.2.2.1)
def spBad (K : PySem.W.Frag) : Sp := fun vs H Q _ => vs = [] ∧ ∀ l xs H', Same H H' → H' l = some (.lst xs) → (∀ (i : Nat) c, bad[i]? = some c → Pair K H' xs i c) → Q (.ref l) H'
section
variable {P : Program} {w : World} {K : PySem.W.Frag} {mg : Str → Option Value} {base : Heap}
theorem ok_bad_calls (T : Tx P K mg) : FnOk P w K mg base CX0 1 T.a_law_bad_calls T.d_law_bad_calls [] (spBad K) := by
  refine T.F_law_bad_calls.ok sc_law_bad_calls (fun vs H Q E h => ?_) (fun cdv A outer s H vs Q E hr h => ?_)
  · obtain ⟨rfl, _⟩ := h
    rfl
  · obtain ⟨rfl, q⟩ := h
    refine ⟨_, (pss_cons (ps_set (i := 0) sc_law_bad_calls.nd rfl (.inl rfl) (pe_tup (pa_cons pe_str (pa_cons pe_str pa_nil))))
        (pss_cons (ps_set (i := 1) sc_law_bad_calls.nd rfl (.inl rfl) (pe_tup (pa_cons pe_str (pa_cons pe_str pa_nil))))
        (pss_one (ps_ret (pe_lst (pa_cons (pe_tup (pa_cons (pe_tup (pa_cons pe_str (pa_cons (pe_tup (pa_cons pe_str pa_nil)) (pa_cons pe_str (pa_cons (pe_tup (pa_cons (pv 0) pa_nil)) pa_nil))))) (pa_cons pe_str pa_nil))) (pa_cons (pe_tup (pa_cons (pe_tup (pa_cons pe_str (pa_cons (pe_tup (pa_cons pe_str pa_nil)) (pa_cons pe_str (pa_cons (pe_tup (pa_cons (pv 0) (pa_cons (pv 1) (pa_cons (pv 1) pa_nil)))) pa_nil))))) (pa_cons pe_str pa_nil))) (pa_cons (pe_tup (pa_cons (pe_tup (pa_cons pe_str (pa_cons (pe_tup (pa_cons pe_str (pa_cons pe_str pa_nil))) (pa_cons pe_str (pa_cons (pe_tup (pa_cons (pv 0) (pa_cons (pv 1) pa_nil))) pa_nil))))) (pa_cons pe_str pa_nil))) (pa_cons (pe_tup (pa_cons (pe_tup (pa_cons pe_str (pa_cons (pe_tup (pa_cons pe_str pa_nil)) (pa_cons pe_str (pa_cons (pe_tup (pa_cons (pv 0) (pa_cons (pv 0) pa_nil))) pa_nil))))) (pa_cons pe_str pa_nil))) (pa_cons (pe_tup (pa_cons (pe_tup (pa_cons pe_str (pa_cons (pe_tup (pa_cons pe_str pa_nil)) (pa_cons pe_str (pa_cons (pe_tup (pa_cons (pv 0) (pa_cons (pv 1) pa_nil))) pa_nil))))) (pa_cons pe_str pa_nil))) (pa_cons (pe_tup (pa_cons (pe_tup (pa_cons pe_str (pa_cons (pe_tup (pa_cons pe_str pa_nil)) (pa_cons pe_str (pa_cons (pe_tup (pa_cons (pv 0) (pa_cons (pv 1) pa_nil))) pa_nil))))) (pa_cons pe_str pa_nil))) (pa_cons (pe_tup (pa_cons (pe_tup (pa_cons pe_str (pa_cons (pe_tup (pa_cons pe_str pa_nil)) (pa_cons pe_str (pa_cons (pe_tup (pa_cons (pv 0) (pa_cons (pv 1) pa_nil))) pa_nil))))) (pa_cons pe_str pa_nil))) (pa_cons (pe_tup (pa_cons (pe_tup (pa_cons pe_str (pa_cons (pe_tup (pa_cons pe_str pa_nil)) (pa_cons pe_str (pa_cons (pe_tup (pa_cons (pe_tup (pa_cons pe_str (pa_cons pe_str pa_nil))) (pa_cons (pv 1) pa_nil))) pa_nil))))) (pa_cons pe_str pa_nil))) (pa_cons (pe_tup (pa_cons (pe_tup (pa_cons pe_str (pa_cons (pe_tup (pa_cons pe_str pa_nil)) (pa_cons pe_str (pa_cons (pe_tup (pa_cons (pv 0) (pa_cons (pv 1) pa_nil))) pa_nil))))) (pa_cons pe_str pa_nil))) (pa_cons (pe_tup (pa_cons (pe_tup (pa_cons pe_str (pa_cons (pe_tup (pa_cons pe_str pa_nil)) (pa_cons pe_str (pa_cons (pe_tup (pa_cons (pv 0) (pa_cons (pv 1) pa_nil))) pa_nil))))) (pa_cons pe_str pa_nil))) (pa_cons (pe_tup (pa_cons (pe_tup (pa_cons pe_str (pa_cons (pe_tup (pa_cons pe_str pa_nil)) (pa_cons pe_str (pa_cons (pe_tup (pa_cons (pv 0) (pa_cons (pe_tup (pa_cons pe_str (pa_cons pe_int pa_nil))) pa_nil))) pa_nil))))) (pa_cons pe_str pa_nil))) (pa_cons (pe_tup (pa_cons (pe_tup (pa_cons pe_str (pa_cons (pe_tup (pa_cons pe_str pa_nil)) (pa_cons pe_str (pa_cons (pe_tup (pa_cons (pv 0) (pa_cons (pv 1) pa_nil))) pa_nil))))) (pa_cons pe_str pa_nil))) (pa_cons (pe_tup (pa_cons (pe_tup (pa_cons pe_str (pa_cons (pe_tup (pa_cons pe_str pa_nil)) (pa_cons pe_str (pa_cons (pe_tup (pa_cons (pe_tup (pa_cons pe_str (pa_cons pe_str pa_nil))) (pa_cons (pv 1) pa_nil))) pa_nil))))) (pa_cons pe_non pa_nil))) (pa_cons (pe_tup (pa_cons (pe_tup (pa_cons pe_str (pa_cons (pe_tup (pa_cons pe_str pa_nil)) (pa_cons pe_str (pa_cons (pe_tup (pa_cons (pe_tup (pa_cons pe_str (pa_cons pe_str pa_nil))) (pa_cons (pv 1) pa_nil))) pa_nil))))) (pa_cons pe_str pa_nil))) (pa_cons (pe_tup (pa_cons (pe_tup (pa_cons pe_str (pa_cons (pe_tup (pa_cons pe_str pa_nil)) (pa_cons pe_str (pa_cons (pe_tup (pa_cons (pe_tup (pa_cons pe_str (pa_cons pe_str (pa_cons (pv 1) pa_nil)))) (pa_cons (pv 1) pa_nil))) pa_nil))))) (pa_cons pe_str pa_nil))) (pa_cons (pe_tup (pa_cons (pe_tup (pa_cons pe_str (pa_cons (pe_tup (pa_cons pe_str pa_nil)) (pa_cons pe_str (pa_cons (pe_tup (pa_cons (pv 0) (pa_cons (pe_tup (pa_cons pe_str (pa_cons pe_str pa_nil))) pa_nil))) pa_nil))))) (pa_cons pe_str pa_nil))) pa_nil))))))))))))))))))))), ?_⟩
    refine ⟨(by show 2 ≤ sizeLine; decide), fun u1 hu1 => ?_⟩
    obtain ⟨G1, e1⟩ : ∃ G, G = upd H u1 (.tup [.str "name", .str "s"]) := ⟨_, rfl⟩
    rw [← e1]
    have s1 : Same H G1 := by rw [e1]; exact same_upd hu1
    have t1 : SqT K G1 u1 [.str "name", .str "s"] := by rw [e1]; exact SqT.of upd_same
    clear e1
    refine ⟨(by show 2 ≤ sizeLine; decide), fun u2 hu2 => ?_⟩
    obtain ⟨G2, e2⟩ : ∃ G, G = upd G1 u2 (.tup [.str "name", .str "p"]) := ⟨_, rfl⟩
    rw [← e2]
    have s2 : Same G1 G2 := by rw [e2]; exact same_upd hu2
    have t2 : SqT K G2 u2 [.str "name", .str "p"] := by rw [e2]; exact SqT.of upd_same
    clear e2
    refine ⟨(by show 1 ≤ sizeLine; decide), fun u3 hu3 => ?_⟩
    obtain ⟨G3, e3⟩ : ∃ G, G = upd G2 u3 (.tup [.str "r"]) := ⟨_, rfl⟩
    rw [← e3]
    have s3 : Same G2 G3 := by rw [e3]; exact same_upd hu3
    have t3 : SqT K G3 u3 [.str "r"] := by rw [e3]; exact SqT.of upd_same
    clear e3
    refine ⟨_, rfl, (by show 1 ≤ sizeLine; decide), fun u4 hu4 => ?_⟩
    obtain ⟨G4, e4⟩ : ∃ G, G = upd G3 u4 (.tup [.ref u1]) := ⟨_, rfl⟩
    rw [← e4]
    have s4 : Same G3 G4 := by rw [e4]; exact same_upd hu4
    have t4 : SqT K G4 u4 [.ref u1] := by rw [e4]; exact SqT.of upd_same
    clear e4
    refine ⟨(by show 4 ≤ sizeLine; decide), fun u5 hu5 => ?_⟩
    obtain ⟨G5, e5⟩ : ∃ G, G = upd G4 u5 (.tup [.str "call", .ref u3, .str "f", .ref u4]) := ⟨_, rfl⟩
    rw [← e5]
    have s5 : Same G4 G5 := by rw [e5]; exact same_upd hu5
    have t5 : SqT K G5 u5 [.str "call", .ref u3, .str "f", .ref u4] := by rw [e5]; exact SqT.of upd_same
    clear e5
    refine ⟨(by show 2 ≤ sizeLine; decide), fun u6 hu6 => ?_⟩
    obtain ⟨G6, e6⟩ : ∃ G, G = upd G5 u6 (.tup [.ref u5, .str "type"]) := ⟨_, rfl⟩
    rw [← e6]
    have s6 : Same G5 G6 := by rw [e6]; exact same_upd hu6
    have t6 : SqT K G6 u6 [.ref u5, .str "type"] := by rw [e6]; exact SqT.of upd_same
    clear e6
    refine ⟨(by show 1 ≤ sizeLine; decide), fun u7 hu7 => ?_⟩
    obtain ⟨G7, e7⟩ : ∃ G, G = upd G6 u7 (.tup [.str "r"]) := ⟨_, rfl⟩
    rw [← e7]
    have s7 : Same G6 G7 := by rw [e7]; exact same_upd hu7
    have t7 : SqT K G7 u7 [.str "r"] := by rw [e7]; exact SqT.of upd_same
    clear e7
    refine ⟨_, rfl, _, rfl, _, rfl, (by show 3 ≤ sizeLine; decide), fun u8 hu8 => ?_⟩
    obtain ⟨G8, e8⟩ : ∃ G, G = upd G7 u8 (.tup [.ref u1, .ref u2, .ref u2]) := ⟨_, rfl⟩
    rw [← e8]
    have s8 : Same G7 G8 := by rw [e8]; exact same_upd hu8
    have t8 : SqT K G8 u8 [.ref u1, .ref u2, .ref u2] := by rw [e8]; exact SqT.of upd_same
    clear e8
    refine ⟨(by show 4 ≤ sizeLine; decide), fun u9 hu9 => ?_⟩
    obtain ⟨G9, e9⟩ : ∃ G, G = upd G8 u9 (.tup [.str "call", .ref u7, .str "f", .ref u8]) := ⟨_, rfl⟩
    rw [← e9]
    have s9 : Same G8 G9 := by rw [e9]; exact same_upd hu9
    have t9 : SqT K G9 u9 [.str "call", .ref u7, .str "f", .ref u8] := by rw [e9]; exact SqT.of upd_same
    clear e9
    refine ⟨(by show 2 ≤ sizeLine; decide), fun u10 hu10 => ?_⟩
    obtain ⟨G10, e10⟩ : ∃ G, G = upd G9 u10 (.tup [.ref u9, .str "type"]) := ⟨_, rfl⟩
    rw [← e10]
    have s10 : Same G9 G10 := by rw [e10]; exact same_upd hu10
    have t10 : SqT K G10 u10 [.ref u9, .str "type"] := by rw [e10]; exact SqT.of upd_same
    clear e10
    refine ⟨(by show 2 ≤ sizeLine; decide), fun u11 hu11 => ?_⟩
    obtain ⟨G11, e11⟩ : ∃ G, G = upd G10 u11 (.tup [.str "r", .str "s"]) := ⟨_, rfl⟩
    rw [← e11]
    have s11 : Same G10 G11 := by rw [e11]; exact same_upd hu11
    have t11 : SqT K G11 u11 [.str "r", .str "s"] := by rw [e11]; exact SqT.of upd_same
    clear e11
    refine ⟨_, rfl, _, rfl, (by show 2 ≤ sizeLine; decide), fun u12 hu12 => ?_⟩
    obtain ⟨G12, e12⟩ : ∃ G, G = upd G11 u12 (.tup [.ref u1, .ref u2]) := ⟨_, rfl⟩
    rw [← e12]
    have s12 : Same G11 G12 := by rw [e12]; exact same_upd hu12
    have t12 : SqT K G12 u12 [.ref u1, .ref u2] := by rw [e12]; exact SqT.of upd_same
    clear e12
    refine ⟨(by show 4 ≤ sizeLine; decide), fun u13 hu13 => ?_⟩
    obtain ⟨G13, e13⟩ : ∃ G, G = upd G12 u13 (.tup [.str "call", .ref u11, .str "f", .ref u12]) := ⟨_, rfl⟩
    rw [← e13]
    have s13 : Same G12 G13 := by rw [e13]; exact same_upd hu13
    have t13 : SqT K G13 u13 [.str "call", .ref u11, .str "f", .ref u12] := by rw [e13]; exact SqT.of upd_same
    clear e13
    refine ⟨(by show 2 ≤ sizeLine; decide), fun u14 hu14 => ?_⟩
    obtain ⟨G14, e14⟩ : ∃ G, G = upd G13 u14 (.tup [.ref u13, .str "type"]) := ⟨_, rfl⟩
    rw [← e14]
    have s14 : Same G13 G14 := by rw [e14]; exact same_upd hu14
    have t14 : SqT K G14 u14 [.ref u13, .str "type"] := by rw [e14]; exact SqT.of upd_same
    clear e14
    refine ⟨(by show 1 ≤ sizeLine; decide), fun u15 hu15 => ?_⟩
    obtain ⟨G15, e15⟩ : ∃ G, G = upd G14 u15 (.tup [.str "r"]) := ⟨_, rfl⟩
    rw [← e15]
    have s15 : Same G14 G15 := by rw [e15]; exact same_upd hu15
    have t15 : SqT K G15 u15 [.str "r"] := by rw [e15]; exact SqT.of upd_same
    clear e15
    refine ⟨_, rfl, _, rfl, (by show 2 ≤ sizeLine; decide), fun u16 hu16 => ?_⟩
    obtain ⟨G16, e16⟩ : ∃ G, G = upd G15 u16 (.tup [.ref u1, .ref u1]) := ⟨_, rfl⟩
    rw [← e16]
    have s16 : Same G15 G16 := by rw [e16]; exact same_upd hu16
    have t16 : SqT K G16 u16 [.ref u1, .ref u1] := by rw [e16]; exact SqT.of upd_same
    clear e16
    refine ⟨(by show 4 ≤ sizeLine; decide), fun u17 hu17 => ?_⟩
    obtain ⟨G17, e17⟩ : ∃ G, G = upd G16 u17 (.tup [.str "call", .ref u15, .str "f", .ref u16]) := ⟨_, rfl⟩
    rw [← e17]
    have s17 : Same G16 G17 := by rw [e17]; exact same_upd hu17
    have t17 : SqT K G17 u17 [.str "call", .ref u15, .str "f", .ref u16] := by rw [e17]; exact SqT.of upd_same
    clear e17
    refine ⟨(by show 2 ≤ sizeLine; decide), fun u18 hu18 => ?_⟩
    obtain ⟨G18, e18⟩ : ∃ G, G = upd G17 u18 (.tup [.ref u17, .str "flow"]) := ⟨_, rfl⟩
    rw [← e18]
    have s18 : Same G17 G18 := by rw [e18]; exact same_upd hu18
    have t18 : SqT K G18 u18 [.ref u17, .str "flow"] := by rw [e18]; exact SqT.of upd_same
    clear e18
    refine ⟨(by show 1 ≤ sizeLine; decide), fun u19 hu19 => ?_⟩
    obtain ⟨G19, e19⟩ : ∃ G, G = upd G18 u19 (.tup [.str "p"]) := ⟨_, rfl⟩
    rw [← e19]
    have s19 : Same G18 G19 := by rw [e19]; exact same_upd hu19
    have t19 : SqT K G19 u19 [.str "p"] := by rw [e19]; exact SqT.of upd_same
    clear e19
    refine ⟨_, rfl, _, rfl, (by show 2 ≤ sizeLine; decide), fun u20 hu20 => ?_⟩
    obtain ⟨G20, e20⟩ : ∃ G, G = upd G19 u20 (.tup [.ref u1, .ref u2]) := ⟨_, rfl⟩
    rw [← e20]
    have s20 : Same G19 G20 := by rw [e20]; exact same_upd hu20
    have t20 : SqT K G20 u20 [.ref u1, .ref u2] := by rw [e20]; exact SqT.of upd_same
    clear e20
    refine ⟨(by show 4 ≤ sizeLine; decide), fun u21 hu21 => ?_⟩
    obtain ⟨G21, e21⟩ : ∃ G, G = upd G20 u21 (.tup [.str "call", .ref u19, .str "f", .ref u20]) := ⟨_, rfl⟩
    rw [← e21]
    have s21 : Same G20 G21 := by rw [e21]; exact same_upd hu21
    have t21 : SqT K G21 u21 [.str "call", .ref u19, .str "f", .ref u20] := by rw [e21]; exact SqT.of upd_same
    clear e21
    refine ⟨(by show 2 ≤ sizeLine; decide), fun u22 hu22 => ?_⟩
    obtain ⟨G22, e22⟩ : ∃ G, G = upd G21 u22 (.tup [.ref u21, .str "flow"]) := ⟨_, rfl⟩
    rw [← e22]
    have s22 : Same G21 G22 := by rw [e22]; exact same_upd hu22
    have t22 : SqT K G22 u22 [.ref u21, .str "flow"] := by rw [e22]; exact SqT.of upd_same
    clear e22
    refine ⟨(by show 1 ≤ sizeLine; decide), fun u23 hu23 => ?_⟩
    obtain ⟨G23, e23⟩ : ∃ G, G = upd G22 u23 (.tup [.str "z"]) := ⟨_, rfl⟩
    rw [← e23]
    have s23 : Same G22 G23 := by rw [e23]; exact same_upd hu23
    have t23 : SqT K G23 u23 [.str "z"] := by rw [e23]; exact SqT.of upd_same
    clear e23
    refine ⟨_, rfl, _, rfl, (by show 2 ≤ sizeLine; decide), fun u24 hu24 => ?_⟩
    obtain ⟨G24, e24⟩ : ∃ G, G = upd G23 u24 (.tup [.ref u1, .ref u2]) := ⟨_, rfl⟩
    rw [← e24]
    have s24 : Same G23 G24 := by rw [e24]; exact same_upd hu24
    have t24 : SqT K G24 u24 [.ref u1, .ref u2] := by rw [e24]; exact SqT.of upd_same
    clear e24
    refine ⟨(by show 4 ≤ sizeLine; decide), fun u25 hu25 => ?_⟩
    obtain ⟨G25, e25⟩ : ∃ G, G = upd G24 u25 (.tup [.str "call", .ref u23, .str "f", .ref u24]) := ⟨_, rfl⟩
    rw [← e25]
    have s25 : Same G24 G25 := by rw [e25]; exact same_upd hu25
    have t25 : SqT K G25 u25 [.str "call", .ref u23, .str "f", .ref u24] := by rw [e25]; exact SqT.of upd_same
    clear e25
    refine ⟨(by show 2 ≤ sizeLine; decide), fun u26 hu26 => ?_⟩
    obtain ⟨G26, e26⟩ : ∃ G, G = upd G25 u26 (.tup [.ref u25, .str "name"]) := ⟨_, rfl⟩
    rw [← e26]
    have s26 : Same G25 G26 := by rw [e26]; exact same_upd hu26
    have t26 : SqT K G26 u26 [.ref u25, .str "name"] := by rw [e26]; exact SqT.of upd_same
    clear e26
    refine ⟨(by show 1 ≤ sizeLine; decide), fun u27 hu27 => ?_⟩
    obtain ⟨G27, e27⟩ : ∃ G, G = upd G26 u27 (.tup [.str "row"]) := ⟨_, rfl⟩
    rw [← e27]
    have s27 : Same G26 G27 := by rw [e27]; exact same_upd hu27
    have t27 : SqT K G27 u27 [.str "row"] := by rw [e27]; exact SqT.of upd_same
    clear e27
    refine ⟨_, rfl, _, rfl, (by show 2 ≤ sizeLine; decide), fun u28 hu28 => ?_⟩
    obtain ⟨G28, e28⟩ : ∃ G, G = upd G27 u28 (.tup [.ref u1, .ref u2]) := ⟨_, rfl⟩
    rw [← e28]
    have s28 : Same G27 G28 := by rw [e28]; exact same_upd hu28
    have t28 : SqT K G28 u28 [.ref u1, .ref u2] := by rw [e28]; exact SqT.of upd_same
    clear e28
    refine ⟨(by show 4 ≤ sizeLine; decide), fun u29 hu29 => ?_⟩
    obtain ⟨G29, e29⟩ : ∃ G, G = upd G28 u29 (.tup [.str "call", .ref u27, .str "f", .ref u28]) := ⟨_, rfl⟩
    rw [← e29]
    have s29 : Same G28 G29 := by rw [e29]; exact same_upd hu29
    have t29 : SqT K G29 u29 [.str "call", .ref u27, .str "f", .ref u28] := by rw [e29]; exact SqT.of upd_same
    clear e29
    refine ⟨(by show 2 ≤ sizeLine; decide), fun u30 hu30 => ?_⟩
    obtain ⟨G30, e30⟩ : ∃ G, G = upd G29 u30 (.tup [.ref u29, .str "type"]) := ⟨_, rfl⟩
    rw [← e30]
    have s30 : Same G29 G30 := by rw [e30]; exact same_upd hu30
    have t30 : SqT K G30 u30 [.ref u29, .str "type"] := by rw [e30]; exact SqT.of upd_same
    clear e30
    refine ⟨(by show 1 ≤ sizeLine; decide), fun u31 hu31 => ?_⟩
    obtain ⟨G31, e31⟩ : ∃ G, G = upd G30 u31 (.tup [.str "r"]) := ⟨_, rfl⟩
    rw [← e31]
    have s31 : Same G30 G31 := by rw [e31]; exact same_upd hu31
    have t31 : SqT K G31 u31 [.str "r"] := by rw [e31]; exact SqT.of upd_same
    clear e31
    refine ⟨(by show 2 ≤ sizeLine; decide), fun u32 hu32 => ?_⟩
    obtain ⟨G32, e32⟩ : ∃ G, G = upd G31 u32 (.tup [.str "name", .str "row"]) := ⟨_, rfl⟩
    rw [← e32]
    have s32 : Same G31 G32 := by rw [e32]; exact same_upd hu32
    have t32 : SqT K G32 u32 [.str "name", .str "row"] := by rw [e32]; exact SqT.of upd_same
    clear e32
    refine ⟨_, rfl, (by show 2 ≤ sizeLine; decide), fun u33 hu33 => ?_⟩
    obtain ⟨G33, e33⟩ : ∃ G, G = upd G32 u33 (.tup [.ref u32, .ref u2]) := ⟨_, rfl⟩
    rw [← e33]
    have s33 : Same G32 G33 := by rw [e33]; exact same_upd hu33
    have t33 : SqT K G33 u33 [.ref u32, .ref u2] := by rw [e33]; exact SqT.of upd_same
    clear e33
    refine ⟨(by show 4 ≤ sizeLine; decide), fun u34 hu34 => ?_⟩
    obtain ⟨G34, e34⟩ : ∃ G, G = upd G33 u34 (.tup [.str "call", .ref u31, .str "f", .ref u33]) := ⟨_, rfl⟩
    rw [← e34]
    have s34 : Same G33 G34 := by rw [e34]; exact same_upd hu34
    have t34 : SqT K G34 u34 [.str "call", .ref u31, .str "f", .ref u33] := by rw [e34]; exact SqT.of upd_same
    clear e34
    refine ⟨(by show 2 ≤ sizeLine; decide), fun u35 hu35 => ?_⟩
    obtain ⟨G35, e35⟩ : ∃ G, G = upd G34 u35 (.tup [.ref u34, .str "type"]) := ⟨_, rfl⟩
    rw [← e35]
    have s35 : Same G34 G35 := by rw [e35]; exact same_upd hu35
    have t35 : SqT K G35 u35 [.ref u34, .str "type"] := by rw [e35]; exact SqT.of upd_same
    clear e35
    refine ⟨(by show 1 ≤ sizeLine; decide), fun u36 hu36 => ?_⟩
    obtain ⟨G36, e36⟩ : ∃ G, G = upd G35 u36 (.tup [.str "r"]) := ⟨_, rfl⟩
    rw [← e36]
    have s36 : Same G35 G36 := by rw [e36]; exact same_upd hu36
    have t36 : SqT K G36 u36 [.str "r"] := by rw [e36]; exact SqT.of upd_same
    clear e36
    refine ⟨_, rfl, _, rfl, (by show 2 ≤ sizeLine; decide), fun u37 hu37 => ?_⟩
    obtain ⟨G37, e37⟩ : ∃ G, G = upd G36 u37 (.tup [.ref u1, .ref u2]) := ⟨_, rfl⟩
    rw [← e37]
    have s37 : Same G36 G37 := by rw [e37]; exact same_upd hu37
    have t37 : SqT K G37 u37 [.ref u1, .ref u2] := by rw [e37]; exact SqT.of upd_same
    clear e37
    refine ⟨(by show 4 ≤ sizeLine; decide), fun u38 hu38 => ?_⟩
    obtain ⟨G38, e38⟩ : ∃ G, G = upd G37 u38 (.tup [.str "call", .ref u36, .str "h", .ref u37]) := ⟨_, rfl⟩
    rw [← e38]
    have s38 : Same G37 G38 := by rw [e38]; exact same_upd hu38
    have t38 : SqT K G38 u38 [.str "call", .ref u36, .str "h", .ref u37] := by rw [e38]; exact SqT.of upd_same
    clear e38
    refine ⟨(by show 2 ≤ sizeLine; decide), fun u39 hu39 => ?_⟩
    obtain ⟨G39, e39⟩ : ∃ G, G = upd G38 u39 (.tup [.ref u38, .str "name"]) := ⟨_, rfl⟩
    rw [← e39]
    have s39 : Same G38 G39 := by rw [e39]; exact same_upd hu39
    have t39 : SqT K G39 u39 [.ref u38, .str "name"] := by rw [e39]; exact SqT.of upd_same
    clear e39
    refine ⟨(by show 1 ≤ sizeLine; decide), fun u40 hu40 => ?_⟩
    obtain ⟨G40, e40⟩ : ∃ G, G = upd G39 u40 (.tup [.str "small"]) := ⟨_, rfl⟩
    rw [← e40]
    have s40 : Same G39 G40 := by rw [e40]; exact same_upd hu40
    have t40 : SqT K G40 u40 [.str "small"] := by rw [e40]; exact SqT.of upd_same
    clear e40
    refine ⟨_, rfl, _, rfl, (by show 2 ≤ sizeLine; decide), fun u41 hu41 => ?_⟩
    obtain ⟨G41, e41⟩ : ∃ G, G = upd G40 u41 (.tup [.ref u1, .ref u2]) := ⟨_, rfl⟩
    rw [← e41]
    have s41 : Same G40 G41 := by rw [e41]; exact same_upd hu41
    have t41 : SqT K G41 u41 [.ref u1, .ref u2] := by rw [e41]; exact SqT.of upd_same
    clear e41
    refine ⟨(by show 4 ≤ sizeLine; decide), fun u42 hu42 => ?_⟩
    obtain ⟨G42, e42⟩ : ∃ G, G = upd G41 u42 (.tup [.str "call", .ref u40, .str "f", .ref u41]) := ⟨_, rfl⟩
    rw [← e42]
    have s42 : Same G41 G42 := by rw [e42]; exact same_upd hu42
    have t42 : SqT K G42 u42 [.str "call", .ref u40, .str "f", .ref u41] := by rw [e42]; exact SqT.of upd_same
    clear e42
    refine ⟨(by show 2 ≤ sizeLine; decide), fun u43 hu43 => ?_⟩
    obtain ⟨G43, e43⟩ : ∃ G, G = upd G42 u43 (.tup [.ref u42, .str "range"]) := ⟨_, rfl⟩
    rw [← e43]
    have s43 : Same G42 G43 := by rw [e43]; exact same_upd hu43
    have t43 : SqT K G43 u43 [.ref u42, .str "range"] := by rw [e43]; exact SqT.of upd_same
    clear e43
    refine ⟨(by show 1 ≤ sizeLine; decide), fun u44 hu44 => ?_⟩
    obtain ⟨G44, e44⟩ : ∃ G, G = upd G43 u44 (.tup [.str "r"]) := ⟨_, rfl⟩
    rw [← e44]
    have s44 : Same G43 G44 := by rw [e44]; exact same_upd hu44
    have t44 : SqT K G44 u44 [.str "r"] := by rw [e44]; exact SqT.of upd_same
    clear e44
    refine ⟨_, rfl, (by show 2 ≤ sizeLine; decide), fun u45 hu45 => ?_⟩
    obtain ⟨G45, e45⟩ : ∃ G, G = upd G44 u45 (.tup [.str "int", .int 10]) := ⟨_, rfl⟩
    rw [← e45]
    have s45 : Same G44 G45 := by rw [e45]; exact same_upd hu45
    have t45 : SqT K G45 u45 [.str "int", .int 10] := by rw [e45]; exact SqT.of upd_same
    clear e45
    refine ⟨(by show 2 ≤ sizeLine; decide), fun u46 hu46 => ?_⟩
    obtain ⟨G46, e46⟩ : ∃ G, G = upd G45 u46 (.tup [.ref u1, .ref u45]) := ⟨_, rfl⟩
    rw [← e46]
    have s46 : Same G45 G46 := by rw [e46]; exact same_upd hu46
    have t46 : SqT K G46 u46 [.ref u1, .ref u45] := by rw [e46]; exact SqT.of upd_same
    clear e46
    refine ⟨(by show 4 ≤ sizeLine; decide), fun u47 hu47 => ?_⟩
    obtain ⟨G47, e47⟩ : ∃ G, G = upd G46 u47 (.tup [.str "call", .ref u44, .str "f", .ref u46]) := ⟨_, rfl⟩
    rw [← e47]
    have s47 : Same G46 G47 := by rw [e47]; exact same_upd hu47
    have t47 : SqT K G47 u47 [.str "call", .ref u44, .str "f", .ref u46] := by rw [e47]; exact SqT.of upd_same
    clear e47
    refine ⟨(by show 2 ≤ sizeLine; decide), fun u48 hu48 => ?_⟩
    obtain ⟨G48, e48⟩ : ∃ G, G = upd G47 u48 (.tup [.ref u47, .str "range"]) := ⟨_, rfl⟩
    rw [← e48]
    have s48 : Same G47 G48 := by rw [e48]; exact same_upd hu48
    have t48 : SqT K G48 u48 [.ref u47, .str "range"] := by rw [e48]; exact SqT.of upd_same
    clear e48
    refine ⟨(by show 1 ≤ sizeLine; decide), fun u49 hu49 => ?_⟩
    obtain ⟨G49, e49⟩ : ∃ G, G = upd G48 u49 (.tup [.str "r"]) := ⟨_, rfl⟩
    rw [← e49]
    have s49 : Same G48 G49 := by rw [e49]; exact same_upd hu49
    have t49 : SqT K G49 u49 [.str "r"] := by rw [e49]; exact SqT.of upd_same
    clear e49
    refine ⟨_, rfl, _, rfl, (by show 2 ≤ sizeLine; decide), fun u50 hu50 => ?_⟩
    obtain ⟨G50, e50⟩ : ∃ G, G = upd G49 u50 (.tup [.ref u1, .ref u2]) := ⟨_, rfl⟩
    rw [← e50]
    have s50 : Same G49 G50 := by rw [e50]; exact same_upd hu50
    have t50 : SqT K G50 u50 [.ref u1, .ref u2] := by rw [e50]; exact SqT.of upd_same
    clear e50
    refine ⟨(by show 4 ≤ sizeLine; decide), fun u51 hu51 => ?_⟩
    obtain ⟨G51, e51⟩ : ∃ G, G = upd G50 u51 (.tup [.str "call", .ref u49, .str "g", .ref u50]) := ⟨_, rfl⟩
    rw [← e51]
    have s51 : Same G50 G51 := by rw [e51]; exact same_upd hu51
    have t51 : SqT K G51 u51 [.str "call", .ref u49, .str "g", .ref u50] := by rw [e51]; exact SqT.of upd_same
    clear e51
    refine ⟨(by show 2 ≤ sizeLine; decide), fun u52 hu52 => ?_⟩
    obtain ⟨G52, e52⟩ : ∃ G, G = upd G51 u52 (.tup [.ref u51, .str "type"]) := ⟨_, rfl⟩
    rw [← e52]
    have s52 : Same G51 G52 := by rw [e52]; exact same_upd hu52
    have t52 : SqT K G52 u52 [.ref u51, .str "type"] := by rw [e52]; exact SqT.of upd_same
    clear e52
    refine ⟨(by show 1 ≤ sizeLine; decide), fun u53 hu53 => ?_⟩
    obtain ⟨G53, e53⟩ : ∃ G, G = upd G52 u53 (.tup [.str "r"]) := ⟨_, rfl⟩
    rw [← e53]
    have s53 : Same G52 G53 := by rw [e53]; exact same_upd hu53
    have t53 : SqT K G53 u53 [.str "r"] := by rw [e53]; exact SqT.of upd_same
    clear e53
    refine ⟨(by show 2 ≤ sizeLine; decide), fun u54 hu54 => ?_⟩
    obtain ⟨G54, e54⟩ : ∃ G, G = upd G53 u54 (.tup [.str "name", .str "row"]) := ⟨_, rfl⟩
    rw [← e54]
    have s54 : Same G53 G54 := by rw [e54]; exact same_upd hu54
    have t54 : SqT K G54 u54 [.str "name", .str "row"] := by rw [e54]; exact SqT.of upd_same
    clear e54
    refine ⟨_, rfl, (by show 2 ≤ sizeLine; decide), fun u55 hu55 => ?_⟩
    obtain ⟨G55, e55⟩ : ∃ G, G = upd G54 u55 (.tup [.ref u54, .ref u2]) := ⟨_, rfl⟩
    rw [← e55]
    have s55 : Same G54 G55 := by rw [e55]; exact same_upd hu55
    have t55 : SqT K G55 u55 [.ref u54, .ref u2] := by rw [e55]; exact SqT.of upd_same
    clear e55
    refine ⟨(by show 4 ≤ sizeLine; decide), fun u56 hu56 => ?_⟩
    obtain ⟨G56, e56⟩ : ∃ G, G = upd G55 u56 (.tup [.str "call", .ref u53, .str "g", .ref u55]) := ⟨_, rfl⟩
    rw [← e56]
    have s56 : Same G55 G56 := by rw [e56]; exact same_upd hu56
    have t56 : SqT K G56 u56 [.str "call", .ref u53, .str "g", .ref u55] := by rw [e56]; exact SqT.of upd_same
    clear e56
    refine ⟨(by show 2 ≤ sizeLine; decide), fun u57 hu57 => ?_⟩
    obtain ⟨G57, e57⟩ : ∃ G, G = upd G56 u57 (.tup [.ref u56, .non]) := ⟨_, rfl⟩
    rw [← e57]
    have s57 : Same G56 G57 := by rw [e57]; exact same_upd hu57
    have t57 : SqT K G57 u57 [.ref u56, .non] := by rw [e57]; exact SqT.of upd_same
    clear e57
    refine ⟨(by show 1 ≤ sizeLine; decide), fun u58 hu58 => ?_⟩
    obtain ⟨G58, e58⟩ : ∃ G, G = upd G57 u58 (.tup [.str "r"]) := ⟨_, rfl⟩
    rw [← e58]
    have s58 : Same G57 G58 := by rw [e58]; exact same_upd hu58
    have t58 : SqT K G58 u58 [.str "r"] := by rw [e58]; exact SqT.of upd_same
    clear e58
    refine ⟨(by show 2 ≤ sizeLine; decide), fun u59 hu59 => ?_⟩
    obtain ⟨G59, e59⟩ : ∃ G, G = upd G58 u59 (.tup [.str "name", .str "long"]) := ⟨_, rfl⟩
    rw [← e59]
    have s59 : Same G58 G59 := by rw [e59]; exact same_upd hu59
    have t59 : SqT K G59 u59 [.str "name", .str "long"] := by rw [e59]; exact SqT.of upd_same
    clear e59
    refine ⟨_, rfl, (by show 2 ≤ sizeLine; decide), fun u60 hu60 => ?_⟩
    obtain ⟨G60, e60⟩ : ∃ G, G = upd G59 u60 (.tup [.ref u59, .ref u2]) := ⟨_, rfl⟩
    rw [← e60]
    have s60 : Same G59 G60 := by rw [e60]; exact same_upd hu60
    have t60 : SqT K G60 u60 [.ref u59, .ref u2] := by rw [e60]; exact SqT.of upd_same
    clear e60
    refine ⟨(by show 4 ≤ sizeLine; decide), fun u61 hu61 => ?_⟩
    obtain ⟨G61, e61⟩ : ∃ G, G = upd G60 u61 (.tup [.str "call", .ref u58, .str "g", .ref u60]) := ⟨_, rfl⟩
    rw [← e61]
    have s61 : Same G60 G61 := by rw [e61]; exact same_upd hu61
    have t61 : SqT K G61 u61 [.str "call", .ref u58, .str "g", .ref u60] := by rw [e61]; exact SqT.of upd_same
    clear e61
    refine ⟨(by show 2 ≤ sizeLine; decide), fun u62 hu62 => ?_⟩
    obtain ⟨G62, e62⟩ : ∃ G, G = upd G61 u62 (.tup [.ref u61, .str "type"]) := ⟨_, rfl⟩
    rw [← e62]
    have s62 : Same G61 G62 := by rw [e62]; exact same_upd hu62
    have t62 : SqT K G62 u62 [.ref u61, .str "type"] := by rw [e62]; exact SqT.of upd_same
    clear e62
    refine ⟨(by show 1 ≤ sizeLine; decide), fun u63 hu63 => ?_⟩
    obtain ⟨G63, e63⟩ : ∃ G, G = upd G62 u63 (.tup [.str "r"]) := ⟨_, rfl⟩
    rw [← e63]
    have s63 : Same G62 G63 := by rw [e63]; exact same_upd hu63
    have t63 : SqT K G63 u63 [.str "r"] := by rw [e63]; exact SqT.of upd_same
    clear e63
    refine ⟨_, rfl, (by show 3 ≤ sizeLine; decide), fun u64 hu64 => ?_⟩
    obtain ⟨G64, e64⟩ : ∃ G, G = upd G63 u64 (.tup [.str "item", .str "row", .ref u2]) := ⟨_, rfl⟩
    rw [← e64]
    have s64 : Same G63 G64 := by rw [e64]; exact same_upd hu64
    have t64 : SqT K G64 u64 [.str "item", .str "row", .ref u2] := by rw [e64]; exact SqT.of upd_same
    clear e64
    refine ⟨_, rfl, (by show 2 ≤ sizeLine; decide), fun u65 hu65 => ?_⟩
    obtain ⟨G65, e65⟩ : ∃ G, G = upd G64 u65 (.tup [.ref u64, .ref u2]) := ⟨_, rfl⟩
    rw [← e65]
    have s65 : Same G64 G65 := by rw [e65]; exact same_upd hu65
    have t65 : SqT K G65 u65 [.ref u64, .ref u2] := by rw [e65]; exact SqT.of upd_same
    clear e65
    refine ⟨(by show 4 ≤ sizeLine; decide), fun u66 hu66 => ?_⟩
    obtain ⟨G66, e66⟩ : ∃ G, G = upd G65 u66 (.tup [.str "call", .ref u63, .str "g", .ref u65]) := ⟨_, rfl⟩
    rw [← e66]
    have s66 : Same G65 G66 := by rw [e66]; exact same_upd hu66
    have t66 : SqT K G66 u66 [.str "call", .ref u63, .str "g", .ref u65] := by rw [e66]; exact SqT.of upd_same
    clear e66
    refine ⟨(by show 2 ≤ sizeLine; decide), fun u67 hu67 => ?_⟩
    obtain ⟨G67, e67⟩ : ∃ G, G = upd G66 u67 (.tup [.ref u66, .str "type"]) := ⟨_, rfl⟩
    rw [← e67]
    have s67 : Same G66 G67 := by rw [e67]; exact same_upd hu67
    have t67 : SqT K G67 u67 [.ref u66, .str "type"] := by rw [e67]; exact SqT.of upd_same
    clear e67
    refine ⟨(by show 1 ≤ sizeLine; decide), fun u68 hu68 => ?_⟩
    obtain ⟨G68, e68⟩ : ∃ G, G = upd G67 u68 (.tup [.str "r"]) := ⟨_, rfl⟩
    rw [← e68]
    have s68 : Same G67 G68 := by rw [e68]; exact same_upd hu68
    have t68 : SqT K G68 u68 [.str "r"] := by rw [e68]; exact SqT.of upd_same
    clear e68
    refine ⟨_, rfl, (by show 2 ≤ sizeLine; decide), fun u69 hu69 => ?_⟩
    obtain ⟨G69, e69⟩ : ∃ G, G = upd G68 u69 (.tup [.str "name", .str "z"]) := ⟨_, rfl⟩
    rw [← e69]
    have s69 : Same G68 G69 := by rw [e69]; exact same_upd hu69
    have t69 : SqT K G69 u69 [.str "name", .str "z"] := by rw [e69]; exact SqT.of upd_same
    clear e69
    refine ⟨(by show 2 ≤ sizeLine; decide), fun u70 hu70 => ?_⟩
    obtain ⟨G70, e70⟩ : ∃ G, G = upd G69 u70 (.tup [.ref u1, .ref u69]) := ⟨_, rfl⟩
    rw [← e70]
    have s70 : Same G69 G70 := by rw [e70]; exact same_upd hu70
    have t70 : SqT K G70 u70 [.ref u1, .ref u69] := by rw [e70]; exact SqT.of upd_same
    clear e70
    refine ⟨(by show 4 ≤ sizeLine; decide), fun u71 hu71 => ?_⟩
    obtain ⟨G71, e71⟩ : ∃ G, G = upd G70 u71 (.tup [.str "call", .ref u68, .str "f", .ref u70]) := ⟨_, rfl⟩
    rw [← e71]
    have s71 : Same G70 G71 := by rw [e71]; exact same_upd hu71
    have t71 : SqT K G71 u71 [.str "call", .ref u68, .str "f", .ref u70] := by rw [e71]; exact SqT.of upd_same
    clear e71
    refine ⟨(by show 2 ≤ sizeLine; decide), fun u72 hu72 => ?_⟩
    obtain ⟨G72, e72⟩ : ∃ G, G = upd G71 u72 (.tup [.ref u71, .str "name"]) := ⟨_, rfl⟩
    rw [← e72]
    have s72 : Same G71 G72 := by rw [e72]; exact same_upd hu72
    have t72 : SqT K G72 u72 [.ref u71, .str "name"] := by rw [e72]; exact SqT.of upd_same
    clear e72
    refine ⟨(by show 16 ≤ sizeLine; decide), fun l hl => ?_⟩
    have sE : Same G72 (upd G72 l (.lst [.ref u6, .ref u10, .ref u14, .ref u18, .ref u22, .ref u26, .ref u30, .ref u35, .ref u39, .ref u43, .ref u48, .ref u52, .ref u57, .ref u62, .ref u67, .ref u72])) := same_upd hl
    have hL : upd G72 l (.lst [.ref u6, .ref u10, .ref u14, .ref u18, .ref u22, .ref u26, .ref u30, .ref u35, .ref u39, .ref u43, .ref u48, .ref u52, .ref u57, .ref u62, .ref u67, .ref u72]) l = some (.lst [.ref u6, .ref u10, .ref u14, .ref u18, .ref u22, .ref u26, .ref u30, .ref u35, .ref u39, .ref u43, .ref u48, .ref u52, .ref u57, .ref u62, .ref u67, .ref u72]) := upd_same
    generalize upd G72 l (.lst [.ref u6, .ref u10, .ref u14, .ref u18, .ref u22, .ref u26, .ref u30, .ref u35, .ref u39, .ref u43, .ref u48, .ref u52, .ref u57, .ref u62, .ref u67, .ref u72]) = GE at sE hL ⊢
    have S72 : Same G72 GE := sE
    have S71 : Same G71 GE := s72.trans S72
    have S70 : Same G70 GE := s71.trans S71
    have S69 : Same G69 GE := s70.trans S70
    have S68 : Same G68 GE := s69.trans S69
    have S67 : Same G67 GE := s68.trans S68
    have S66 : Same G66 GE := s67.trans S67
    have S65 : Same G65 GE := s66.trans S66
    have S64 : Same G64 GE := s65.trans S65
    have S63 : Same G63 GE := s64.trans S64
    have S62 : Same G62 GE := s63.trans S63
    have S61 : Same G61 GE := s62.trans S62
    have S60 : Same G60 GE := s61.trans S61
    have S59 : Same G59 GE := s60.trans S60
    have S58 : Same G58 GE := s59.trans S59
    have S57 : Same G57 GE := s58.trans S58
    have S56 : Same G56 GE := s57.trans S57
    have S55 : Same G55 GE := s56.trans S56
    have S54 : Same G54 GE := s55.trans S55
    have S53 : Same G53 GE := s54.trans S54
    have S52 : Same G52 GE := s53.trans S53
    have S51 : Same G51 GE := s52.trans S52
    have S50 : Same G50 GE := s51.trans S51
    have S49 : Same G49 GE := s50.trans S50
    have S48 : Same G48 GE := s49.trans S49
    have S47 : Same G47 GE := s48.trans S48
    have S46 : Same G46 GE := s47.trans S47
    have S45 : Same G45 GE := s46.trans S46
    have S44 : Same G44 GE := s45.trans S45
    have S43 : Same G43 GE := s44.trans S44
    have S42 : Same G42 GE := s43.trans S43
    have S41 : Same G41 GE := s42.trans S42
    have S40 : Same G40 GE := s41.trans S41
    have S39 : Same G39 GE := s40.trans S40
    have S38 : Same G38 GE := s39.trans S39
    have S37 : Same G37 GE := s38.trans S38
    have S36 : Same G36 GE := s37.trans S37
    have S35 : Same G35 GE := s36.trans S36
    have S34 : Same G34 GE := s35.trans S35
    have S33 : Same G33 GE := s34.trans S34
    have S32 : Same G32 GE := s33.trans S33
    have S31 : Same G31 GE := s32.trans S32
    have S30 : Same G30 GE := s31.trans S31
    have S29 : Same G29 GE := s30.trans S30
    have S28 : Same G28 GE := s29.trans S29
    have S27 : Same G27 GE := s28.trans S28
    have S26 : Same G26 GE := s27.trans S27
    have S25 : Same G25 GE := s26.trans S26
    have S24 : Same G24 GE := s25.trans S25
    have S23 : Same G23 GE := s24.trans S24
    have S22 : Same G22 GE := s23.trans S23
    have S21 : Same G21 GE := s22.trans S22
    have S20 : Same G20 GE := s21.trans S21
    have S19 : Same G19 GE := s20.trans S20
    have S18 : Same G18 GE := s19.trans S19
    have S17 : Same G17 GE := s18.trans S18
    have S16 : Same G16 GE := s17.trans S17
    have S15 : Same G15 GE := s16.trans S16
    have S14 : Same G14 GE := s15.trans S15
    have S13 : Same G13 GE := s14.trans S14
    have S12 : Same G12 GE := s13.trans S13
    have S11 : Same G11 GE := s12.trans S12
    have S10 : Same G10 GE := s11.trans S11
    have S9 : Same G9 GE := s10.trans S10
    have S8 : Same G8 GE := s9.trans S9
    have S7 : Same G7 GE := s8.trans S8
    have S6 : Same G6 GE := s7.trans S7
    have S5 : Same G5 GE := s6.trans S6
    have S4 : Same G4 GE := s5.trans S5
    have S3 : Same G3 GE := s4.trans S4
    have S2 : Same G2 GE := s3.trans S3
    have S1 : Same G1 GE := s2.trans S2
    have T1 := (tups_same S1).seq t1
    have T2 := (tups_same S2).seq t2
    have T3 := (tups_same S3).seq t3
    have T4 := (tups_same S4).seq t4
    have T5 := (tups_same S5).seq t5
    have T6 := (tups_same S6).seq t6
    have T7 := (tups_same S7).seq t7
    have T8 := (tups_same S8).seq t8
    have T9 := (tups_same S9).seq t9
    have T10 := (tups_same S10).seq t10
    have T11 := (tups_same S11).seq t11
    have T12 := (tups_same S12).seq t12
    have T13 := (tups_same S13).seq t13
    have T14 := (tups_same S14).seq t14
    have T15 := (tups_same S15).seq t15
    have T16 := (tups_same S16).seq t16
    have T17 := (tups_same S17).seq t17
    have T18 := (tups_same S18).seq t18
    have T19 := (tups_same S19).seq t19
    have T20 := (tups_same S20).seq t20
    have T21 := (tups_same S21).seq t21
    have T22 := (tups_same S22).seq t22
    have T23 := (tups_same S23).seq t23
    have T24 := (tups_same S24).seq t24
    have T25 := (tups_same S25).seq t25
    have T26 := (tups_same S26).seq t26
    have T27 := (tups_same S27).seq t27
    have T28 := (tups_same S28).seq t28
    have T29 := (tups_same S29).seq t29
    have T30 := (tups_same S30).seq t30
    have T31 := (tups_same S31).seq t31
    have T32 := (tups_same S32).seq t32
    have T33 := (tups_same S33).seq t33
    have T34 := (tups_same S34).seq t34
    have T35 := (tups_same S35).seq t35
    have T36 := (tups_same S36).seq t36
    have T37 := (tups_same S37).seq t37
    have T38 := (tups_same S38).seq t38
    have T39 := (tups_same S39).seq t39
    have T40 := (tups_same S40).seq t40
    have T41 := (tups_same S41).seq t41
    have T42 := (tups_same S42).seq t42
    have T43 := (tups_same S43).seq t43
    have T44 := (tups_same S44).seq t44
    have T45 := (tups_same S45).seq t45
    have T46 := (tups_same S46).seq t46
    have T47 := (tups_same S47).seq t47
    have T48 := (tups_same S48).seq t48
    have T49 := (tups_same S49).seq t49
    have T50 := (tups_same S50).seq t50
    have T51 := (tups_same S51).seq t51
    have T52 := (tups_same S52).seq t52
    have T53 := (tups_same S53).seq t53
    have T54 := (tups_same S54).seq t54
    have T55 := (tups_same S55).seq t55
    have T56 := (tups_same S56).seq t56
    have T57 := (tups_same S57).seq t57
    have T58 := (tups_same S58).seq t58
    have T59 := (tups_same S59).seq t59
    have T60 := (tups_same S60).seq t60
    have T61 := (tups_same S61).seq t61
    have T62 := (tups_same S62).seq t62
    have T63 := (tups_same S63).seq t63
    have T64 := (tups_same S64).seq t64
    have T65 := (tups_same S65).seq t65
    have T66 := (tups_same S66).seq t66
    have T67 := (tups_same S67).seq t67
    have T68 := (tups_same S68).seq t68
    have T69 := (tups_same S69).seq t69
    have T70 := (tups_same S70).seq t70
    have T71 := (tups_same S71).seq t71
    have T72 := (tups_same S72).seq t72
    have pr0 : Pair K GE [.ref u6, .ref u10, .ref u14, .ref u18, .ref u22, .ref u26, .ref u30, .ref u35, .ref u39, .ref u43, .ref u48, .ref u52, .ref u57, .ref u62, .ref u67, .ref u72] 0 (bad.get ⟨0, by decide⟩) := ⟨u6, u5, rfl, T6, ⟨u3, u4, T5, T3, ⟨_, T4, rfl, fun i e h => match i, h with | 0, h => by cases h; exact ⟨u1, rfl, T1⟩⟩⟩⟩
    have pr1 : Pair K GE [.ref u6, .ref u10, .ref u14, .ref u18, .ref u22, .ref u26, .ref u30, .ref u35, .ref u39, .ref u43, .ref u48, .ref u52, .ref u57, .ref u62, .ref u67, .ref u72] 1 (bad.get ⟨1, by decide⟩) := ⟨u10, u9, rfl, T10, ⟨u7, u8, T9, T7, ⟨_, T8, rfl, fun i e h => match i, h with | 0, h => by cases h; exact ⟨u1, rfl, T1⟩ | 1, h => by cases h; exact ⟨u2, rfl, T2⟩ | 2, h => by cases h; exact ⟨u2, rfl, T2⟩⟩⟩⟩
    have pr2 : Pair K GE [.ref u6, .ref u10, .ref u14, .ref u18, .ref u22, .ref u26, .ref u30, .ref u35, .ref u39, .ref u43, .ref u48, .ref u52, .ref u57, .ref u62, .ref u67, .ref u72] 2 (bad.get ⟨2, by decide⟩) := ⟨u14, u13, rfl, T14, ⟨u11, u12, T13, T11, ⟨_, T12, rfl, fun i e h => match i, h with | 0, h => by cases h; exact ⟨u1, rfl, T1⟩ | 1, h => by cases h; exact ⟨u2, rfl, T2⟩⟩⟩⟩
    have pr3 : Pair K GE [.ref u6, .ref u10, .ref u14, .ref u18, .ref u22, .ref u26, .ref u30, .ref u35, .ref u39, .ref u43, .ref u48, .ref u52, .ref u57, .ref u62, .ref u67, .ref u72] 3 (bad.get ⟨3, by decide⟩) := ⟨u18, u17, rfl, T18, ⟨u15, u16, T17, T15, ⟨_, T16, rfl, fun i e h => match i, h with | 0, h => by cases h; exact ⟨u1, rfl, T1⟩ | 1, h => by cases h; exact ⟨u1, rfl, T1⟩⟩⟩⟩
    have pr4 : Pair K GE [.ref u6, .ref u10, .ref u14, .ref u18, .ref u22, .ref u26, .ref u30, .ref u35, .ref u39, .ref u43, .ref u48, .ref u52, .ref u57, .ref u62, .ref u67, .ref u72] 4 (bad.get ⟨4, by decide⟩) := ⟨u22, u21, rfl, T22, ⟨u19, u20, T21, T19, ⟨_, T20, rfl, fun i e h => match i, h with | 0, h => by cases h; exact ⟨u1, rfl, T1⟩ | 1, h => by cases h; exact ⟨u2, rfl, T2⟩⟩⟩⟩
    have pr5 : Pair K GE [.ref u6, .ref u10, .ref u14, .ref u18, .ref u22, .ref u26, .ref u30, .ref u35, .ref u39, .ref u43, .ref u48, .ref u52, .ref u57, .ref u62, .ref u67, .ref u72] 5 (bad.get ⟨5, by decide⟩) := ⟨u26, u25, rfl, T26, ⟨u23, u24, T25, T23, ⟨_, T24, rfl, fun i e h => match i, h with | 0, h => by cases h; exact ⟨u1, rfl, T1⟩ | 1, h => by cases h; exact ⟨u2, rfl, T2⟩⟩⟩⟩
    have pr6 : Pair K GE [.ref u6, .ref u10, .ref u14, .ref u18, .ref u22, .ref u26, .ref u30, .ref u35, .ref u39, .ref u43, .ref u48, .ref u52, .ref u57, .ref u62, .ref u67, .ref u72] 6 (bad.get ⟨6, by decide⟩) := ⟨u30, u29, rfl, T30, ⟨u27, u28, T29, T27, ⟨_, T28, rfl, fun i e h => match i, h with | 0, h => by cases h; exact ⟨u1, rfl, T1⟩ | 1, h => by cases h; exact ⟨u2, rfl, T2⟩⟩⟩⟩
    have pr7 : Pair K GE [.ref u6, .ref u10, .ref u14, .ref u18, .ref u22, .ref u26, .ref u30, .ref u35, .ref u39, .ref u43, .ref u48, .ref u52, .ref u57, .ref u62, .ref u67, .ref u72] 7 (bad.get ⟨7, by decide⟩) := ⟨u35, u34, rfl, T35, ⟨u31, u33, T34, T31, ⟨_, T33, rfl, fun i e h => match i, h with | 0, h => by cases h; exact ⟨u32, rfl, T32⟩ | 1, h => by cases h; exact ⟨u2, rfl, T2⟩⟩⟩⟩
    have pr8 : Pair K GE [.ref u6, .ref u10, .ref u14, .ref u18, .ref u22, .ref u26, .ref u30, .ref u35, .ref u39, .ref u43, .ref u48, .ref u52, .ref u57, .ref u62, .ref u67, .ref u72] 8 (bad.get ⟨8, by decide⟩) := ⟨u39, u38, rfl, T39, ⟨u36, u37, T38, T36, ⟨_, T37, rfl, fun i e h => match i, h with | 0, h => by cases h; exact ⟨u1, rfl, T1⟩ | 1, h => by cases h; exact ⟨u2, rfl, T2⟩⟩⟩⟩
    have pr9 : Pair K GE [.ref u6, .ref u10, .ref u14, .ref u18, .ref u22, .ref u26, .ref u30, .ref u35, .ref u39, .ref u43, .ref u48, .ref u52, .ref u57, .ref u62, .ref u67, .ref u72] 9 (bad.get ⟨9, by decide⟩) := ⟨u43, u42, rfl, T43, ⟨u40, u41, T42, T40, ⟨_, T41, rfl, fun i e h => match i, h with | 0, h => by cases h; exact ⟨u1, rfl, T1⟩ | 1, h => by cases h; exact ⟨u2, rfl, T2⟩⟩⟩⟩
    have pr10 : Pair K GE [.ref u6, .ref u10, .ref u14, .ref u18, .ref u22, .ref u26, .ref u30, .ref u35, .ref u39, .ref u43, .ref u48, .ref u52, .ref u57, .ref u62, .ref u67, .ref u72] 10 (bad.get ⟨10, by decide⟩) := ⟨u48, u47, rfl, T48, ⟨u44, u46, T47, T44, ⟨_, T46, rfl, fun i e h => match i, h with | 0, h => by cases h; exact ⟨u1, rfl, T1⟩ | 1, h => by cases h; exact ⟨u45, rfl, T45⟩⟩⟩⟩
    have pr11 : Pair K GE [.ref u6, .ref u10, .ref u14, .ref u18, .ref u22, .ref u26, .ref u30, .ref u35, .ref u39, .ref u43, .ref u48, .ref u52, .ref u57, .ref u62, .ref u67, .ref u72] 11 (bad.get ⟨11, by decide⟩) := ⟨u52, u51, rfl, T52, ⟨u49, u50, T51, T49, ⟨_, T50, rfl, fun i e h => match i, h with | 0, h => by cases h; exact ⟨u1, rfl, T1⟩ | 1, h => by cases h; exact ⟨u2, rfl, T2⟩⟩⟩⟩
    have pr12 : Pair K GE [.ref u6, .ref u10, .ref u14, .ref u18, .ref u22, .ref u26, .ref u30, .ref u35, .ref u39, .ref u43, .ref u48, .ref u52, .ref u57, .ref u62, .ref u67, .ref u72] 12 (bad.get ⟨12, by decide⟩) := ⟨u57, u56, rfl, T57, ⟨u53, u55, T56, T53, ⟨_, T55, rfl, fun i e h => match i, h with | 0, h => by cases h; exact ⟨u54, rfl, T54⟩ | 1, h => by cases h; exact ⟨u2, rfl, T2⟩⟩⟩⟩
    have pr13 : Pair K GE [.ref u6, .ref u10, .ref u14, .ref u18, .ref u22, .ref u26, .ref u30, .ref u35, .ref u39, .ref u43, .ref u48, .ref u52, .ref u57, .ref u62, .ref u67, .ref u72] 13 (bad.get ⟨13, by decide⟩) := ⟨u62, u61, rfl, T62, ⟨u58, u60, T61, T58, ⟨_, T60, rfl, fun i e h => match i, h with | 0, h => by cases h; exact ⟨u59, rfl, T59⟩ | 1, h => by cases h; exact ⟨u2, rfl, T2⟩⟩⟩⟩
    have pr14 : Pair K GE [.ref u6, .ref u10, .ref u14, .ref u18, .ref u22, .ref u26, .ref u30, .ref u35, .ref u39, .ref u43, .ref u48, .ref u52, .ref u57, .ref u62, .ref u67, .ref u72] 14 (bad.get ⟨14, by decide⟩) := ⟨u67, u66, rfl, T67, ⟨u63, u65, T66, T63, ⟨_, T65, rfl, fun i e h => match i, h with | 0, h => by cases h; exact ⟨u64, rfl, ⟨_, _, T64⟩⟩ | 1, h => by cases h; exact ⟨u2, rfl, T2⟩⟩⟩⟩
    have pr15 : Pair K GE [.ref u6, .ref u10, .ref u14, .ref u18, .ref u22, .ref u26, .ref u30, .ref u35, .ref u39, .ref u43, .ref u48, .ref u52, .ref u57, .ref u62, .ref u67, .ref u72] 15 (bad.get ⟨15, by decide⟩) := ⟨u72, u71, rfl, T72, ⟨u68, u70, T71, T68, ⟨_, T70, rfl, fun i e h => match i, h with | 0, h => by cases h; exact ⟨u1, rfl, T1⟩ | 1, h => by cases h; exact ⟨u69, rfl, T69⟩⟩⟩⟩
    refine q l _ GE (s1.trans S1) hL fun i c h => ?_
    match i, h with
    | 0, h => cases h; exact pr0
    | 1, h => cases h; exact pr1
    | 2, h => cases h; exact pr2
    | 3, h => cases h; exact pr3
    | 4, h => cases h; exact pr4
    | 5, h => cases h; exact pr5
    | 6, h => cases h; exact pr6
    | 7, h => cases h; exact pr7
    | 8, h => cases h; exact pr8
    | 9, h => cases h; exact pr9
    | 10, h => cases h; exact pr10
    | 11, h => cases h; exact pr11
    | 12, h => cases h; exact pr12
    | 13, h => cases h; exact pr13
    | 14, h => cases h; exact pr14
    | 15, h => cases h; exact pr15
    | n + 16, h => cases h
end
end K17

set_option Elab.async false
set_option linter.all false
set_option maxRecDepth 100000
set_option maxHeartbeats 4000000
namespace K17
open PySem PySem.Spec PyProof.Rows L2 QX
def spLaw (K : PySem.W.Frag) : Sp := fun vs H Q _ => ∃ (a : Addr) (ns : List Int), vs = [.ref a] ∧ SqL K H a (ns.map V.int) ∧ ns.length ≤ 63 ∧ ∀ H', Q (.bl true) H'
def nm (i : Nat) : Str := names3.getD i "f"
theorem cut3 {i : Nat} (h : i < 3) : cutV [V.str "f", .str "g", .str "h"] none (some (0 + (i : Int))) = (names3.take i).map V.str := by
  obtain rfl | rfl | rfl : i = 0 ∨ i = 1 ∨ i = 2 := by omega
  all_goals rfl
theorem nm3 {i : Nat} (h : i < 3) : atI [V.str "f", .str "g", .str "h"] (0 + (i : Int)) = some (.str (nm i)) := by
  obtain rfl | rfl | rfl : i = 0 ∨ i = 1 ∨ i = 2 := by omega
  all_goals rfl
theorem nm_new {i : Nat} (h : i < 3) : nm i ∉ names3.take i := by
  obtain rfl | rfl | rfl : i = 0 ∨ i = 1 ∨ i = 2 := by omega
  all_goals decide +kernel
theorem nm_take {i : Nat} (h : i < 3) : names3.take (i + 1) = names3.take i ++ [nm i] := by
  obtain rfl | rfl | rfl : i = 0 ∨ i = 1 ∨ i = 2 := by omega
  all_goals rfl
def dueV (due : Bool) : V := if due = true then .str "work" else .non
def FnsAt (K : PySem.W.Frag) (H : Hp) (fl : Addr) (L : List (Fn 3)) : Prop := ∃ xs : List V, H fl = some (.lst xs) ∧ xs.length = L.length ∧ ∀ (i : Nat) (f : Fn 3), L[i]? = some f → ∃ b : Addr, xs[i]? = some (V.ref b) ∧ FnAt K 3 H b f
theorem fns_tups {K : PySem.W.Frag} {H H' : Hp} {fl : Addr} {L : List (Fn 3)} (h : FnsAt K H fl L) (t : Tups H H') (k : ∀ xs, H fl = some (.lst xs) → H' fl = some (.lst xs)) : FnsAt K H' fl L := by
  obtain ⟨xs, h1, h2, h3⟩ := h
  refine ⟨xs, k _ h1, h2, fun i f e => ?_⟩
  obtain ⟨b, e1, e2⟩ := h3 i f e
  exact ⟨b, e1, fn_tups e2 t⟩
theorem fns_add {K : PySem.W.Frag} {H : Hp} {fl b : Addr} {L : List (Fn 3)} {xs : List V} {f : Fn 3} (h1 : H fl = some (.lst xs)) (h : FnsAt K H fl L) (hb : FnAt K 3 H b f) : FnsAt K (upd H fl (.lst (xs ++ [.ref b]))) fl (L ++ [f]) := by
  obtain ⟨ys, g1, g2, g3⟩ := h
  have e : ys = xs := by
    rw [h1] at g1
    cases g1
    rfl
  subst e
  have t : Tups H (upd H fl (.lst (ys ++ [.ref b]))) := tups_lst h1
  refine ⟨_, upd_same, by rw [List.length_append, List.length_append, g2]; rfl, fun i s' e => ?_⟩
  by_cases c : i < L.length
  · rw [List.getElem?_append_left c] at e
    obtain ⟨a', e1, e2⟩ := g3 i s' e
    exact ⟨a', by rw [List.getElem?_append_left (by rw [g2]; exact c)]; exact e1, fn_tups e2 t⟩
  · have c' : L.length ≤ i := Nat.le_of_not_lt c
    rw [List.getElem?_append_right c'] at e
    have z : i - L.length = 0 := by
      have := (List.getElem?_eq_some_iff.mp e).1
      rw [List.length_singleton] at this
      omega
    rw [z] at e
    obtain rfl : f = s' := Option.some.inj e
    exact ⟨b, by rw [List.getElem?_append_right (by rw [g2]; exact c'), g2, z]; rfl, fn_tups hb t⟩
section
variable {P : Program} {w : World} {K : PySem.W.Frag} {mg : Str → Option Value} {base : Heap}
theorem ok_law1 (T : Tx P K mg) (G_BadProgram : FnOk P w K mg base CX0 1 T.E_BadProgram.f T.E_BadProgram.fd ["self", "reason"] (spI1 T.E_BadProgram.C "reason")) {f : Addr} {fd : FuncData} (F : Fun K "law" "law" s_law f fd) :
    FnOk P w K mg base CX0 18 f fd ["script"] (spLaw K) := by
  have G_law_draws : FnOk P w K mg base CX0 1 T.a_law_draws T.d_law_draws ["script", "start", "most"] (spDraws K) := ok_draws T
  have G_law_next : FnOk P w K mg base CX0 1 T.a_law_next T.d_law_next ["draws"] spNext := ok_next T
  have G_law_reason : FnOk P w K mg base CX0 17 T.a_law_reason T.d_law_reason ["program"] (spReason K 3) := ok_law_reason T (ok_check T G_BadProgram 3)
  have G_law_work : FnOk P w K mg base CX0 3 T.a_law_work T.d_law_work ["body", "known"] (spWork (SbAt K 3) (SbW 3) (SbWok 3)) := ok_law_work T 3
  have G_law_body : FnOk P w K mg base CX0 4 T.a_law_body T.d_law_body ["draws", "calls", "depth"] (spLB K 2) := ok_lb T 2
  have G_law_bad_calls : FnOk P w K mg base CX0 1 T.a_law_bad_calls T.d_law_bad_calls [] (spBad K) := ok_bad_calls T
  refine F.ok sc_law (fun vs H Q E h => ?_) (fun cdv A outer s H vs Q E hr h => ?_)
  · obtain ⟨a, ns, rfl, _⟩ := h
    rfl
  · obtain ⟨a, ns, rfl, hS, hlen, q⟩ := h
    have hr_law_draws : Room 1 _ := hr.mono (by decide)
    have hr_law_next : Room 1 _ := hr.mono (by decide)
    have hr_law_bad_calls : Room 1 _ := hr.mono (by decide)
    have hr_law_reason : Room 17 _ := hr
    have hr_law_work : Room 3 _ := hr.mono (by decide)
    have hr_law_body : Room 4 _ := hr.mono (by decide)
    refine ⟨_, (pss_cons (ps_set (i := 1) sc_law.nd rfl (.inl rfl) (pe_call G_law_draws hr_law_draws (by rfl) T.g_law_draws T.F_law_draws.kp T.b_law_draws .nil pass0 (pa_cons (pv 0) (pa_cons pe_int (pa_cons pe_int pa_nil)))))
        (pss_cons (ps_set (i := 2) sc_law.nd rfl (.inl rfl) (pe_call G_law_next hr_law_next (by rfl) T.g_law_next T.F_law_next.kp T.b_law_next .nil pass0 (pa_cons (pv 1) pa_nil)))
        (pss_cons (ps_set (i := 3) sc_law.nd rfl (.inl rfl) (pe_tup (pa_cons (pe_tup (pa_cons pe_str (pa_cons pe_str (pa_cons pe_int (pa_cons pe_int pa_nil))))) (pa_cons (pe_tup (pa_cons pe_str (pa_cons pe_str (pa_cons pe_int (pa_cons pe_int pa_nil))))) pa_nil))))
        (pss_cons (ps_set (i := 4) sc_law.nd rfl (.inl rfl) (pe_tup (pa_cons (pe_tup (pa_cons pe_str (pa_cons pe_str (pa_cons pe_int (pa_cons pe_int pa_nil))))) pa_nil)))
        (pss_cons (ps_set (i := 5) sc_law.nd rfl (.inl rfl) pe_dnewK)
        (pss_cons (ps_set (i := 6) sc_law.nd rfl (.inl rfl) (pe_lst pa_nil))
        (pss_cons (ps_set (i := 7) sc_law.nd rfl (.inl rfl) pe_non)
        (pss_cons (ps_for PassesOwn.never rfl (pi_range1 rfl T.z_range (pa_cons pe_int pa_nil)) (pg_name (i := 8) sc_law.nd rfl (.inl rfl))
        (pss_cons (ps_set (i := 9) sc_law.nd rfl (.inl rfl) (pe_call G_law_body hr_law_body (by rfl) T.g_law_body T.F_law_body.kp T.b_law_body .nil pass0 (pa_cons (pv 1) (pa_cons (pe_slice sl_list (pe_lst (pa_cons pe_str (pa_cons pe_str (pa_cons pe_str pa_nil)))) po_none (po_some (pv 8))) (pa_cons pe_int pa_nil)))))
        (pss_cons (ps_expr (pe_bm PySem.F.plainAttrs_list PySem.F.slot_list_append PySem.F.type_list_append mt_append (pv 6) (pa_cons (pe_tup (pa_cons (pe_ix ix_list (pe_lst (pa_cons pe_str (pa_cons pe_str (pa_cons pe_str pa_nil)))) (pv 8) (fun _ _ => rfl)) (pa_cons (pv 3) (pa_cons (pv 4) (pa_cons (pe_tup pa_nil) (pa_cons (pv 9) pa_nil)))))) pa_nil)))
        (pss_cons (ps_dput (hu_of hr) (pv 5) (pe_ix ix_list (pe_lst (pa_cons pe_str (pa_cons pe_str (pa_cons pe_str pa_nil)))) (pv 8) (fun _ _ => rfl)) (pe_call G_law_work hr_law_work (by rfl) T.g_law_work T.F_law_work.kp T.b_law_work .nil pass0 (pa_cons (pv 9) (pa_cons (pv 5) pa_nil))) rfl)
        (pss_one (ps_if (PW.pt (pw_and (pt_cmpR op_isN (pv 7) pe_non (nomark _)) (pw_and1 (pt_cmpR op_gt (pe_dget (hu_of hr) (pv 5) (pe_ix ix_list (pe_lst (pa_cons pe_str (pa_cons pe_str (pa_cons pe_str pa_nil)))) (pv 8) (fun _ _ => rfl)) (fun _ _ => rfl)) pe_int (nomark _)))))
        (pss_one (ps_set (i := 7) sc_law.nd rfl (.inl rfl) pe_str))
        pss_nil))))))
        (pss_cons (ps_if (pt_cmpR op_ne (pe_call G_law_reason hr_law_reason (by rfl) T.g_law_reason T.F_law_reason.kp T.b_law_reason .nil pass0 (pa_cons (pe_callTy call_tuple_of (by rfl) T.z_tuple (by decide +kernel) (pa_cons (pv 6) pa_nil)) pa_nil)) (pv 7) (nomark _))
        (pss_one (ps_ret pe_bl))
        pss_nil)
        (pss_cons (ps_set (i := 10) sc_law.nd rfl (.inl rfl) (pe_tup (pa_cons (pe_tup (pa_cons pe_str (pa_cons pe_str (pa_cons pe_int (pa_cons pe_int pa_nil))))) (pa_cons (pe_tup (pa_cons pe_str (pa_cons pe_str (pa_cons pe_int (pa_cons pe_int pa_nil))))) (pa_cons (pe_tup (pa_cons pe_str (pa_cons pe_str (pa_cons pe_int (pa_cons pe_int pa_nil))))) pa_nil)))))
        (pss_cons (ps_asg (pe_ix ix_list (pe_call0 G_law_bad_calls hr_law_bad_calls (by rfl) T.g_law_bad_calls T.F_law_bad_calls.kp T.b_law_bad_calls .nil pass0) (pe_op op_mod (pv 2) pe_int) (fun _ _ => rfl)) (pg_tup rfl (pgs_cons (pg_name (i := 11) sc_law.nd rfl (.inl rfl)) (pgs_cons (pg_name (i := 12) sc_law.nd rfl (.inl rfl)) pgs_nil))))
        (pss_cons (ps_set (i := 13) sc_law.nd rfl (.inl rfl) (pe_tup (pa_cons (pe_tup (pa_cons pe_str (pa_cons (pv 3) (pa_cons (pv 4) (pa_cons (pe_tup pa_nil) (pa_cons (pe_tup (pa_cons (pe_tup (pa_cons pe_str (pa_cons pe_str (pa_cons (pe_tup (pa_cons pe_str (pa_cons pe_str pa_nil))) pa_nil)))) pa_nil)) pa_nil)))))) (pa_cons (pe_tup (pa_cons pe_str (pa_cons (pe_tup (pa_cons (pe_tup (pa_cons pe_str (pa_cons pe_str (pa_cons pe_int (pa_cons pe_int pa_nil))))) (pa_cons (pe_ix ix_tup (pv 3) pe_int (fun _ _ => rfl)) pa_nil))) (pa_cons (pv 4) (pa_cons (pe_tup pa_nil) (pa_cons (pe_tup pa_nil) pa_nil)))))) pa_nil))))
        (pss_cons (ps_set (i := 14) sc_law.nd rfl (.inl rfl) (pe_op op_catT (pv 13) (pe_tup (pa_cons (pe_tup (pa_cons pe_str (pa_cons (pv 3) (pa_cons (pv 4) (pa_cons (pv 10) (pa_cons (pe_tup (pa_cons (pv 11) (pa_cons (pe_tup (pa_cons pe_str (pa_cons pe_str (pa_cons (pe_tup (pa_cons pe_str (pa_cons pe_int pa_nil))) pa_nil)))) pa_nil))) pa_nil)))))) pa_nil))))
        (pss_one (ps_ret (pe_cmpR op_eq (pe_call G_law_reason hr_law_reason (by rfl) T.g_law_reason T.F_law_reason.kp T.b_law_reason .nil pass0 (pa_cons (pv 14) pa_nil)) (pe_ix ix_list (pe_lst (pa_cons pe_str (pa_cons (pv 12) pa_nil))) (pe_callTy call_int1 (by rfl) T.z_int (by decide +kernel) (pa_cons (pe_cmpR op_notN (pv 12) pe_non (nomark _)) pa_nil)) (fun _ _ => rfl)) (nomark _))))))))))))))))), ?_⟩
    refine ⟨_, rfl, a, ns, 0, 60, rfl, hS, hlen, fun p ds H1 s1 hn1 hp1 el1 => ?_⟩
    refine ⟨_, rfl, p, ds, rfl, hp1, el1, fun dr es0 H2 k2 hp2 el2 => ?_⟩
    refine ⟨(by show 4 ≤ sizeLine; decide), fun u1 hu1 => ⟨(by show 4 ≤ sizeLine; decide), fun u2 hu2 => ⟨(by show 2 ≤ sizeLine; decide), fun u3 hu3 => ?_⟩⟩⟩
    refine ⟨(by show 4 ≤ sizeLine; decide), fun u4 hu4 => ⟨(by show 1 ≤ sizeLine; decide), fun u5 hu5 => ?_⟩⟩
    have q1 := same_upd (o := .tup [.str "s", .str "secret", .int 99, .int 0]) hu1
    have q2 := same_upd (o := .tup [.str "p", .str "public", .int 9, .int 0]) hu2
    have q3 := same_upd (o := .tup [.ref u1, .ref u2]) hu3
    have q4 := same_upd (o := .tup [.str "r", .str "secret", .int 99, .int 0]) hu4
    have q5 := same_upd (o := .tup [.ref u4]) hu5
    intro kd hkd
    have q6 := same_upd (o := .dK []) hkd
    refine ⟨Nat.zero_le _, fun fl hfl => ?_⟩
    have q7 := same_upd (o := .lst []) hfl
    have w7 := q7
    have w6 := q6.trans w7
    have w5 := q5.trans w6
    have w4 := q4.trans w5
    have w3 := q3.trans w4
    have w2 := q2.trans w3
    have w1 := q1.trans w2
    have F1 := w2 u1 _ upd_same
    have F2 := w3 u2 _ upd_same
    have F3 := w4 u3 _ upd_same
    have F4 := w5 u4 _ upd_same
    have F5 := w6 u5 _ upd_same
    have F6 := w7 kd _ upd_same
    have Fp := w1 p _ hp2
    have n13 : p ≠ u1 := ne_of_none hp2 hu1
    have par1 : ParAt K _ u3 sp2 := ⟨_, SqT.of F3, rfl, fun i v e => match i, e with
      | 0, e => by cases e; exact ⟨u1, rfl, SqT.of F1⟩
      | 1, e => by cases e; exact ⟨u2, rfl, SqT.of F2⟩⟩
    have par2 : ParAt K _ u5 rr := ⟨_, SqT.of F5, rfl, fun i v e => match i, e with
      | 0, e => by cases e; exact ⟨u4, rfl, SqT.of F4⟩⟩
    refine ⟨3, rfl, by decide, by decide, for_range (lo := 0) (n := 3) (fun i σ H' => ∃ (v8 v9 : Option V) (es : List Int) (L : List (Fn 3)) (fns : FN) (wk : WN) (due : Bool), σ = [some (.ref a), some (.ref p), some (.int dr), some (.ref u3), some (.ref u5), some (.ref kd), some (.ref fl), some (dueV due), v8, v9, none, none, none, none, none] ∧
        H' p = some (.lst (es.map V.int)) ∧ es.length ≤ 2000 ∧ FnsAt K H' fl L ∧ L.length = i ∧ Kept L fns wk (names3.take i) due ∧ WkAt H' kd wk ∧ Few H' kd i ∧ ParAt K H' u3 sp2 ∧ ParAt K H' u5 rr ∧ p ≠ fl ∧ kd ≠ fl ∧ kd ≠ p)
      ⟨_, _, es0, [], [], [], false, rfl, Fp, by omega, ⟨[], upd_same, rfl, fun i f e => by cases e⟩, rfl, kept0, ⟨[], F6, fun n i e => by cases e⟩, ⟨[], F6, Nat.le_refl _⟩, par1, par2, ?_, ?_, ?_⟩ ?_ ?_⟩
    · exact ne_of_none ((q1.trans (q2.trans (q3.trans (q4.trans (q5.trans q6))))) p _ hp2) hfl
    · exact ne_of_none upd_same hfl
    · exact (ne_of_none ((q1.trans (q2.trans (q3.trans (q4.trans q5)))) p _ hp2) hkd).symm
    · rintro i σ H' hi ⟨v8, v9, es, L, fns, wk, due, rfl, hp, el, hF, hL, kept, hW, fW, hP, hR, npf, nkf, nkp⟩
      have list3 : ([V.str "f", .str "g", .str "h"] : List V).length ≤ sizeLine := by show 3 ≤ sizeLine; decide
      refine ⟨_, rfl, list3, fun x1 hx1 => ⟨_, rfl, _, rfl, x1, _, rfl, SqL.of upd_same, fun x2 hx2 => ?_⟩⟩
      rw [cut3 hi]
      have a1 := same_upd (o := .lst [.str "f", .str "g", .str "h"]) hx1
      have a2 := a1.trans (same_upd (o := .lst ((names3.take i).map V.str)) hx2)
      have hpA := a2 _ _ hp
      have x2p : x2 ≠ p := fun e => by
        have z := a1 _ _ hp
        rw [← e, hx2] at z
        cases z
      refine ⟨p, x2, es, names3.take i, rfl, hpA, el, SqL.of upd_same, x2p, by rw [List.length_take]; exact Nat.le_trans (Nat.min_le_right _ _) (by decide), Nat.le_refl 2, fun t b es2 H3 k3 hp3 el3 sb good => ?_⟩
      have t3 : Tups H' H3 := (tups_same a2).trans (tups_keep hpA k3)
      obtain ⟨xs, f1, f2, f3⟩ := id hF
      obtain ⟨kws, hw1, hw2⟩ := fW
      have hfl3 := k3 fl _ npf.symm (a2 _ _ f1)
      have hkd3 := k3 kd _ nkp (a2 _ _ hw1)
      have hF3 : FnsAt K H3 fl L := fns_tups hF t3 fun ys e => k3 fl _ npf.symm (a2 _ _ e)
      have hW3 : WkAt H3 kd wk := by
        obtain ⟨kw2, z1, z2⟩ := hW
        exact ⟨kw2, k3 kd _ nkp (a2 _ _ z1), z2⟩
      have lx : xs.length < sizeLine := by
        rw [f2, hL]
        exact Nat.lt_of_lt_of_le hi (by decide)
      refine ⟨_, rfl, .inl ⟨rfl, _, SqL.of hfl3⟩, list3, fun x3 hx3 => ⟨_, rfl, x3, _, _, _, rfl, rfl, SqL.of upd_same, nm3 hi, _, rfl, _, rfl, Nat.zero_le _, fun x4 hx4 => ⟨_, rfl, (by show 5 ≤ sizeLine; decide), fun x5 hx5 => ?_⟩⟩⟩
      have b1 := same_upd (o := .lst [.str "f", .str "g", .str "h"]) hx3
      have b2 := same_upd (o := .tup []) hx4
      have b3 := same_upd (o := .tup [.str (nm i), .ref u3, .ref u5, .ref x4, .ref t]) hx5
      have b4 := b1.trans (b2.trans b3)
      refine ⟨fl, xs, _, rfl, rfl, b4 _ _ hfl3, lx, ?_⟩
      have fnB : FnAt K 3 _ x5 ⟨nm i, sp2, rr, [], b⟩ := ⟨u3, u5, x4, t, SqT.of upd_same, par_tups hP (t3.trans (tups_same b4)), par_tups hR (t3.trans (tups_same b4)), ⟨[], (tups_same b3).seq (SqT.of upd_same), rfl, fun i v e => by cases e⟩, sb_tups 3 _ _ _ _ sb (tups_same b4)⟩
      have hFB := fns_add (b4 _ _ hfl3) (fns_tups hF3 (tups_same b4) fun ys e => b4 _ _ e) fnB
      have tC := t3.trans ((tups_same b4).trans (tups_lst (u := .lst (xs ++ [.ref x5])) (b4 _ _ hfl3)))
      have sbC : SbAt K 3 _ t b := sb_tups 3 _ _ _ _ sb ((tups_same b4).trans (tups_lst (u := .lst (xs ++ [.ref x5])) (b4 _ _ hfl3)))
      have kdC : ∀ o, H3 kd = some o → upd (upd (upd (upd H3 x3 _) x4 _) x5 _) fl (.lst (xs ++ [.ref x5])) kd = some o := fun o e => by
        rw [upd_ne nkf]
        exact b4 _ _ e
      have pC : upd (upd (upd (upd H3 x3 _) x4 _) x5 _) fl (.lst (xs ++ [.ref x5])) p = some (.lst (es2.map V.int)) := (by rw [upd_ne npf]; exact b4 _ _ hp3)
      obtain ⟨HC, eC⟩ : ∃ HC, HC = upd (upd (upd (upd H3 x3 (.lst [.str "f", .str "g", .str "h"])) x4 (.tup [])) x5 (.tup [.str (nm i), .ref u3, .ref u5, .ref x4, .ref t])) fl (.lst (xs ++ [.ref x5])) := ⟨_, rfl⟩
      rw [← eC] at hFB tC sbC kdC pC ⊢
      have hWC : WkAt HC kd wk := by
        obtain ⟨kw2, z1, z2⟩ := hW3
        exact ⟨kw2, kdC _ z1, z2⟩
      refine ⟨_, rfl, _, rfl, t, kd, b, wk, rfl, sbC, hWC, good_wok kept.wk 3 b good, fun HD sD => ?_⟩
      refine ⟨_, rfl, list3, fun x6 hx6 => ⟨_, rfl, x6, _, _, _, rfl, rfl, SqL.of upd_same, nm3 hi, kd, _, rfl, DPut.k (k := Sum.inr (nm i)) (same_upd hx6 _ _ (sD _ _ (kdC _ hkd3))) (Nat.lt_of_le_of_lt (Nat.le_trans hw2 (Nat.le_of_lt hi)) (by decide)), ?_⟩⟩
      have hkE := same_upd (o := .lst [.str "f", .str "g", .str "h"]) hx6 _ _ (sD _ _ (kdC _ hkd3))
      have e1 := same_upd (o := .lst [.str "f", .str "g", .str "h"]) hx6
      have sCE := sD.trans e1
      obtain ⟨HF, eF⟩ : ∃ HF, HF = upd (upd HD x6 (.lst [.str "f", .str "g", .str "h"])) kd (.dK (putK kws (Sum.inr (nm i)) (.int (SbW 3 wk b)))) := ⟨_, rfl⟩
      rw [← eF]
      have kF : HF kd = some (.dK (putK kws (Sum.inr (nm i)) (.int (SbW 3 wk b)))) := by rw [eF]; exact upd_same
      have oF : ∀ z o, z ≠ kd → HC z = some o → HF z = some o := fun z o n e => by rw [eF, upd_ne n]; exact sCE _ _ e
      have tF : Tups H' HF := tC.trans (Tups.trans (tups_same sCE) (by rw [eF]; exact tups_upd hkE))
      have hFF : FnsAt K HF fl (L ++ [⟨nm i, sp2, rr, [], b⟩]) := fns_tups hFB (Tups.trans (tups_same sCE) (by rw [eF]; exact tups_upd hkE)) fun ys e => oF _ _ nkf.symm e
      have pF : HF p = some (.lst (es2.map V.int)) := oF _ _ nkp.symm pC
      have wF : WkAt HF kd ((nm i, SbW 3 wk b) :: wk) := by
        obtain ⟨kw2, z1, z2⟩ := hWC
        have ek : kw2 = kws := by
          rw [kdC _ hkd3] at z1
          cases z1
          rfl
        subst ek
        refine ⟨_, kF, fun n j e => ?_⟩
        rw [valV_put]
        by_cases e2 : n = nm i
        · subst e2
          rw [List.lookup_cons_self] at e
          cases e
          rw [if_pos rfl]
        · have q1 : (n == nm i) = false := by simpa using e2
          rw [List.lookup_cons, q1] at e
          rw [if_neg (fun z => e2 (Sum.inr.inj z))]
          exact z2 n j e
      have stp := kept.step (nm_new hi) good
      rw [← nm_take hi] at stp
      have fin : ∀ (HG : Hp) (due2 : Bool), Same HF HG → due2 = (due || decide (SbW 3 wk b > 20000)) → ∃ (v8 v9 : Option V) (es : List Int) (L : List (Fn 3)) (fns : FN) (wk : WN) (due : Bool), ([some (.ref a), some (.ref p), some (.int dr), some (.ref u3), some (.ref u5), some (.ref kd), some (.ref fl), some (dueV due2), some (.int (0 + (i : Int))), some (.ref t), none, none, none, none, none] : L2.St) = [some (.ref a), some (.ref p), some (.int dr), some (.ref u3), some (.ref u5), some (.ref kd), some (.ref fl), some (dueV due), v8, v9, none, none, none, none, none] ∧
          HG p = some (.lst (es.map V.int)) ∧ es.length ≤ 2000 ∧ FnsAt K HG fl L ∧ L.length = i + 1 ∧ Kept L fns wk (names3.take (i + 1)) due ∧ WkAt HG kd wk ∧ Few HG kd (i + 1) ∧ ParAt K HG u3 sp2 ∧ ParAt K HG u5 rr ∧ p ≠ fl ∧ kd ≠ fl ∧ kd ≠ p := by
        intro HG due2 sG ed
        subst ed
        exact ⟨_, _, es2, _, _, _, _, rfl, sG _ _ pF, by omega, fns_tups hFF (tups_same sG) fun ys e => sG _ _ e, by rw [List.length_append, hL]; rfl, stp, wk_same wF sG, ⟨_, sG _ _ kF, Nat.le_trans (length_putK _ _ _) (Nat.succ_le_succ hw2)⟩, par_tups hP (tF.trans (tups_same sG)), par_tups hR (tF.trans (tups_same sG)), npf, nkf, nkp⟩
      refine ⟨_, rfl, rfl, _, rfl, ?_⟩
      cases due with
      | true => exact iteF' rfl (iteF' rfl (fin HF true (Same.refl HF) rfl))
      | false =>
        refine iteT' rfl ?_
        refine ⟨_, rfl, list3, fun x7 hx7 => ?_⟩
        have g7 := same_upd (o := .lst [.str "f", .str "g", .str "h"]) hx7
        have d7 : DGet (upd HF x7 (.lst [.str "f", .str "g", .str "h"])) kd (.str (nm i)) (some (.int (SbW 3 wk b))) := by
          have z := DGet.k (k := Sum.inr (nm i)) (g7 _ _ kF)
          rw [valV_put, if_pos rfl] at z
          exact z
        refine ⟨_, rfl, x7, _, _, _, rfl, rfl, SqL.of upd_same, nm3 hi, kd, _, rfl, d7, _, _, rfl, rfl, _, rfl, ?_⟩
        refine ite2 (fun c => ?_) (fun c => ?_)
        · exact fin _ true g7 (by rw [of_decide_eq_true c |> decide_eq_true]; rfl)
        · exact fin _ false g7 (by rw [decide_eq_false (fun z => c (decide_eq_true z))]; rfl)
    · rintro σ H' ⟨v8, v9, es, L, fns, wk, due, rfl, hp, el, hF, hL, kept, hW, fW, hP, hR, npf, nkf, nkp⟩
      obtain ⟨xs, f1, f2, f3⟩ := id hF
      refine ⟨_, rfl, fl, xs, rfl, .inl ⟨SqL.of f1, fun tp htp => ?_⟩⟩
      have sT := same_upd (o := .tup xs) htp
      have sy : resV (checkM [] [] L) = dueV due := by
        have z := kept.says []
        rw [List.append_nil] at z
        rw [z]
        cases due <;> rfl
      refine ⟨tp, L, rfl, ⟨xs, SqT.of upd_same, f2, fun i f e => ?_⟩, by omega, by decide, ?_, fun H8 s8 => ?_⟩
      · obtain ⟨b, e1, e2⟩ := f3 i f e
        exact ⟨b, e1, fn_tups e2 (tups_same sT)⟩
      · have z := kept.ok [] trivial
        rw [List.append_nil] at z
        exact z
      rw [sy]
      refine ⟨_, rfl, (by cases due <;> rfl), _, rfl, iteF' (by simp) ?_⟩
      have hP8 := par_tups hP (tups_same (sT.trans s8))
      have hR8 := par_tups hR (tups_same (sT.trans s8))
      refine ⟨(by show 4 ≤ sizeLine; decide), fun m1 hm1 => ⟨(by show 4 ≤ sizeLine; decide), fun m2 hm2 => ⟨(by show 4 ≤ sizeLine; decide), fun m3 hm3 => ⟨(by show 3 ≤ sizeLine; decide), fun m4 hm4 => ?_⟩⟩⟩⟩
      have o1 := same_upd (o := .tup [.str "row", .str "secret", .int 99, .int 3]) hm1
      have o2 := same_upd (o := .tup [.str "long", .str "secret", .int 99, .int 4]) hm2
      have o3 := same_upd (o := .tup [.str "small", .str "secret", .int 98, .int 0]) hm3
      have o4 := same_upd (o := .tup [.ref m1, .ref m2, .ref m3]) hm4
      have oo := o1.trans (o2.trans (o3.trans o4))
      have hM : ParAt K _ m4 mOs := ⟨_, SqT.of upd_same, rfl, fun i v e => match i, e with
        | 0, e => by cases e; exact ⟨m1, rfl, (tups_same (o2.trans (o3.trans o4))).seq (SqT.of upd_same)⟩
        | 1, e => by cases e; exact ⟨m2, rfl, (tups_same (o3.trans o4)).seq (SqT.of upd_same)⟩
        | 2, e => by cases e; exact ⟨m3, rfl, (tups_same o4).seq (SqT.of upd_same)⟩⟩
      refine ⟨rfl, fun bl bxs H9 s9 hbl pairs => ?_⟩
      have hP9 := par_tups hP8 (tups_same (oo.trans s9))
      have hR9 := par_tups hR8 (tups_same (oo.trans s9))
      have hM9 := par_tups hM (tups_same s9)
      obtain ⟨j, hj, ej⟩ : ∃ j : Nat, j < bad.length ∧ dr % 16 = (j : Int) := by
        have m1 := Int.emod_nonneg dr (show (16 : Int) ≠ 0 by decide)
        have m2 := Int.emod_lt_of_pos dr (show (0 : Int) < 16 by decide)
        exact ⟨(dr % 16).toNat, by show (dr % 16).toNat < 16; omega, by omega⟩
      have hc := List.getElem?_eq_getElem hj
      have hmem := List.getElem_mem hj
      obtain ⟨pa, cc, ex, hpa, hst⟩ := pairs j _ hc
      generalize bad[j] = c at hc hmem hpa hst
      have hat : atI bxs (dr % 16) = some (.ref pa) := by rw [ej]; exact atI_nat ex
      refine ⟨_, rfl, _, _, rfl, rfl, (by show (0 : Int) < _; decide), bl, bxs, _, _, rfl, rfl, SqL.of hbl, hat, pa, _, rfl, hpa, rfl, _, _, rfl, _, _, rfl, rfl, ?_⟩
      obtain ⟨pxs, px1, px2, px3⟩ := id hP9
      obtain ⟨pb, pe, pv⟩ := px3 1 _ rfl
      refine ⟨_, rfl, _, rfl, Nat.zero_le _, fun y1 hy1 => ⟨(by show 2 ≤ sizeLine; decide), fun y2 hy2 => ⟨(by show 3 ≤ sizeLine; decide), fun y3 hy3 => ⟨(by show 1 ≤ sizeLine; decide), fun y4 hy4 => ⟨(by show 5 ≤ sizeLine; decide), fun y5 hy5 => ?_⟩⟩⟩⟩⟩
      have r1 := same_upd (o := .tup []) hy1
      have r2 := same_upd (o := .tup [.str "name", .str "s"]) hy2
      have r3 := same_upd (o := .tup [.str "set", .str "r", .ref y2]) hy3
      have r4 := same_upd (o := .tup [.ref y3]) hy4
      have r5 := same_upd (o := .tup [.str "f", .ref u3, .ref u5, .ref y1, .ref y4]) hy5
      refine ⟨(by show 4 ≤ sizeLine; decide), fun y6 hy6 => ?_⟩
      have r6 := same_upd (o := .tup [.str "s", .str "secret", .int 99, .int 3]) hy6
      have R6 := r1.trans (r2.trans (r3.trans (r4.trans (r5.trans r6))))
      refine ⟨_, rfl, u3, _, _, _, rfl, rfl, (tups_same R6).seq px1, atI_nat pe, (by show 2 ≤ sizeLine; decide), fun y7 hy7 => ?_⟩
      refine ⟨_, rfl, Nat.zero_le _, fun y8 hy8 => ⟨Nat.zero_le _, fun y9 hy9 => ⟨(by show 5 ≤ sizeLine; decide), fun y10 hy10 => ⟨(by show 2 ≤ sizeLine; decide), fun y11 hy11 => ?_⟩⟩⟩⟩
      have r7 := same_upd (o := .tup [.ref y6, .ref pb]) hy7
      have r8 := same_upd (o := .tup []) hy8
      have r9 := same_upd (o := .tup []) hy9
      have r10 := same_upd (o := .tup [.str "g", .ref y7, .ref u5, .ref y8, .ref y9]) hy10
      have r11 := same_upd (o := .tup [.ref y5, .ref y10]) hy11
      refine ⟨_, rfl, _, rfl, _, rfl, _, rfl, _, rfl, (by show 2 ≤ sizeLine; decide), fun z1 hz1 => ⟨(by show 3 ≤ sizeLine; decide), fun z2 hz2 => ⟨(by show 2 ≤ sizeLine; decide), fun z3 hz3 => ⟨(by show 5 ≤ sizeLine; decide), fun z4 hz4 => ⟨(by show 1 ≤ sizeLine; decide), fun z5 hz5 => ?_⟩⟩⟩⟩⟩
      have g1 := same_upd (o := .tup [.str "int", .int 1]) hz1
      have g2 := same_upd (o := .tup [.str "set", .str "nobody", .ref z1]) hz2
      have g3 := same_upd (o := .tup [.ref cc, .ref z2]) hz3
      have g4 := same_upd (o := .tup [.str "m", .ref u3, .ref u5, .ref m4, .ref z3]) hz4
      have g5 := same_upd (o := .tup [.ref z4]) hz5
      have T5 := g5
      have T4 := g4.trans T5
      have T3 := g3.trans T4
      have T2 := g2.trans T3
      have T1 := g1.trans T2
      refine ⟨y11, z5, _, _, rfl, rfl, (tups_same T1).seq (SqT.of upd_same), SqT.of upd_same, by simp, (by show 2 + 1 ≤ sizeLine; decide), (fun z => by cases z), fun _ wp hwp => ?_⟩
      have g6 := same_upd (o := .tup ([.ref y5, .ref y10] ++ [.ref z4])) hwp
      have U := g6
      have U5 := T5.trans U
      have U4 := T4.trans U
      have U3 := T3.trans U
      have U2 := T2.trans U
      have U1 := T1.trans U
      have V11 := r11.trans U1
      have V10 := r10.trans V11
      have V9 := r9.trans V10
      have V8 := r8.trans V9
      have V7 := r7.trans V8
      have V6 := r6.trans V7
      have V5 := r5.trans V6
      have V4 := r4.trans V5
      have V3 := r3.trans V4
      have V2 := r2.trans V3
      have V1 := r1.trans V2
      have prA : PrAt K 3 _ wp (prog2 c) := ⟨_, SqT.of upd_same, rfl, fun i f e => match i, e with
        | 0, e => by
          cases e
          exact ⟨y5, rfl, u3, u5, y1, y4, (tups_same V6).seq (SqT.of upd_same), par_tups hP9 (tups_same V1), par_tups hR9 (tups_same V1), ⟨[], (tups_same V2).seq (SqT.of upd_same), rfl, fun i v e => by cases e⟩, ⟨[.ref y3], (tups_same V5).seq (SqT.of upd_same), rfl, fun i v e => match i, e with
            | 0, e => by cases e; exact ⟨y3, rfl, y2, (tups_same V4).seq (SqT.of upd_same), (tups_same V3).seq (SqT.of upd_same)⟩⟩⟩
        | 1, e => by
          cases e
          exact ⟨y10, rfl, y7, u5, y8, y9, (tups_same V11).seq (SqT.of upd_same), ⟨[.ref y6, .ref pb], (tups_same V8).seq (SqT.of upd_same), rfl, fun i v e => match i, e with
            | 0, e => by cases e; exact ⟨y6, rfl, (tups_same V7).seq (SqT.of upd_same)⟩
            | 1, e => by cases e; exact ⟨pb, rfl, (tups_same V1).seq pv⟩⟩, par_tups hR9 (tups_same V1), ⟨[], (tups_same V9).seq (SqT.of upd_same), rfl, fun i v e => by cases e⟩, ⟨[], (tups_same V10).seq (SqT.of upd_same), rfl, fun i v e => by cases e⟩⟩
        | 2, e => by
          cases e
          exact ⟨z4, rfl, u3, u5, m4, z3, (tups_same U5).seq (SqT.of upd_same), par_tups hP9 (tups_same V1), par_tups hR9 (tups_same V1), par_tups hM9 (tups_same V1), ⟨[.ref cc, .ref z2], (tups_same U4).seq (SqT.of upd_same), rfl, fun i v e => match i, e with
            | 0, e => by cases e; exact ⟨cc, rfl, stm_tups (sb_tups 2) hst (tups_same V1)⟩
            | 1, e => by cases e; exact ⟨z2, rfl, z1, (tups_same U3).seq (SqT.of upd_same), (tups_same U2).seq (SqT.of upd_same)⟩⟩⟩⟩
      refine ⟨_, rfl, wp, prog2 c, rfl, prA, (by show 3 ≤ 900; decide), by decide, bad_ok hmem, fun HR sR => ?_⟩
      rw [bad_says hmem]
      refine ⟨_, rfl, (by show 2 ≤ sizeLine; decide), fun l2 hl2 => ?_⟩
      refine ⟨_, rfl, rfl, .inr ⟨_, rfl, l2, _, _, .str (c.2.2.2.getD "name"), rfl, rfl, SqL.of upd_same, ?_, rfl, ?_⟩⟩
      · obtain ⟨x1, x2, x3, x4⟩ := c
        cases x4 with
        | none => rfl
        | some r => rfl
      · show Q (.bl (decide (V.str (c.2.2.2.getD "name") = V.str (c.2.2.2.getD "name")))) _
        rw [decide_eq_true rfl]
        exact q _
end
end K17

set_option Elab.async false
set_option linter.all false
set_option maxRecDepth 100000
set_option maxHeartbeats 4000000
namespace K17
open PySem PySem.Spec PyProof.Rows L2 QX
section
variable {w : World} {K : PySem.W.Frag} {mg : Str → Option Value} {base : Heap}
theorem ok_BadProgram {P : Program} (htop : (P.main.scope.names.lookup ("super" : Str)).isSome = false) (hms : mg "super" = none) (R : Err P K mg "BadProgram" "BadProgram.__init__" i_BadProgram ["self", "reason"] ["reason"]) : FnOk P w K mg base CX0 1 R.f R.fd ["self", "reason"] (spI1 R.C "reason") := by
  refine R.F.ok (C := R.C) sc_BadProgram R.S hms htop rfl rfl rfl (fun vs H Q E h => ?_) (fun vs H Q E h => ?_) (fun env => rfl) (fun env => rfl) (fun env => rfl) (fun env => rfl) (fun cda cc A outer s H a vr Q E hr h => ?_)
  · obtain ⟨a, v, rfl, _⟩ := h
    rfl
  · obtain ⟨a, v, rfl, hx, _⟩ := h
    exact ⟨a, _, rfl, hx⟩
  · obtain ⟨a', v, e, hx, hv, q⟩ := h
    cases e
    refine ⟨_, _, pa_cons (pe_joined (.cons pe_str (.cons (pe_fmt (pv 1)) .nil))) pa_nil, pss_one (ps_ost (pv 0) (pv 1)), ?_⟩
    rcases hv.two with ⟨y, rfl, hy⟩ | ⟨i, rfl, hi, hd⟩
    · refine ⟨_, rfl, by decide +kernel, _, rfl, .inl ⟨y, rfl, big (by omega), y, rfl, big (Nat.le_trans (len_app (a := 100) (by decide +kernel) hy) (by decide)), (by show 1 ≤ 1000; decide), hx, ?_⟩⟩
      exact ⟨_, rfl, _, rfl, a, R.C, rfl, R.S.ox, R.no _ (by decide +kernel), .inl ⟨hx, fun dx nd ne => fin1 nd ne (q dx)⟩⟩
    · refine ⟨_, rfl, by decide +kernel, _, rfl, .inr ⟨i, rfl, hi, _, rfl, big (Nat.le_trans (len_app (a := 100) (by decide +kernel) hd) (by decide)), (by show 1 ≤ 1000; decide), hx, ?_⟩⟩
      exact ⟨_, rfl, _, rfl, a, R.C, rfl, R.S.ox, R.no _ (by decide +kernel), .inl ⟨hx, fun dx nd ne => fin1 nd ne (q dx)⟩⟩

theorem ok_law' (T : Tx PySem.Challenge.rw_quietsmith_k17_work_and_calls.prog K mg) {f : Addr} {fd : FuncData} (F : Fun K "law" "law" s_law f fd) : FnOk PySem.Challenge.rw_quietsmith_k17_work_and_calls.prog w K mg base CX0 18 f fd ["script"] (spLaw K) :=
  ok_law1 T (ok_BadProgram (w := w) (base := base) (by decide +kernel) T.z_super T.E_BadProgram) F
end
theorem all_mk {w : World} {K : PySem.W.Frag} {h : Heap} {mg : Str → Option Value} {fa : Addr} (X : K.In h) (G : h.Ns mainGlobals mg) (hfa : mg "law" = some (.ref fa))
    {cChecker : Addr}
    {f1 : Addr} {od1 an1 : Option Addr} {sl1 : Array (Option Value)} {oc1 kV1 dc1 pm1 cd1 ct1 : Value}
    {f2 : Addr} {od2 an2 : Option Addr} {sl2 : Array (Option Value)} {oc2 kV2 dc2 pm2 cd2 ct2 : Value}
    {f3 : Addr} {od3 an3 : Option Addr} {sl3 : Array (Option Value)} {oc3 kV3 dc3 pm3 cd3 ct3 : Value}
    {f4 : Addr} {od4 an4 : Option Addr} {sl4 : Array (Option Value)} {oc4 kV4 dc4 pm4 cd4 ct4 : Value}
    {f5 : Addr} {od5 an5 : Option Addr} {sl5 : Array (Option Value)} {oc5 kV5 dc5 pm5 cd5 ct5 : Value}
    {f6 : Addr} {od6 an6 : Option Addr} {sl6 : Array (Option Value)} {oc6 kV6 dc6 pm6 cd6 ct6 : Value}
    {f7 : Addr} {od7 an7 : Option Addr} {sl7 : Array (Option Value)} {oc7 kV7 dc7 pm7 cd7 ct7 : Value}
    {f8 : Addr} {od8 an8 : Option Addr} {sl8 : Array (Option Value)} {oc8 kV8 dc8 pm8 cd8 ct8 : Value}
    {f9 : Addr} {od9 an9 : Option Addr} {sl9 : Array (Option Value)} {oc9 kV9 dc9 pm9 cd9 ct9 : Value}
    {f10 : Addr} {od10 an10 : Option Addr} {sl10 : Array (Option Value)} {oc10 kV10 dc10 pm10 cd10 ct10 : Value}
    {f11 : Addr} {od11 an11 : Option Addr} {sl11 : Array (Option Value)} {oc11 kV11 dc11 pm11 cd11 ct11 : Value}
    {f12 : Addr} {od12 an12 : Option Addr} {sl12 : Array (Option Value)} {oc12 kV12 dc12 pm12 cd12 ct12 : Value}
    {f13 : Addr} {od13 an13 : Option Addr} {sl13 : Array (Option Value)} {oc13 kV13 dc13 pm13 cd13 ct13 : Value}
    {f14 : Addr} {od14 an14 : Option Addr} {sl14 : Array (Option Value)} {oc14 kV14 dc14 pm14 cd14 ct14 : Value}
    {f15 : Addr} {od15 an15 : Option Addr} {sl15 : Array (Option Value)} {oc15 kV15 dc15 pm15 cd15 ct15 : Value}
    {f16 : Addr} {od16 an16 : Option Addr} {sl16 : Array (Option Value)} {oc16 kV16 dc16 pm16 cd16 ct16 : Value}
    {f17 : Addr} {od17 an17 : Option Addr} {sl17 : Array (Option Value)} {oc17 kV17 dc17 pm17 cd17 ct17 : Value}
    {f18 : Addr} {od18 an18 : Option Addr} {sl18 : Array (Option Value)} {oc18 kV18 dc18 pm18 cd18 ct18 : Value}
    {f19 : Addr} {od19 an19 : Option Addr} {sl19 : Array (Option Value)} {oc19 kV19 dc19 pm19 cd19 ct19 : Value}
    {f20 : Addr} {od20 an20 : Option Addr} {sl20 : Array (Option Value)} {oc20 kV20 dc20 pm20 cd20 ct20 : Value}
    {f21 : Addr} {od21 an21 : Option Addr} {sl21 : Array (Option Value)} {oc21 kV21 dc21 pm21 cd21 ct21 : Value}
    {f22 : Addr} {od22 an22 : Option Addr} {sl22 : Array (Option Value)} {oc22 kV22 dc22 pm22 cd22 ct22 : Value}
    {t_MOST_WORK : Tok}
    {cQ : Addr}
    {CBadProgram fBadProgram cdBadProgram ccBadProgram : Addr} {nmBadProgram qqBadProgram : Str} {NBadProgram : Addr} {bsBadProgram subBadProgram : List Value} {snBadProgram : List Str} {abBadProgram : Bool} {colBadProgram : Option Bool} {ddBadProgram odBadProgram anBadProgram cddBadProgram cldBadProgram : Option Addr} {m0BadProgram m1BadProgram m2BadProgram m3BadProgram m5BadProgram : Option Value} {ocBadProgram kVBadProgram dcBadProgram pmBadProgram ctBadProgram clBadProgram cmBadProgram : Value} {slBadProgram ccsBadProgram cslBadProgram : Array (Option Value)} {vsBadProgram : Array Value} {fileBadProgram : Str} {tfBadProgram : Tok}
    (gChecker : PySem.W.nsIn K mainGlobals "Checker" = some (some (.ref cChecker))) (pgChecker : PySem.W.plainGet K cChecker Str.empty = true) (hdChecker : PySem.W.hasDictIn K cChecker = true) (poChecker : PySem.W.plainOver K cChecker = true) (saChecker : PySem.W.findIn K (.ref cChecker) "__setattr__" = some (some (.builtin "object.__setattr__"))) (mkChecker : PySem.W.makesIn K cChecker = true) (kcChecker : PySem.W.keepIn K (.ref cChecker) = true)
    (nf_Checker_known : PySem.W.findIn K (.ref cChecker) "known" = some none)
    (nf_Checker_turning : PySem.W.findIn K (.ref cChecker) "turning" = some none)
    (nf_Checker_before : PySem.W.findIn K (.ref cChecker) "before" = some none)
    (a1 : PySem.W.nsIn K mainGlobals "work_of_body" = some (some (.ref f1))) (l1 : K.lookup f1 = some ⟨oc1, od1, .func (PySem.W.fnOf "work_of_body" "work_of_body" (defArgs s_work_of_body) (defBody s_work_of_body) (defScope s_work_of_body) .none kV1 dc1 pm1 an1 cd1 ct1), sl1⟩) (c1 : PySem.W.codeIn K cd1 "work_of_body" = true) (k1 : PySem.W.keepIn K (.ref f1) = true)
    (a2 : PySem.W.nsIn K mainGlobals "work_of_statement" = some (some (.ref f2))) (l2 : K.lookup f2 = some ⟨oc2, od2, .func (PySem.W.fnOf "work_of_statement" "work_of_statement" (defArgs s_work_of_statement) (defBody s_work_of_statement) (defScope s_work_of_statement) .none kV2 dc2 pm2 an2 cd2 ct2), sl2⟩) (c2 : PySem.W.codeIn K cd2 "work_of_statement" = true) (k2 : PySem.W.keepIn K (.ref f2) = true)
    (a3 : PySem.W.nsIn K mainGlobals "check_program" = some (some (.ref f3))) (l3 : K.lookup f3 = some ⟨oc3, od3, .func (PySem.W.fnOf "check_program" "check_program" (defArgs s_check_program) (defBody s_check_program) (defScope s_check_program) .none kV3 dc3 pm3 an3 cd3 ct3), sl3⟩) (c3 : PySem.W.codeIn K cd3 "check_program" = true) (k3 : PySem.W.keepIn K (.ref f3) = true)
    (a4 : PySem.W.nsIn K mainGlobals "need_range" = some (some (.ref f4))) (l4 : K.lookup f4 = some ⟨oc4, od4, .func (PySem.W.fnOf "need_range" "need_range" (defArgs s_need_range) (defBody s_need_range) (defScope s_need_range) .none kV4 dc4 pm4 an4 cd4 ct4), sl4⟩) (c4 : PySem.W.codeIn K cd4 "need_range" = true) (k4 : PySem.W.keepIn K (.ref f4) = true)
    (a5 : PySem.W.nsIn K mainGlobals "need_fit" = some (some (.ref f5))) (l5 : K.lookup f5 = some ⟨oc5, od5, .func (PySem.W.fnOf "need_fit" "need_fit" (defArgs s_need_fit) (defBody s_need_fit) (defScope s_need_fit) .none kV5 dc5 pm5 an5 cd5 ct5), sl5⟩) (c5 : PySem.W.codeIn K cd5 "need_fit" = true) (k5 : PySem.W.keepIn K (.ref f5) = true)
    (a6 : PySem.W.findIn K (.ref cChecker) "__init__" = some (some (.ref f6))) (l6 : K.lookup f6 = some ⟨oc6, od6, .func (PySem.W.fnOf "__init__" "Checker.__init__" (defArgs s_Checker_init) (defBody s_Checker_init) (defScope s_Checker_init) .none kV6 dc6 pm6 an6 cd6 ct6), sl6⟩) (c6 : PySem.W.codeIn K cd6 "Checker.__init__" = true) (k6 : PySem.W.keepIn K (.ref f6) = true)
    (i6 : PySem.W.isFn K (.ref f6) = true)
    (a7 : PySem.W.findIn K (.ref cChecker) "body" = some (some (.ref f7))) (l7 : K.lookup f7 = some ⟨oc7, od7, .func (PySem.W.fnOf "body" "Checker.body" (defArgs s_Checker_body) (defBody s_Checker_body) (defScope s_Checker_body) .none kV7 dc7 pm7 an7 cd7 ct7), sl7⟩) (c7 : PySem.W.codeIn K cd7 "Checker.body" = true) (k7 : PySem.W.keepIn K (.ref f7) = true)
    (i7 : PySem.W.isFn K (.ref f7) = true)
    (a8 : PySem.W.findIn K (.ref cChecker) "statement" = some (some (.ref f8))) (l8 : K.lookup f8 = some ⟨oc8, od8, .func (PySem.W.fnOf "statement" "Checker.statement" (defArgs s_Checker_statement) (defBody s_Checker_statement) (defScope s_Checker_statement) .none kV8 dc8 pm8 an8 cd8 ct8), sl8⟩) (c8 : PySem.W.codeIn K cd8 "Checker.statement" = true) (k8 : PySem.W.keepIn K (.ref f8) = true)
    (i8 : PySem.W.isFn K (.ref f8) = true)
    (a9 : PySem.W.findIn K (.ref cChecker) "loop" = some (some (.ref f9))) (l9 : K.lookup f9 = some ⟨oc9, od9, .func (PySem.W.fnOf "loop" "Checker.loop" (defArgs s_Checker_loop) (defBody s_Checker_loop) (defScope s_Checker_loop) .none kV9 dc9 pm9 an9 cd9 ct9), sl9⟩) (c9 : PySem.W.codeIn K cd9 "Checker.loop" = true) (k9 : PySem.W.keepIn K (.ref f9) = true)
    (i9 : PySem.W.isFn K (.ref f9) = true)
    (a10 : PySem.W.findIn K (.ref cChecker) "call" = some (some (.ref f10))) (l10 : K.lookup f10 = some ⟨oc10, od10, .func (PySem.W.fnOf "call" "Checker.call" (defArgs s_Checker_call) (defBody s_Checker_call) (defScope s_Checker_call) .none kV10 dc10 pm10 an10 cd10 ct10), sl10⟩) (c10 : PySem.W.codeIn K cd10 "Checker.call" = true) (k10 : PySem.W.keepIn K (.ref f10) = true)
    (i10 : PySem.W.isFn K (.ref f10) = true)
    (a11 : PySem.W.findIn K (.ref cChecker) "argument" = some (some (.ref f11))) (l11 : K.lookup f11 = some ⟨oc11, od11, .func (PySem.W.fnOf "argument" "Checker.argument" (defArgs s_Checker_argument) (defBody s_Checker_argument) (defScope s_Checker_argument) .none kV11 dc11 pm11 an11 cd11 ct11), sl11⟩) (c11 : PySem.W.codeIn K cd11 "Checker.argument" = true) (k11 : PySem.W.keepIn K (.ref f11) = true)
    (i11 : PySem.W.isFn K (.ref f11) = true)
    (a12 : PySem.W.findIn K (.ref cChecker) "variable" = some (some (.ref f12))) (l12 : K.lookup f12 = some ⟨oc12, od12, .func (PySem.W.fnOf "variable" "Checker.variable" (defArgs s_Checker_variable) (defBody s_Checker_variable) (defScope s_Checker_variable) .none kV12 dc12 pm12 an12 cd12 ct12), sl12⟩) (c12 : PySem.W.codeIn K cd12 "Checker.variable" = true) (k12 : PySem.W.keepIn K (.ref f12) = true)
    (i12 : PySem.W.isFn K (.ref f12) = true)
    (a13 : PySem.W.findIn K (.ref cChecker) "sized" = some (some (.ref f13))) (l13 : K.lookup f13 = some ⟨oc13, od13, .func (PySem.W.fnOf "sized" "Checker.sized" (defArgs s_Checker_sized) (defBody s_Checker_sized) (defScope s_Checker_sized) .none kV13 dc13 pm13 an13 cd13 ct13), sl13⟩) (c13 : PySem.W.codeIn K cd13 "Checker.sized" = true) (k13 : PySem.W.keepIn K (.ref f13) = true)
    (i13 : PySem.W.isFn K (.ref f13) = true)
    (a14 : PySem.W.findIn K (.ref cChecker) "changed" = some (some (.ref f14))) (l14 : K.lookup f14 = some ⟨oc14, od14, .func (PySem.W.fnOf "changed" "Checker.changed" (defArgs s_Checker_changed) (defBody s_Checker_changed) (defScope s_Checker_changed) .none kV14 dc14 pm14 an14 cd14 ct14), sl14⟩) (c14 : PySem.W.codeIn K cd14 "Checker.changed" = true) (k14 : PySem.W.keepIn K (.ref f14) = true)
    (i14 : PySem.W.isFn K (.ref f14) = true)
    (a15 : PySem.W.findIn K (.ref cChecker) "expression" = some (some (.ref f15))) (l15 : K.lookup f15 = some ⟨oc15, od15, .func (PySem.W.fnOf "expression" "Checker.expression" (defArgs s_Checker_expression) (defBody s_Checker_expression) (defScope s_Checker_expression) .none kV15 dc15 pm15 an15 cd15 ct15), sl15⟩) (c15 : PySem.W.codeIn K cd15 "Checker.expression" = true) (k15 : PySem.W.keepIn K (.ref f15) = true)
    (i15 : PySem.W.isFn K (.ref f15) = true)
    (a16 : PySem.W.nsIn K mainGlobals "_law_draws" = some (some (.ref f16))) (l16 : K.lookup f16 = some ⟨oc16, od16, .func (PySem.W.fnOf "_law_draws" "_law_draws" (defArgs s_law_draws) (defBody s_law_draws) (defScope s_law_draws) .none kV16 dc16 pm16 an16 cd16 ct16), sl16⟩) (c16 : PySem.W.codeIn K cd16 "_law_draws" = true) (k16 : PySem.W.keepIn K (.ref f16) = true)
    (a17 : PySem.W.nsIn K mainGlobals "_law_next" = some (some (.ref f17))) (l17 : K.lookup f17 = some ⟨oc17, od17, .func (PySem.W.fnOf "_law_next" "_law_next" (defArgs s_law_next) (defBody s_law_next) (defScope s_law_next) .none kV17 dc17 pm17 an17 cd17 ct17), sl17⟩) (c17 : PySem.W.codeIn K cd17 "_law_next" = true) (k17 : PySem.W.keepIn K (.ref f17) = true)
    (a18 : PySem.W.nsIn K mainGlobals "_law_reason" = some (some (.ref f18))) (l18 : K.lookup f18 = some ⟨oc18, od18, .func (PySem.W.fnOf "_law_reason" "_law_reason" (defArgs s_law_reason) (defBody s_law_reason) (defScope s_law_reason) .none kV18 dc18 pm18 an18 cd18 ct18), sl18⟩) (c18 : PySem.W.codeIn K cd18 "_law_reason" = true) (k18 : PySem.W.keepIn K (.ref f18) = true)
    (a19 : PySem.W.nsIn K mainGlobals "_law_work" = some (some (.ref f19))) (l19 : K.lookup f19 = some ⟨oc19, od19, .func (PySem.W.fnOf "_law_work" "_law_work" (defArgs s_law_work) (defBody s_law_work) (defScope s_law_work) .none kV19 dc19 pm19 an19 cd19 ct19), sl19⟩) (c19 : PySem.W.codeIn K cd19 "_law_work" = true) (k19 : PySem.W.keepIn K (.ref f19) = true)
    (a20 : PySem.W.nsIn K mainGlobals "_law_body" = some (some (.ref f20))) (l20 : K.lookup f20 = some ⟨oc20, od20, .func (PySem.W.fnOf "_law_body" "_law_body" (defArgs s_law_body) (defBody s_law_body) (defScope s_law_body) .none kV20 dc20 pm20 an20 cd20 ct20), sl20⟩) (c20 : PySem.W.codeIn K cd20 "_law_body" = true) (k20 : PySem.W.keepIn K (.ref f20) = true)
    (a21 : PySem.W.nsIn K mainGlobals "_law_bad_calls" = some (some (.ref f21))) (l21 : K.lookup f21 = some ⟨oc21, od21, .func (PySem.W.fnOf "_law_bad_calls" "_law_bad_calls" (defArgs s_law_bad_calls) (defBody s_law_bad_calls) (defScope s_law_bad_calls) .none kV21 dc21 pm21 an21 cd21 ct21), sl21⟩) (c21 : PySem.W.codeIn K cd21 "_law_bad_calls" = true) (k21 : PySem.W.keepIn K (.ref f21) = true)
    (a22 : PySem.W.nsIn K mainGlobals "law" = some (some (.ref f22))) (l22 : K.lookup f22 = some ⟨oc22, od22, .func (PySem.W.fnOf "law" "law" (defArgs s_law) (defBody s_law) (defScope s_law) .none kV22 dc22 pm22 an22 cd22 ct22), sl22⟩) (c22 : PySem.W.codeIn K cd22 "law" = true) (k22 : PySem.W.keepIn K (.ref f22) = true)
    (g_MOST_WORK : PySem.W.nsIn K mainGlobals "MOST_WORK" = some (some (.int (20000) t_MOST_WORK)))
    (z_abs : PySem.W.nsIn K mainGlobals "abs" = some none)
    (z_int : PySem.W.nsIn K mainGlobals "int" = some none)
    (z_len : PySem.W.nsIn K mainGlobals "len" = some none)
    (z_max : PySem.W.nsIn K mainGlobals "max" = some none)
    (z_range : PySem.W.nsIn K mainGlobals "range" = some none)
    (z_sum : PySem.W.nsIn K mainGlobals "sum" = some none)
    (z_tuple : PySem.W.nsIn K mainGlobals "tuple" = some none)
    (z_zip : PySem.W.nsIn K mainGlobals "zip" = some none)
    (g_QuietError : PySem.W.nsIn K mainGlobals "QuietError" = some (some (.ref cQ)))
    (egBadProgram : PySem.W.nsIn K mainGlobals "BadProgram" = some (some (.ref CBadProgram))) (eiBadProgram : PySem.W.findIn K (.ref CBadProgram) "__init__" = some (some (.ref fBadProgram))) (eLBadProgram : K.lookup CBadProgram = some (excClassObj nmBadProgram qqBadProgram CBadProgram NBadProgram bsBadProgram [.ref cQ, .type "ValueError", .type "Exception", .type "BaseException", .type "object"] true snBadProgram subBadProgram abBadProgram colBadProgram ddBadProgram m0BadProgram m1BadProgram m2BadProgram m3BadProgram m5BadProgram "ValueError.__new__"))
    (eFBadProgram : K.lookup fBadProgram = some ⟨ocBadProgram, odBadProgram, .func (PySem.W.ksFn "__init__" "BadProgram.__init__" (defArgs i_BadProgram) (defBody i_BadProgram) (defScope i_BadProgram) .none kVBadProgram dcBadProgram pmBadProgram anBadProgram (.ref cdBadProgram) ctBadProgram ccBadProgram), slBadProgram⟩) (eCBadProgram : PySem.W.codeIn K (.ref cdBadProgram) "BadProgram.__init__" = true) (eDBadProgram : K.lookup cdBadProgram = some ⟨clBadProgram, cddBadProgram, .fields vsBadProgram, ccsBadProgram⟩) (eVBadProgram : vsBadProgram[2]? = some (.str fileBadProgram tfBadProgram)) (eMBadProgram : (PySem.Challenge.rw_quietsmith_k17_work_and_calls.prog.main.file == fileBadProgram) = true) (eEBadProgram : K.lookup ccBadProgram = some ⟨cmBadProgram, cldBadProgram, .cell (some (.ref CBadProgram)), cslBadProgram⟩)
    (eBBadProgram : errB K CBadProgram fBadProgram ["reason"] = true)
    (kitx_BadProgram : PySem.W.exmOne K (.ref CBadProgram) (.ref CBadProgram) = some true)
    (z_super : PySem.W.nsIn K mainGlobals "super" = some none)
    : ∃ fd : FuncData, (∀ (s : Shared) (v : Value), BindsTo s fd ⟨[v], []⟩ [("script", v)]) ∧ ∀ base : Heap, K.In base → base.Ns mainGlobals mg → FnOk PySem.Challenge.rw_quietsmith_k17_work_and_calls.prog w K mg base CX0 18 fa fd ["script"] (spLaw K) := by
  have e := hfa.symm.trans (PySem.W.mg_of X G a22)
  cases e
  have F1 := fun_mk (st := s_work_of_body) l1 c1 k1
  have b1 := F1.binds (ps := ["body", "works"]) fun _ _ _ _ _ _ us hl => match us, hl with | [_, _], _ => rfl
  have F2 := fun_mk (st := s_work_of_statement) l2 c2 k2
  have b2 := F2.binds (ps := ["statement", "works"]) fun _ _ _ _ _ _ us hl => match us, hl with | [_, _], _ => rfl
  have F3 := fun_mk (st := s_check_program) l3 c3 k3
  have b3 := F3.binds (ps := ["program"]) fun _ _ _ _ _ _ us hl => match us, hl with | [_], _ => rfl
  have F4 := fun_mk (st := s_need_range) l4 c4 k4
  have b4 := F4.binds (ps := ["most", "greatest"]) fun _ _ _ _ _ _ us hl => match us, hl with | [_, _], _ => rfl
  have F5 := fun_mk (st := s_need_fit) l5 c5 k5
  have b5 := F5.binds (ps := ["rated", "variable"]) fun _ _ _ _ _ _ us hl => match us, hl with | [_, _], _ => rfl
  have F6 := fun_mk (st := s_Checker_init) l6 c6 k6
  have b6 := F6.binds (ps := ["self", "variables", "before"]) fun _ _ _ _ _ _ us hl => match us, hl with | [_, _, _], _ => rfl
  have F7 := fun_mk (st := s_Checker_body) l7 c7 k7
  have b7 := F7.binds (ps := ["self", "body"]) fun _ _ _ _ _ _ us hl => match us, hl with | [_, _], _ => rfl
  have F8 := fun_mk (st := s_Checker_statement) l8 c8 k8
  have b8 := F8.binds (ps := ["self", "statement"]) fun _ _ _ _ _ _ us hl => match us, hl with | [_, _], _ => rfl
  have F9 := fun_mk (st := s_Checker_loop) l9 c9 k9
  have b9 := F9.binds (ps := ["self", "statement"]) fun _ _ _ _ _ _ us hl => match us, hl with | [_, _], _ => rfl
  have F10 := fun_mk (st := s_Checker_call) l10 c10 k10
  have b10 := F10.binds (ps := ["self", "statement"]) fun _ _ _ _ _ _ us hl => match us, hl with | [_, _], _ => rfl
  have F11 := fun_mk (st := s_Checker_argument) l11 c11 k11
  have b11 := F11.binds (ps := ["self", "argument", "param"]) fun _ _ _ _ _ _ us hl => match us, hl with | [_, _, _], _ => rfl
  have F12 := fun_mk (st := s_Checker_variable) l12 c12 k12
  have b12 := F12.binds (ps := ["self", "name"]) fun _ _ _ _ _ _ us hl => match us, hl with | [_, _], _ => rfl
  have F13 := fun_mk (st := s_Checker_sized) l13 c13 k13
  have b13 := F13.binds (ps := ["self", "name", "size"]) fun _ _ _ _ _ _ us hl => match us, hl with | [_, _, _], _ => rfl
  have F14 := fun_mk (st := s_Checker_changed) l14 c14 k14
  have b14 := F14.binds (ps := ["self", "name", "size"]) fun _ _ _ _ _ _ us hl => match us, hl with | [_, _, _], _ => rfl
  have F15 := fun_mk (st := s_Checker_expression) l15 c15 k15
  have b15 := F15.binds (ps := ["self", "expression"]) fun _ _ _ _ _ _ us hl => match us, hl with | [_, _], _ => rfl
  have F16 := fun_mk (st := s_law_draws) l16 c16 k16
  have b16 := F16.binds (ps := ["script", "start", "most"]) fun _ _ _ _ _ _ us hl => match us, hl with | [_, _, _], _ => rfl
  have F17 := fun_mk (st := s_law_next) l17 c17 k17
  have b17 := F17.binds (ps := ["draws"]) fun _ _ _ _ _ _ us hl => match us, hl with | [_], _ => rfl
  have F18 := fun_mk (st := s_law_reason) l18 c18 k18
  have b18 := F18.binds (ps := ["program"]) fun _ _ _ _ _ _ us hl => match us, hl with | [_], _ => rfl
  have F19 := fun_mk (st := s_law_work) l19 c19 k19
  have b19 := F19.binds (ps := ["body", "known"]) fun _ _ _ _ _ _ us hl => match us, hl with | [_, _], _ => rfl
  have F20 := fun_mk (st := s_law_body) l20 c20 k20
  have b20 := F20.binds (ps := ["draws", "calls", "depth"]) fun _ _ _ _ _ _ us hl => match us, hl with | [_, _, _], _ => rfl
  have F21 := fun_mk (st := s_law_bad_calls) l21 c21 k21
  have b21 := F21.binds (ps := []) fun _ _ _ _ _ _ us hl => match us, hl with | [], _ => rfl
  have F22 := fun_mk (st := s_law) l22 c22 k22
  have b22 := F22.binds (ps := ["script"]) fun _ _ _ _ _ _ us hl => match us, hl with | [_], _ => rfl
  have FSBadProgram : FunS PySem.Challenge.rw_quietsmith_k17_work_and_calls.prog K "__init__" "BadProgram.__init__" i_BadProgram CBadProgram fBadProgram _ := ⟨_, _, _, _, _, _, _, _, _, _, _, _, _, _, _, _, _, _, _, rfl, eFBadProgram, eCBadProgram, eDBadProgram, eVBadProgram, eMBadProgram, eEBadProgram⟩
  have bSBadProgram := FSBadProgram.binds (ps := ["self", "reason"]) fun _ _ _ _ _ _ _ us hl => match us, hl with | [_, _], _ => rfl
  obtain ⟨⟨EBadProgram, hEBadProgram⟩⟩ := err_of (x := "BadProgram") FSBadProgram bSBadProgram (PySem.W.mg_of X G egBadProgram) ⟨_, _, _, _, _, _, _, _, _, _, _, _, _, _, _, eLBadProgram, by rfl⟩ eiBadProgram eBBadProgram
  let T : Tx PySem.Challenge.rw_quietsmith_k17_work_and_calls.prog K mg := ⟨EBadProgram, _, PySem.W.mg_of X G g_QuietError, (by rw [hEBadProgram]; exact kitx_BadProgram), _, PySem.W.mg_of X G gChecker, ⟨pgChecker, hdChecker, poChecker, saChecker⟩, nf_Checker_known, nf_Checker_turning, nf_Checker_before, _, _, F1, b1, PySem.W.mg_of X G a1, _, _, F2, b2, PySem.W.mg_of X G a2, _, _, F3, b3, PySem.W.mg_of X G a3, _, _, F4, b4, PySem.W.mg_of X G a4, _, _, F5, b5, PySem.W.mg_of X G a5, _, _, F6, b6, ⟨mkChecker, a6, i6, kcChecker⟩, _, _, F7, b7, ⟨a7, i7, k7⟩, _, _, F8, b8, ⟨a8, i8, k8⟩, _, _, F9, b9, ⟨a9, i9, k9⟩, _, _, F10, b10, ⟨a10, i10, k10⟩, _, _, F11, b11, ⟨a11, i11, k11⟩, _, _, F12, b12, ⟨a12, i12, k12⟩, _, _, F13, b13, ⟨a13, i13, k13⟩, _, _, F14, b14, ⟨a14, i14, k14⟩, _, _, F15, b15, ⟨a15, i15, k15⟩, _, _, F16, b16, PySem.W.mg_of X G a16, _, _, F17, b17, PySem.W.mg_of X G a17, _, _, F18, b18, PySem.W.mg_of X G a18, _, _, F19, b19, PySem.W.mg_of X G a19, _, _, F20, b20, PySem.W.mg_of X G a20, _, _, F21, b21, PySem.W.mg_of X G a21, _, _, F22, b22, PySem.W.mg_of X G a22, _, PySem.W.mg_of X G g_MOST_WORK, ⟨_, rfl⟩, PySem.W.mg_none_of X G z_abs, PySem.W.mg_none_of X G z_int, PySem.W.mg_none_of X G z_len, PySem.W.mg_none_of X G z_max, PySem.W.mg_none_of X G z_range, PySem.W.mg_none_of X G z_sum, PySem.W.mg_none_of X G z_tuple, PySem.W.mg_none_of X G z_zip, PySem.W.mg_none_of X G z_super⟩
  exact ⟨PySem.W.fnOf "law" "law" (defArgs s_law) (defBody s_law) (defScope s_law) .none kV22 dc22 pm22 an22 cd22 ct22, fun s v => .of_eq rfl, fun base _ _ => ok_law' T F22⟩
end K17
open PySem PySem.W PyProof.Rows
set_option maxHeartbeats 0 in
theorem PySem.Challenge.cw_quietsmith_k17_work_and_calls_holds : PySem.Challenge.rw_quietsmith_k17_work_and_calls.Holds := by
  w_on; o_law; k_head; (case hw => w_witness2)
  k_fill
  refine L2.walk_of (l := PySem.Challenge.rw_quietsmith_k17_work_and_calls) (n := 63) (k := 18) (x := "script") (CX := fun _ => L2.CX0) (sp := fun w => K17.spLaw _) rfl (by decide) rfl ⟨rfl, by decide, by decide⟩ (fun w h Y => PySem.W.kIn_of Y) ?F (fun _ _ a ns hl _ hS => ⟨a, ns, rfl, hS, hl, fun _ => rfl⟩) (fun _ _ _ _ _ h => h)
  case F =>
    intro w mg fa h KX G hmg
    refine' K17.all_mk KX G hmg ?gChecker ?pgChecker ?hdChecker ?poChecker ?saChecker ?mkChecker ?kcChecker ?nf_Checker_known ?nf_Checker_turning ?nf_Checker_before ?a1 ?l1 ?c1 ?k1 ?a2 ?l2 ?c2 ?k2 ?a3 ?l3 ?c3 ?k3 ?a4 ?l4 ?c4 ?k4 ?a5 ?l5 ?c5 ?k5 ?a6 ?l6 ?c6 ?k6 ?i6 ?a7 ?l7 ?c7 ?k7 ?i7 ?a8 ?l8 ?c8 ?k8 ?i8 ?a9 ?l9 ?c9 ?k9 ?i9 ?a10 ?l10 ?c10 ?k10 ?i10 ?a11 ?l11 ?c11 ?k11 ?i11 ?a12 ?l12 ?c12 ?k12 ?i12 ?a13 ?l13 ?c13 ?k13 ?i13 ?a14 ?l14 ?c14 ?k14 ?i14 ?a15 ?l15 ?c15 ?k15 ?i15 ?a16 ?l16 ?c16 ?k16 ?a17 ?l17 ?c17 ?k17 ?a18 ?l18 ?c18 ?k18 ?a19 ?l19 ?c19 ?k19 ?a20 ?l20 ?c20 ?k20 ?a21 ?l21 ?c21 ?k21 ?a22 ?l22 ?c22 ?k22 ?g_MOST_WORK ?z_abs ?z_int ?z_len ?z_max ?z_range ?z_sum ?z_tuple ?z_zip ?g_QuietError ?egBadProgram ?eiBadProgram ?eLBadProgram ?eFBadProgram ?eCBadProgram ?eDBadProgram ?eVBadProgram ?eMBadProgram ?eEBadProgram ?eBBadProgram ?kitx_BadProgram ?z_super
    (case gChecker => k_is)
    (case pgChecker => k_is)
    (case hdChecker => k_is)
    (case poChecker => k_is)
    (case saChecker => k_is)
    (case mkChecker => k_is)
    (case kcChecker => k_is)
    (case nf_Checker_known => k_is)
    (case nf_Checker_turning => k_is)
    (case nf_Checker_before => k_is)
    (case a1 => k_is)
    (case l1 => k_is)
    (case c1 => k_is)
    (case k1 => k_is)
    (case a2 => k_is)
    (case l2 => k_is)
    (case c2 => k_is)
    (case k2 => k_is)
    (case a3 => k_is)
    (case l3 => k_is)
    (case c3 => k_is)
    (case k3 => k_is)
    (case a4 => k_is)
    (case l4 => k_is)
    (case c4 => k_is)
    (case k4 => k_is)
    (case a5 => k_is)
    (case l5 => k_is)
    (case c5 => k_is)
    (case k5 => k_is)
    (case a6 => k_is)
    (case l6 => k_is)
    (case c6 => k_is)
    (case k6 => k_is)
    (case i6 => k_is)
    (case a7 => k_is)
    (case l7 => k_is)
    (case c7 => k_is)
    (case k7 => k_is)
    (case i7 => k_is)
    (case a8 => k_is)
    (case l8 => k_is)
    (case c8 => k_is)
    (case k8 => k_is)
    (case i8 => k_is)
    (case a9 => k_is)
    (case l9 => k_is)
    (case c9 => k_is)
    (case k9 => k_is)
    (case i9 => k_is)
    (case a10 => k_is)
    (case l10 => k_is)
    (case c10 => k_is)
    (case k10 => k_is)
    (case i10 => k_is)
    (case a11 => k_is)
    (case l11 => k_is)
    (case c11 => k_is)
    (case k11 => k_is)
    (case i11 => k_is)
    (case a12 => k_is)
    (case l12 => k_is)
    (case c12 => k_is)
    (case k12 => k_is)
    (case i12 => k_is)
    (case a13 => k_is)
    (case l13 => k_is)
    (case c13 => k_is)
    (case k13 => k_is)
    (case i13 => k_is)
    (case a14 => k_is)
    (case l14 => k_is)
    (case c14 => k_is)
    (case k14 => k_is)
    (case i14 => k_is)
    (case a15 => k_is)
    (case l15 => k_is)
    (case c15 => k_is)
    (case k15 => k_is)
    (case i15 => k_is)
    (case a16 => k_is)
    (case l16 => k_is)
    (case c16 => k_is)
    (case k16 => k_is)
    (case a17 => k_is)
    (case l17 => k_is)
    (case c17 => k_is)
    (case k17 => k_is)
    (case a18 => k_is)
    (case l18 => k_is)
    (case c18 => k_is)
    (case k18 => k_is)
    (case a19 => k_is)
    (case l19 => k_is)
    (case c19 => k_is)
    (case k19 => k_is)
    (case a20 => k_is)
    (case l20 => k_is)
    (case c20 => k_is)
    (case k20 => k_is)
    (case a21 => k_is)
    (case l21 => k_is)
    (case c21 => k_is)
    (case k21 => k_is)
    (case a22 => k_is)
    (case l22 => k_is)
    (case c22 => k_is)
    (case k22 => k_is)
    (case g_MOST_WORK => k_is)
    (case z_abs => k_is)
    (case z_int => k_is)
    (case z_len => k_is)
    (case z_max => k_is)
    (case z_range => k_is)
    (case z_sum => k_is)
    (case z_tuple => k_is)
    (case z_zip => k_is)
    (case g_QuietError => k_is)
    (case egBadProgram => k_is)
    (case eiBadProgram => k_is)
    (case eLBadProgram => k_is)
    (case eFBadProgram => k_is)
    (case eCBadProgram => k_is)
    (case eDBadProgram => k_is)
    (case eVBadProgram => rfl)
    (case eMBadProgram => first | rfl | kernel_rfl)
    (case eEBadProgram => k_is)
    (case eBBadProgram => kernel_rfl)
    (case kitx_BadProgram => kernel_rfl)
    (case z_super => k_is)

