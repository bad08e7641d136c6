import PyProof.Rows.All
import Wide.All
import OpenK.AllK
import Wide.FinOn
import KE.KExcSuper
import HandS.ForMost
import HandS.ForExc
import HandS.ExcInit
import KE.KIsAll
import KE.KTryMore
import KE.GoesEnum
import HandS.IsInst
import HandS.ExcIs
import HandS.ExcField
import KE.KExcIs
import KE.KRevSl
import HandS.Style
import HandS.FStr
import HandS.Conv
import HandS.SortRule
import HandS.SetFor
import HandS.Wide
import HandS.More
import KE.KSortedM
import HandS.Walk
import HandS.SortInts
import PySem.Challenge.RW_unseenprices_k03_counts_of_three_kinds
set_option Elab.async false
set_option linter.all false
set_option maxRecDepth 100000
set_option maxHeartbeats 4000000
/-! super().__init__(..) as a statement of an __init__ whose def closes over the class's cell: of an own class, and of an own exception over ValueError. -/
namespace Sup
open PySem PySem.Spec PyProof.Rows L2

/-! ### the frame of such a def -/
abbrev cellsS (L : Addr) (scope : Scope) (cc : Addr) : List (Str × Addr) := cellsFrom (L + 1) scope.names [(("__class__" : Str), cc)]
abbrev envS (name : Str) (scope : Scope) (L a : Addr) (cd : Value) (cc : Addr) : Env := PySem.W.envX name scope L a cd (cellsS L scope cc)

structure InS (s₀ : Shared) (env : Env) (m cm : Str → Option Value) (s : Shared) : Prop where
  same : ∃ h tk, s = { s₀ with heap := h, toks := tk }
  ns : s.heap.Ns env.locals m
  keep : ∀ b o, s₀.heap.get? b = some o → s.heap.get? b = some o
  cell : ∀ n c, env.kindOf n = some .cell → env.cells.lookup n = some c → s.heap.IsCell c (cm n)
structure EnvOk (s₀ : Shared) (env : Env) : Prop where
  kind : env.scope.kind = .function
  fresh : s₀.heap.objs.size ≤ env.locals
  inj : ∀ x y c, env.cells.lookup x = some c → env.cells.lookup y = some c → x = y
  above : ∀ n c, env.kindOf n = some .cell → env.cells.lookup n = some c → env.locals < c

section
variable {M : Model} {A : Around} {E : Value → Shared → Prop} {s₀ s : Shared} {env : Env} {m cm : Str → Option Value}
theorem putLocal {n : Str} {v : Value} {Q : Unit → Shared → Prop} (O : EnvOk s₀ env) (x : InS s₀ env m cm s) (hl : env.kindOf n = some .local)
    (h : ∀ s', InS s₀ env (fun y => if y = n then some v else m y) cm s' → Q () s') : wpAny M A (storeName env n v) Q E s := by
  have hfun := O.kind
  refine wpAny_storeName_local hl x.ns (fun h' hn hs => h _ ?_) (by rw [hfun]; rfl)
  refine { same := ?_, ns := hn, keep := fun b o e => ?_, cell := fun k c hk hc => ?_ }
  · obtain ⟨h1, t1, rfl⟩ := x.same
    exact ⟨h', _, rfl⟩
  · have hb : b ≠ env.locals := Nat.ne_of_lt (Nat.lt_of_lt_of_le (Heap.lt_size e) O.fresh)
    exact hs.extBut b o hb (x.keep b o e)
  · exact (x.cell k c hk hc).sameBut hs (Nat.ne_of_gt (O.above k c hk hc))
theorem putCell {n : Str} {c : Addr} {v : Value} {Q : Unit → Shared → Prop} (O : EnvOk s₀ env) (x : InS s₀ env m cm s) (hl : env.kindOf n = some .cell) (hc : env.cells.lookup n = some c)
    (h : ∀ s', InS s₀ env m (fun y => if y = n then some v else cm y) s' → Q () s') : wpAny M A (storeName env n v) Q E s := by
  have hab := O.above n c hl hc
  refine wpAny_storeName_cell O.kind hl hc (x.cell n c hl hc) fun h' hc' hs => h _ ?_
  refine { same := ?_, ns := x.ns.sameBut hs (Nat.ne_of_lt hab), keep := fun b o e => ?_, cell := fun k d hk hd => ?_ }
  · obtain ⟨h1, t1, rfl⟩ := x.same
    exact ⟨h', t1, rfl⟩
  · have hb : b ≠ c := Nat.ne_of_lt (Nat.lt_trans (Nat.lt_of_lt_of_le (Heap.lt_size e) O.fresh) hab)
    exact hs.extBut b o hb (x.keep b o e)
  · by_cases q : k = n
    · subst q
      have e : d = c := Option.some.inj (hd.symm.trans hc)
      subst e
      simpa using hc'
    · rw [if_neg q]
      refine (x.cell k d hk hd).sameBut hs fun e => q ?_
      subst e
      exact O.inj k n d hd hc
theorem bindAll (O : EnvOk s₀ env) (f : Str × Value → PUnit → Sem (ForInStep PUnit)) (hf : ∀ n v u, f (n, v) u = (do storeName env n v; pure (.yield ⟨⟩))) :
    ∀ (binds : List (Str × Value)) (m cm : Str → Option Value) (s : Shared) (Q : PUnit → Shared → Prop), InS s₀ env m cm s →
      (∀ y ∈ binds, env.kindOf y.1 = some .local ∨ (env.kindOf y.1 = some .cell ∧ ∃ c, env.cells.lookup y.1 = some c)) →
      (∀ s', InS s₀ env (bindL env.kindOf binds m) (bindC env.kindOf binds cm) s' → Q ⟨⟩ s') → wpAny M A (forIn binds ⟨⟩ f) Q E s := by
  intro binds
  induction binds with
  | nil =>
    intro m cm s Q x _ h
    rw [List.forIn_nil]
    exact wpAny_pure (h s x)
  | cons p r ih =>
    obtain ⟨n, v⟩ := p
    intro m cm s Q x hy h
    rw [List.forIn_cons, hf]
    have hr := fun y (z : y ∈ r) => hy y (List.mem_cons_of_mem _ z)
    rcases hy (n, v) List.mem_cons_self with hl | ⟨hl, c, hc⟩
    · refine wpAny_bind (wpAny_bind (putLocal O x hl fun s1 x1 => wpAny_pure ?_))
      refine ih _ _ s1 Q x1 hr fun s2 x2 => h s2 ?_
      unfold bindL bindC
      rw [if_pos hl, if_pos hl]
      exact x2
    · have hn : ¬ env.kindOf n = some .local := fun e => by
        rw [hl] at e
        cases e
      refine wpAny_bind (wpAny_bind (putCell O x hl hc fun s1 x1 => wpAny_pure ?_))
      refine ih _ _ s1 Q x1 hr fun s2 x2 => h s2 ?_
      unfold bindL bindC
      rw [if_neg hn, if_neg hn]
      exact x2
end

/-- the scope of such a def: parameters first among the names N; the class's cell alone is captured -/
structure ScopeS (N P : List Str) (sc : Scope) : Prop where
  kind : sc.kind = .function
  co : sc.isCoroutine = false
  gen : sc.isGenerator = false
  nd : N.Nodup
  pre : N.take P.length = P
  par : ∀ x ∈ P, sc.names.lookup x = some .local ∨ sc.names.lookup x = some .cell
  cls : sc.names.lookup ("__class__" : Str) = some .free
  free : ∀ y ∈ sc.names, y.2 = .free → y.1 = ("__class__" : Str)
  uniq : ∀ y ∈ sc.names, sc.names.lookup y.1 = some y.2

theorem cells_of_name {names : List (Str × NameKind)} {n : Nat} {acc : List (Str × Addr)} {x : Str} (h : names.lookup x = some .cell) : ∃ c, (cellsFrom n names acc).lookup x = some c := by
  obtain ⟨c, hc⟩ := cells_has (n := n) (acc := acc) (PySem.mem_of_lookup h)
  exact mem_lookup hc

section
variable {M : Model} {A : Around} {E : Value → Shared → Prop} {s : Shared}
theorem newEnvS {scope : Scope} {globals cc : Addr} {binds : List (Str × Value)} {qual : Str} {func : Option Addr} {code : Value} {builtins : Addr} {Q : Env → Shared → Prop}
    (hk : scope.kind = .function) (hcl : scope.names.lookup ("__class__" : Str) = some .free) (hcc : cc < s.heap.objs.size)
    (hb : ∀ y ∈ binds, scope.names.lookup y.1 = some .local ∨ scope.names.lookup y.1 = some .cell)
    (hQ : ∀ env, env = newEnv scope s.heap.objs.size globals (cellsS s.heap.objs.size scope cc) qual func code none builtins → EnvOk s env →
      ∀ s', InS s env (bindL env.kindOf binds fun _ => none) (bindC env.kindOf binds fun _ => none) s' → Q env s') :
    wpAny M A (newFunctionEnv scope globals [(("__class__" : Str), cc)] binds qual func code none builtins) Q E s := by
  simp only [newFunctionEnv, Option.isSome_none, Bool.false_eq_true, if_false]
  refine wpAny_bind (wpAny_alloc (wpAny_bind (wpAny_layCells _ (fun nm kd cs => by cases q : kd == NameKind.cell <;> simp [q]) _ _ _ _ ?_)))
  have sz : (s.heap.push { cls := .type "frame", data := .dict #[] }).objs.size = s.heap.objs.size + 1 := Heap.size_push ..
  rw [show ({ s with heap := s.heap.push { cls := .type "frame", data := .dict #[] } } : Shared).heap.objs.size = s.heap.objs.size + 1 from sz]
  have mem : ∀ {y : Str} {c : Addr}, (cellsS s.heap.objs.size scope cc).lookup y = some c → (y = ("__class__" : Str) ∧ c = cc) ∨
      (s.heap.objs.size + 1 ≤ c ∧ CellAt (pushCells (s.heap.push { cls := .type "frame", data := .dict #[] }) scope.names) c none) := fun {y c} e => by
    have e' := PySem.mem_of_lookup e
    unfold cellsS at e'
    rw [← sz] at e'
    rcases cells_mem e' with q | ⟨_, q2, q3⟩
    · simp only [List.mem_singleton, Prod.mk.injEq] at q
      exact .inl q
    · rw [sz] at q2
      exact .inr ⟨q2, q3⟩
  have O : EnvOk s (newEnv scope s.heap.objs.size globals (cellsS s.heap.objs.size scope cc) qual func code none builtins) := {
    kind := hk
    fresh := Nat.le_refl _
    inj := fun x y c a b => by
      have a' := PySem.mem_of_lookup (show (cellsS s.heap.objs.size scope cc).lookup x = some c from a)
      have b' := PySem.mem_of_lookup (show (cellsS s.heap.objs.size scope cc).lookup y = some c from b)
      unfold cellsS at a' b'
      rw [← sz] at a' b'
      refine cells_inj (fun p hp => ?_) (fun x y c a b => ?_) a' b'
      · simp only [List.mem_singleton] at hp
        subst hp
        rw [sz]
        exact Nat.lt_succ_of_lt hcc
      · simp only [List.mem_singleton, Prod.mk.injEq] at a b
        rw [a.1, b.1]
    above := fun n c k e => by
      rcases mem e with ⟨q, _⟩ | ⟨q, _⟩
      · have k' : scope.names.lookup n = some .cell := k
        rw [q, hcl] at k'
        cases k'
      · exact q }
  refine wpAny_bind (bindAll (s₀ := s) O _ (fun _ _ _ => rfl) binds (fun _ => none) (fun _ => none) _ _ ?_ (fun y hy => ?_) fun s' x => wpAny_pure (hQ _ rfl O s' x))
  · refine { same := ⟨_, _, rfl⟩, ns := ?_, keep := fun b o e => ?_, cell := fun n c k e => ?_ }
    · exact (Heap.Ns.new s.heap (.type "frame")).keeps (pushCells_keeps _ _)
    · exact pushCells_keeps _ _ b o (Heap.get?_push_of_some _ e)
    · rcases mem e with ⟨q, _⟩ | ⟨_, q⟩
      · have k' : scope.names.lookup n = some .cell := k
        rw [q, hcl] at k'
        cases k'
      · exact q
  · rcases hb y hy with q | q
    · exact .inl q
    · exact .inr ⟨q, cells_of_name q⟩
end

/-! ### the context of its body -/
def cxS (CX : CXT) (P : Program) (w : World) (K : PySem.W.Frag) (mg : Str → Option Value) (base : Heap) (N : List Str) (qual : Str) (scope : Scope) (f : Addr) (cd : Value) (cc : Addr) (A : Around) (outer : List Env) (s : Shared) (H : Hp) (E : XK) : Cx :=
  { prog := P, w := w, K := K, mg := mg, base := base, A := A.deeper (envS qual scope s.heap.objs.size f cd cc), N := N, s_0 := s, H_0 := H,
    env := envS qual scope s.heap.objs.size f cd cc, outer := outer, stack := envS qual scope s.heap.objs.size f cd cc :: outer, ex := [], calm := true,
    fn := fun x => scope.names.lookup x == some .cell, pn := [],
    xe := fun e s' => wpAny (model P w) (A.deeper (envS qual scope s.heap.objs.size f cd cc)) (leaving (envS qual scope s.heap.objs.size f cd cc) e) (fun _ s'' => CX outer H s E e s'') (fun e' s'' => CX outer H s E e' s'') s' }

theorem startS {CX : CXT} {P : Program} {w : World} {K : PySem.W.Frag} {mg : Str → Option Value} {base : Heap} {N ps : List Str} {qual : Str} {scope : Scope} {f : Addr} {cd : Value} {cc : Addr} {A : Around} {outer : List Env} {s s1 : Shared} {H : Hp} {E : XK} {us : List Value} {vs : List V}
    (S : ScopeS N ps scope) (hd : A.handled = none) (e0 : Env0 P w K mg base A outer s H) (hl : vs.length = ps.length) (r : Vals vs us) {D : Value} (hcell : s.heap.IsCell cc (some D)) (hcH : H cc = none)
    (O : EnvOk s (envS qual scope s.heap.objs.size f cd cc))
    (x : InS s (envS qual scope s.heap.objs.size f cd cc) (bindL (envS qual scope s.heap.objs.size f cd cc).kindOf (ps.zip us) fun _ => none) (bindC (envS qual scope s.heap.objs.size f cd cc).kindOf (ps.zip us) fun _ => none) s1) :
    Inv (cxS CX P w K mg base N qual scope f cd cc A outer s H E) [] (L2.start N vs) H s1 := by
  have hpl : ps.length ≤ N.length := by
    have := congrArg List.length S.pre
    rw [List.length_take] at this
    omega
  obtain ⟨h1, tk, rfl⟩ := x.same
  have hk := x.keep
  have noA : ∀ b : Addr, b ∉ (cxS CX P w K mg base N qual scope f cd cc A outer s H E).ex := fun b z => absurd (show b ∈ ([] : List Addr) from z) (by simp)
  have low : ∀ {y : Str} {c : Addr}, (cellsS s.heap.objs.size scope cc).lookup y = some c → c = cc ∨ (y, NameKind.cell) ∈ scope.names := fun {y c} e => by
    have e' := PySem.mem_of_lookup e
    have sz : (s.heap.push { cls := .type "frame", data := .dict #[] }).objs.size = s.heap.objs.size + 1 := Heap.size_push ..
    unfold cellsS at e'
    rw [← sz] at e'
    rcases cells_mem e' with q | ⟨q2, _, _⟩
    · simp only [List.mem_singleton, Prod.mk.injEq] at q
      exact .inl q.2
    · exact .inr q2
  have ccl : (cellsS s.heap.objs.size scope cc).lookup ("__class__" : Str) = some cc := by
    obtain ⟨c', e'⟩ := mem_lookup (cells_acc (names := scope.names) (n := s.heap.objs.size + 1) (p := (("__class__" : Str), cc)) (acc := [(("__class__" : Str), cc)]) List.mem_cons_self)
    have e2 : (cellsS s.heap.objs.size scope cc).lookup ("__class__" : Str) = some c' := e'
    have e3 := PySem.mem_of_lookup e2
    have sz : (s.heap.push { cls := .type "frame", data := .dict #[] }).objs.size = s.heap.objs.size + 1 := Heap.size_push ..
    unfold cellsS at e3
    rw [← sz] at e3
    rcases cells_mem e3 with q | ⟨q, _, _⟩
    · simp only [List.mem_singleton, Prod.mk.injEq] at q
      rw [e2, q.2]
    · have z := S.uniq _ q
      have z : scope.names.lookup ("__class__" : Str) = some .cell := z
      rw [S.cls] at z
      cases z
  have ndP : ps.Nodup := by
    rw [← S.pre]
    exact S.nd.sublist (List.take_sublist _ _)
  exact {
    ok := {
      mod := e0.mod, kind := S.kind, glob := rfl, blt := rfl, above := Nat.le_refl _, inj := O.inj
      has := fun y hy => by
        have hy : scope.names.lookup y = some .cell ∨ scope.names.lookup y = some .free := hy
        rcases hy with hy | hy
        · exact cells_of_name hy
        · have e := S.free _ (PySem.mem_of_lookup hy) rfl
          have e : y = ("__class__" : Str) := e
          rw [e]
          exact ⟨cc, ccl⟩
      cab := fun y c z h => by
        have z : (scope.names.lookup y == some NameKind.cell) = true := z
        have z : scope.names.lookup y = some .cell := by simpa using z
        exact Nat.le_of_lt (O.above y c z h)
      hd := fun _ => hd
      frames := Around.frames_deeper e0.frames
      stk := .inr ⟨rfl, rfl⟩
      exf := fun b z => absurd z (noA b)
      bs := e0.bs, bsz := e0.bsz
      noex := fun b _ _ => noA b
      exfs := fun b z => absurd z (noA b)
      funs := e0.funs, frf := e0.frf }
    os := rfl
    bare := e0.bare
    base := Un.kept hk
    loc := ⟨_, x.ns, fun i y v h1 h2 h3 => by
      have hi : i < vs.length := by
        unfold L2.start at h2
        by_cases hi : i < vs.length
        · exact hi
        · rw [List.getElem?_append_right (by simpa using hi), List.getElem?_replicate] at h2
          split at h2 <;> cases h2
      have ha : vs[i]? = some v := by
        unfold L2.start at h2
        rw [List.getElem?_append_left (by simpa using hi), List.getElem?_map] at h2
        cases e : vs[i]? with
        | none =>
          rw [e] at h2
          cases h2
        | some a =>
          rw [e] at h2
          cases h2
          rfl
      obtain ⟨u, hu, rv⟩ := r.get ha
      have hp : ps[i]? = some y := by
        rw [← S.pre, List.getElem?_take_of_lt (by omega)]
        exact h1
      refine ⟨u, rv, ?_⟩
      rcases S.par y (List.mem_of_getElem? hp) with k | k
      · exact .inl ⟨k, bindL_get ndP hp hu k⟩
      · obtain ⟨c, e⟩ := cells_of_name (n := s.heap.objs.size + 1) (acc := [(("__class__" : Str), cc)]) k
        refine .inr ⟨.inl k, c, e, ?_⟩
        have q := x.cell y c k e
        rw [bindC_get ndP hp hu (by show scope.names.lookup y ≠ _; rw [k]; decide)] at q
        exact q⟩
    cell := fun y c h => by
      have h : (cellsS s.heap.objs.size scope cc).lookup y = some c := h
      rcases low h with q | q
      · rw [q]
        exact ⟨_, hcell.keeps hk⟩
      · exact ⟨_, x.cell y c (S.uniq _ q) h⟩
    free := e0.hok.fresh (Nat.le_refl _)
    freeC := fun y c h => by
      rcases low (show (cellsS s.heap.objs.size scope cc).lookup y = some c from h) with q | q
      · rw [q]
        exact hcH
      · exact e0.hok.fresh (Nat.le_of_lt (O.above y c (S.uniq _ q) h))
    pin := fun p hp => absurd (show p ∈ ([] : List (Addr × Obj)) from hp) (by simp)
    hok := e0.hok.kept hk
    len := by
      unfold L2.start
      show _ = N.length
      rw [List.length_append, List.length_map, List.length_replicate]
      omega }

/-! ### statements read at the running def's own code -/
structure PSA (X : Cx) (b : List Stmt) (st : Stmt) (t : TS) : Prop where
  run : ∀ (pins : List (Addr × Obj)) (s : Shared) (σ : L2.St) (H : Hp) (D : Ends), Inv X pins σ H s → t D σ H → _root_.PySem.wpAt (model X.prog X.w) X.A (.func b X.env) (exec st X.env) (SP X pins D) X.xe s
structure PSsA (X : Cx) (b : List Stmt) (sts : List Stmt) (t : TS) : Prop where
  run : ∀ (pins : List (Addr × Obj)) (s : Shared) (σ : L2.St) (H : Hp) (D : Ends), Inv X pins σ H s → t D σ H → _root_.PySem.wpAt (model X.prog X.w) X.A (.func b X.env) (execs sts X.env) (SP X pins D) X.xe s
section
variable {X : Cx} {b rest : List Stmt} {st : Stmt} {t u : TS}
theorem psa_of (h : PS X st t) : PSA X b st t := ⟨fun pins s σ H D I q => _root_.PySem.wpAt_of_wpAny (h.run pins s σ H D I q)⟩
theorem pssa_of {sts : List Stmt} (h : PSs X sts t) : PSsA X b sts t := ⟨fun pins s σ H D I q => _root_.PySem.wpAt_of_wpAny (h.run pins s σ H D I q)⟩
theorem pssa_cons (h1 : PSA X b st t) (h2 : PSsA X b rest u) : PSsA X b (st :: rest) (tSeq t u) := by
  refine ⟨fun pins s σ H D I h => ?_⟩
  refine PySem.ks_wpAt_execs_cons (PySem.ks_wpAt_mono (h1.run pins s σ H { D with nx := u D } I h) (fun fl s1 q => ?_) fun _ _ z => z)
  cases fl with
  | next =>
    obtain ⟨σ1, H1, I1, q1⟩ := q
    exact h2.run pins s1 σ1 H1 D I1 q1
  | brk => exact q
  | cont => exact q
  | ret v => exact q
end

/-! ### super() -/
/-- what the running def's text says: the class D that holds it, its code object, its first parameter in slot 0 -/
structure SupAt (X : Cx) (cc D f : Addr) : Prop where
  ks : X.env.kindOf ("super" : Str) = some .globalImplicit
  kc : X.env.kindOf ("__class__" : Str) = some .free
  fu : X.env.func = some f
  fl : ∃ oc od fd osl, ∃ ar : Arg, X.K.lookup f = some ⟨oc, od, .func fd, osl⟩ ∧ (fd.params.posonlyargs ++ fd.params.args).head? = some ar ∧ X.N[0]? = some ar.arg ∧ Vis X.env.scope ar.arg
  co : ∃ cda ccl cdd vs ccs file tf, X.env.code = .ref cda ∧ X.K.lookup cda = some ⟨ccl, cdd, .fields vs, ccs⟩ ∧ vs[2]? = some (.str file tf) ∧ ((X.prog.main.file : Str) == file) = true
  top : (X.prog.main.scope.names.lookup ("super" : Str)).isSome = false
  no : X.mg ("super" : Str) = none
  cell : ∃ cl cld csl cdD, X.env.cells.lookup ("__class__" : Str) = some cc ∧ X.K.lookup cc = some ⟨cl, cld, .cell (some (.ref D)), csl⟩ ∧ PySem.W.clsIn X.K D = some cdD
  opq : PySem.W.nsIn X.K cStatics "thirdparty.any" = some none

section
variable {X : Cx} {pins : List (Addr × Obj)} {σ : L2.St} {H : Hp} {s : Shared} {b : List Stmt} {cc D f a C : Addr}
theorem loadSlot {i : Nat} {x : Str} {v : V} {Q : Value → Shared → Prop} {E : Value → Shared → Prop} (I : Inv X pins σ H s) (hN : X.N[i]? = some x) (hs : σ[i]? = some (some v)) (hv : Vis X.env.scope x)
    (h : ∀ u, RelV v u → Q u s) (hcd : (x == ("__classdict__" : Str)) = false) : wpAny (model X.prog X.w) X.A (loadName X.env x) Q E s := by
  obtain ⟨m, hn, hl⟩ := I.loc
  obtain ⟨u, r, l⟩ := hl i x v hN hs hv
  rcases l with ⟨hk, hm⟩ | ⟨hk | hk, c, hc, hcell⟩
  · exact wpAny_loadName_local I.ok.kind hk hn hm (h u r)
  · exact wpAny_loadName_cell I.ok.kind hk hc hcell (h u r)
  · exact wpAny_loadName_free I.ok.kind hk hc hcell (h u r) hcd
theorem clsObj {K : PySem.W.Frag} {h : Heap} {cd : ClassData} (X : K.In h) (e : PySem.W.clsIn K D = some cd) : ∃ oD, h.get? D = some oD ∧ oD.data = .cls cd := by
  unfold PySem.W.clsIn at e
  split at e
  · rename_i c d cd' sl ho
    cases e
    exact ⟨_, X _ _ ho, rfl⟩
  · cases e
theorem super_node {p0 p1 : Pos} {attr : Str} {whole : Sem Value} {ox : Obj} {Q : Value → Shared → Prop} (T : SupAt X cc D f) (I : Inv X pins σ H s) (hs : σ[0]? = some (some (.ref a)))
    (hx : s.heap.get? a = some ox) (hxc : ox.cls = .ref C) (hnc : ∀ c, ox.data ≠ .cls c) (hsub : PySem.W.mroIn X.K C (.ref D) = some true) (hself : ∀ ar, X.N[0]? = some ar → (ar == ("__classdict__" : Str)) = false)
    (h : ∀ so h', h'.get? so = some (PySem.W.ks_superObj D a C) → (∀ y o, s.heap.get? y = some o → h'.get? y = some o) → Inv X pins σ H { s with heap := h' } → Q (.ref so) { s with heap := h' })
    (hat : (attr == ("__class__" : Str)) = false := by decide) :
    _root_.PySem.wpAt (model X.prog X.w) X.A (.func b X.env) (attributeBase (.Call (.Name "super" p0) [] [] p1) attr X.env whole) Q X.xe s := by
  have KX := I.kIn
  obtain ⟨oc, od, fd, osl, ar, hf, hp, hN, hvis⟩ := T.fl
  obtain ⟨cda, ccl, cdd, vs, ccs, file, tf, hco, hcode, hvs, hfile⟩ := T.co
  obtain ⟨cl, cld, csl, cdD, hcl, hcell, hD⟩ := T.cell
  obtain ⟨oD, hD1, hD2⟩ := clsObj KX hD
  refine PySem.ks_wpAt_super_base (env := X.env) T.ks T.kc hat T.fu (KX _ _ hf) rfl hp hco (KX _ _ hcode) rfl hvs hfile T.top ?_
  obtain ⟨mb, g1, g2⟩ := I.mod.blt
  refine PySem.W.ks_loadName_global I.ok.kind T.ks (Calls.loadGlobal_builtin (by rw [I.ok.glob]; exact I.mod.glob.keeps I.bk) T.no (by rw [I.ok.blt]; exact g1.keeps I.bk) ((g2 "super" (by decide)).trans (by decide +kernel : bootBuiltins "super" = some (.type "super"))) ⟨rfl, ?_⟩)
  refine wpAny_loadName_free I.ok.kind T.kc hcl ⟨_, KX _ _ hcell, rfl⟩ ?_
  refine loadSlot I hN hs hvis (fun u ru => ?_) (hself _ hN)
  obtain rfl : u = Value.ref a := ru
  obtain ⟨hh, g, d, t, os⟩ := s
  refine PySem.ks_wpAny_isType_cls hD1 hD2 ⟨rfl, ?_⟩
  refine PySem.ks_wpAny_call_super hD1 hD2 hx hxc hnc (PySem.W.looks_mroIn KX hsub) fun h' e k => ?_
  exact h hh.objs.size h' e k (I.kept (t' := t) k)

theorem unpin1 {p : Addr × Obj} (I : Inv X (p :: pins) σ H s) : Inv X pins σ H s := I.pins_of fun r hr => I.pin r (List.mem_append_right _ (List.mem_cons_of_mem _ hr))
/-- a new object that stays untracked: pinned -/
theorem pin_new {o : Obj} {t' : Nat} (I : Inv X pins σ H s) (hnc : ∀ v, o.data ≠ .cell v) (hfr : o.isFreed = false := by rfl) : Inv X ((s.heap.objs.size, o) :: pins) σ H { s with heap := s.heap.push o, toks := t' } := by
  have J : Inv X pins σ H { s with heap := s.heap.push o, toks := t' } := I.kept fun b u e => Heap.get?_push_of_some _ e
  refine J.pins_of fun p hp => ?_
  rcases List.mem_cons.mp hp with rfl | hp
  · exact ⟨Heap.get?_push_size _ hfr, I.hok.fresh (Nat.le_refl _), Nat.ne_of_gt I.lt, I.nofs (Nat.le_refl _), hnc⟩
  · exact J.pin p (List.mem_append_right _ hp)
end

/-! ### super().__init__(e, ..) of an own class -/
def tSup (C : Addr) (sp : Sp) (E : XK) (ta : TA) : TS := fun Dn σ H => ∃ a dx fs, σ[0]? = some (some (.ref a)) ∧ H a = some (.ins C dx fs) ∧ ta σ H fun vs H1 => sp (.ref a :: vs) H1 (fun _ H2 => Dn.nx σ H2) E
section
variable {X : Cx} {b : List Stmt} {cc D f C f2 : Addr} {CX : CXT} {k : Nat} {fd : FuncData} {ps : List Str} {sp : Sp} {E : XK} {e : Expr} {es : List Expr} {ta : TA} {p0 p1 p2 pos pos' : Pos}
/-- the object that super() reads -/
theorem along_of {K : PySem.W.Frag} {n : Str} {v : Value} (h : PySem.W.ks_superIn K C D n = some (some v)) : ∃ cd, PySem.W.clsIn K C = some cd ∧ PySem.W.alongIn K n ((cd.mro.dropWhile (· != .ref D)).drop 1) = some (some v) := by
  unfold PySem.W.ks_superIn at h
  cases e : PySem.W.clsIn K C with
  | none =>
    rw [e] at h
    cases h
  | some cd =>
    rw [e] at h
    exact ⟨cd, rfl, h⟩
theorem psa_super {pl : Sem Bool} (T : SupAt X cc D f) (hself : ∀ ar, X.N[0]? = some ar → (ar == ("__classdict__" : Str)) = false) (hsub : PySem.W.mroIn X.K C (.ref D) = some true)
    (hm : PySem.W.ks_superIn X.K C D "__init__" = some (some (.ref f2))) (ht : PySem.W.typeIn X.K (.ref f2) = some (.type "function")) (hfn : PySem.W.fnIn X.K f2 = true)
    (F : FnOk X.prog X.w X.K X.mg X.base CX k f2 fd ps sp) (hr : Room k X.A) (hb : Binds X.K fd ps []) (hx : Passes CX X E) (ha : PA X (e :: es) ta)
    (he : starEach (e :: es) X.env = (false, eval e X.env) :: starEach es X.env := by rfl) (hpl : (backTo pos (starEach es X.env)).any (·.1) = false := by rfl)
    (hev : eval (.Call (.Attribute (.Call (.Name "super" p0) [] [] p1) "__init__" p2) (e :: es) [] pos) X.env = (do
      let ov ← attributeBase (.Call (.Name "super" p0) [] [] p1) "__init__" X.env (eval (.Call (.Name "super" p0) [] [] p1) X.env)
      standAt p2.atName
      let (f, first) ← holding [ov] (getMethod ov "__init__" pl)
      callWith pos f first (backTo pos (starEach (e :: es) X.env)) []) := by rfl)
    (hs : swapsWith (.Call (.Attribute (.Call (.Name "super" p0) [] [] p1) "__init__" p2) (e :: es) [] pos) none pos'.line X.env = pure false := by rfl) :
    PSA X b (.Expr (.Call (.Attribute (.Call (.Name "super" p0) [] [] p1) "__init__" p2) (e :: es) [] pos) pos') (tSup C sp E ta) := by
  refine ⟨fun pins s σ H Dn I h => ?_⟩
  obtain ⟨a, dx, fs, hσ, hH, h⟩ := h
  obtain ⟨_, _, _, hobj, _⟩ := I.hok a _ hH
  refine PySem.ks_wpAt_Expr_any ?_ I.quiet hs
  refine PySem.ks_wpAt_MethodCall (pl := pl) ?_ hev
  refine super_node T I hσ hobj rfl (fun c q => by cases q) hsub hself fun so h' hso kp I1 => ?_
  obtain ⟨cd, hcd, hal⟩ := along_of hm
  have X1 := I1.kIn
  obtain ⟨of, hof, hofc⟩ : ∃ of, h'.get? f2 = some of ∧ of.cls = .type "function" := by
    have ht' : (X.K.lookup f2).map (·.cls) = some (.type "function") := ht
    cases z : X.K.lookup f2 with
    | none =>
      rw [z] at ht'
      cases ht'
    | some of =>
      rw [z] at ht'
      exact ⟨of, X1 _ _ z, Option.some.inj ht'⟩
  have hne : a ≠ C := by
    rintro rfl
    obtain ⟨oD, q1, q2⟩ := clsObj X1 hcd
    have q3 := kp _ _ hobj
    have q1 : h'.get? a = some oD := q1
    rw [q1] at q3
    have q4 := Option.some.inj q3
    rw [q4] at q2
    cases q2
  obtain ⟨hh, g, d, t, os⟩ := s
  refine PySem.ks_wpAny_getMethod_super hso (PySem.W.looks_opaque X1 T.opq) (l₀ := cd.mro) (fun A Q E s k q => wpAny_bind ((PySem.W.looks_clsIn X1 hcd) A _ E s k (wpAny_pure q))) rfl X1 hal hof hofc hne (by decide) ?_
  have J := pin_new (t' := t + 1) (o := { cls := .type "method", data := .fields #[.ref f2, .ref a] }) I1 (fun v q => by cases q)
  refine PySem.W.callWith_of (P := PySem.W.MethP X.K h'.objs.size f2 (.ref a)) (by rw [he]; show ((false || (backTo pos (starEach es X.env)).any (·.1)) || false) = false; rw [hpl] <;> rfl) (PySem.W.keeps_M hfn) ?_
  rw [he]
  have hrun := ha.run pos _ _ σ H _ J h
  rw [he] at hrun
  refine Calls.evalArgs_plain (thn hrun fun us s2 ⟨vs, H1, J1, rv, q⟩ => ?_)
  have hq : s2.heap.get? h'.objs.size = some (PySem.W.methodObj (.ref f2) (.ref a)) := (J1.pin _ (List.mem_append_right _ List.mem_cons_self)).1
  refine ⟨⟨hq, J1.kIn⟩, ?_⟩
  have r2 : Vals (V.ref a :: vs) (Value.ref a :: us) := .cons rfl rv
  have hl : (Value.ref a :: us).length = ps.length := by
    rw [← r2.length]
    exact F.len _ _ _ _ q
  refine wpAny_call (PySem.W.method_call hq (codeAny_mono (F.run X.A X.stack s2 H1 ⟨Value.ref a :: us, []⟩ (Value.ref a :: us) (V.ref a :: vs) _ E hr J1.env0 (by have := hb s2 (Value.ref a :: us) J1.kIn (by rw [List.append_nil]; exact hl); rw [List.append_nil] at this; exact this) r2 q) fun r s' hq' => ?_))
  cases r with
  | error er => exact hx _ σ H1 s2 er s' J1 hq'
  | ok fl =>
    cases fl with
    | ret u =>
      obtain ⟨v, H2, J2, _, q2⟩ := J1.after hq'
      exact ⟨σ, H2, unpin1 J2, q2⟩
    | next => exact False.elim hq'
    | brk => exact False.elim hq'
    | cont => exact False.elim hq'
end

/-! ### super().__init__(e, ..) of an own exception over ValueError -/
def tSupX (C : Addr) (ta : TA) : TS := fun Dn σ H => ∃ a, σ[0]? = some (some (.ref a)) ∧ H a = some (exo a C none) ∧ ta σ H fun vs H1 => vs.length ≤ 1000 ∧ H1 a = some (exo a C none) ∧ Dn.nx σ H1
section
variable {X : Cx} {b : List Stmt} {cc D f C : Addr} {e : Expr} {es : List Expr} {ta : TA} {p0 p1 p2 pos pos' : Pos}
theorem psa_superX {pl : Sem Bool} (T : SupAt X cc D f) (hself : ∀ ar, X.N[0]? = some ar → (ar == ("__classdict__" : Str)) = false) (TC : OexC X.K C) (hsub : PySem.W.mroIn X.K C (.ref D) = some true)
    (hm : PySem.W.ks_superIn X.K C D "__init__" = some (some (.builtin "ValueError.__init__"))) (hV : PySem.W.subIn X.K (.ref C) (.type "ValueError") = some true) (ha : PA X (e :: es) ta)
    (he : starEach (e :: es) X.env = (false, eval e X.env) :: starEach es X.env := by rfl) (hpl : (backTo pos (starEach es X.env)).any (·.1) = false := by rfl)
    (hev : eval (.Call (.Attribute (.Call (.Name "super" p0) [] [] p1) "__init__" p2) (e :: es) [] pos) X.env = (do
      let ov ← attributeBase (.Call (.Name "super" p0) [] [] p1) "__init__" X.env (eval (.Call (.Name "super" p0) [] [] p1) X.env)
      standAt p2.atName
      let (f, first) ← holding [ov] (getMethod ov "__init__" pl)
      callWith pos f first (backTo pos (starEach (e :: es) X.env)) []) := by rfl)
    (hs : swapsWith (.Call (.Attribute (.Call (.Name "super" p0) [] [] p1) "__init__" p2) (e :: es) [] pos) none pos'.line X.env = pure false := by rfl) :
    PSA X b (.Expr (.Call (.Attribute (.Call (.Name "super" p0) [] [] p1) "__init__" p2) (e :: es) [] pos) pos') (tSupX C ta) := by
  refine ⟨fun pins s σ H Dn I h => ?_⟩
  obtain ⟨a, hσ, hH, h⟩ := h
  obtain ⟨t1, hobj⟩ := exo_at I.hok hH
  refine PySem.ks_wpAt_Expr_any ?_ I.quiet hs
  refine PySem.ks_wpAt_MethodCall (pl := pl) ?_ hev
  refine super_node T I hσ hobj rfl (fun c q => by cases q) hsub hself fun so h' hso kp I1 => ?_
  obtain ⟨cd, hcd, hal⟩ := along_of hm
  have X1 := I1.kIn
  have hne : a ≠ C := by
    rintro rfl
    obtain ⟨oD, q1, q2⟩ := clsObj X1 hcd
    have q3 := kp _ _ hobj
    have q1 : h'.get? a = some oD := q1
    rw [q1] at q3
    have q4 := Option.some.inj q3
    rw [q4] at q2
    cases q2
  obtain ⟨hh, g, d, t, os⟩ := s
  have hobj' := kp _ _ hobj
  have hI : PySem.W.Looks (model X.prog X.w) h' (isInstance (.ref a) (.type "ValueError")) true :=
    (show PySem.W.InstAt h' a _ C none from ⟨hobj', rfl, rfl, trivial⟩).type.andThen (PySem.W.looks_subIn X1 hV)
  refine PySem.W.kxs_getMethod PySem.W.kxs_ValueError hso (PySem.W.looks_opaque X1 T.opq) (l₀ := cd.mro) (fun A Q E s k q => wpAny_bind ((PySem.W.looks_clsIn X1 hcd) A _ E s k (wpAny_pure q))) rfl X1 hal hI hne (by decide) ?_
  have J := pin_new (t' := t + 1) (o := PySem.W.kxs_mw "ValueError.__init__" a) I1 (fun v q => by cases q)
  refine PySem.W.kxs_callWith (i := "ValueError.__init__") (x := a) (by rw [he]; show (false || (backTo pos (starEach es X.env)).any (·.1)) = false; rw [hpl] <;> rfl) ?_
  have hrun := ha.run pos _ _ σ H _ J h
  rw [he] at hrun ⊢
  refine Calls.evalArgs_plain (thn hrun fun us s2 ⟨vs, H1, J1, rv, hz, hH1, q⟩ => ?_)
  have hq : s2.heap.get? h'.objs.size = some (PySem.W.kxs_mw "ValueError.__init__" a) := (J1.pin _ (List.mem_append_right _ List.mem_cons_self)).1
  refine ⟨hq, ?_⟩
  show wpAny _ _ (call (.ref h'.objs.size) us) _ _ _
  have J2 := unpin1 J1
  obtain ⟨t2, hobj2⟩ := exo_at J2.hok hH1
  obtain ⟨nm, q', N, bs, bm, sn, sub, ab, col, dd, k0, k1, k2, k3, k5, hC, hbm⟩ := TC.cls
  have hC2 := J2.kIn _ _ hC
  have hlen : us.length ≤ sizeLine := by
    rw [← Paired.length rv, sizeLine_eq]
    omega
  obtain ⟨hp, g2, d2, tk2, os2⟩ := s2
  refine wpAny_call (codeAny_of_tree ?_)
  show wpAny _ X.A.in1 (callAny (.ref h'.objs.size) ⟨us, []⟩) _ _ _
  simp only [callAny]
  refine wpAny_bind (wpAny_load hq ?_)
  have c1 : (Value.type "method-wrapper" == Value.type "method" || Value.type "method-wrapper" == Value.type "builtin_function_or_method" || Value.type "method-wrapper" == Value.type "method-wrapper") = true := by decide
  simp only [PySem.W.kxs_mw, c1, if_true]
  refine PySem.W.KFB.if_so (by decide) ?_
  refine wpAny_bind (PySem.W.check_bound_init F.excBase_ValueError.toExcCallFacts hC2 hobj2 rfl ?_)
  refine wpAny_bind (wpAny_pure (wpAny_pure ⟨plainId_quiet F.excBase_ValueError.init.plain _, codeAny_builtin F.excBase_ValueError.initEntry ?_⟩))
  refine PySem.W.exc_init_tree (cls := .ref C) (t0 := t2) (dv := none) (c2 := .none) (c3 := .none) (b4 := .bool false) hobj2 hlen fun h3 k3 e3 _ => ?_
  have J3 := J2.write (t' := tk2) (x := a) (e := a) (o := exo a C none) (h' := h3) (by rw [hH1]; exact True.intro) (.inl rfl) k3 ⟨_, e3⟩ (exo_ok e3)
  have eu : upd H1 a (exo a C none) = H1 := by
    funext z
    by_cases hz : z = a
    · rw [hz, upd_same, hH1]
    · rw [upd_ne hz]
  rw [eu] at J3
  exact ⟨σ, H1, J3, q⟩
end

/-! ### THE RULE: a def that says super(), by its body -/
theorem fn_ofS {CX : CXT} {P : Program} {w : World} {K : PySem.W.Frag} {mg : Str → Option Value} {base : Heap} {k : Nat} {f cc D : Addr} {name qual : Str} {params : Arguments} {body : List Stmt} {scope : Scope} {dV kV doc pm cdv ct oc cl : Value} {an od cld : Option Addr}
    {osl csl : Array (Option Value)} {N ps : List Str} {sp : Sp} (lk : K.lookup f = some ⟨oc, od, .func (PySem.W.ksFn name qual params body scope dV kV doc pm an cdv ct cc), osl⟩) (hcc : K.lookup cc = some ⟨cl, cld, .cell (some (.ref D)), csl⟩)
    (hcd : PySem.W.codeIn K cdv qual = true) (S : ScopeS N ps scope) (len : ∀ vs H Q E, sp vs H Q E → vs.length = ps.length)
    (hbody : ∀ (A : Around) (outer : List Env) (s : Shared) (H : Hp) (vs : List V) (Q : VK) (E : XK), Room k (A.deeper (envS qual scope s.heap.objs.size f cdv cc)) → sp vs H Q E →
      ∃ t, PSsA (cxS CX P w K mg base N qual scope f cdv cc A outer s H E) body body t ∧ t { nx := fun _ H' => Q .non H', rt := Q } (L2.start N vs) H) :
    FnOk P w K mg base CX (k + 1) f (PySem.W.ksFn name qual params body scope dV kV doc pm an cdv ct cc) ps sp := by
  refine ⟨len, fun A outer s H args us vs Q E hr e0 hb r hsp => ?_⟩
  have hl := len _ _ _ _ hsp
  have KX : K.In s.heap := e0.mod.kin.keeps fun b o e => (e0.bs b o e).1
  have lim : s.heap.NoLimit := e0.mod.nolimit.keeps fun b o e => (e0.bs b o e).1
  have hcell : s.heap.IsCell cc (some (.ref D)) := ⟨_, KX _ _ hcc, rfl⟩
  refine codeAny_call_function hr.depth (KX _ _ lk) rfl S.co S.gen rfl (PySem.W.codeRec_of KX hcd) (hb _ _ _ _ ?_)
  refine newEnvS S.kind S.cls hcell.lt (fun y hy => S.par y.1 (List.of_mem_zip hy).1) fun env he O s1 x => ?_
  subst he
  refine ⟨lim.keeps x.keep, PySem.ks_codeAny_funcAt ?_⟩
  obtain ⟨t, ht, hq⟩ := hbody A outer s H vs Q E (hr.deeper _) hsp
  have I : Inv (cxS CX P w K mg base N qual scope f cdv cc A outer s H E) [] (L2.start N vs) H s1 := startS S hr.hd e0 hl r hcell (e0.bs _ _ (e0.mod.kin _ _ hcc)).2 O x
  refine PySem.ks_wpAt_mono (ht.run [] s1 (L2.start N vs) H _ I hq) (fun fl s' hs => ?_) fun e s' hs => hs
  have fin : ∀ {σ' : L2.St} {H' : Hp} {v : V} {u : Value}, Inv (cxS CX P w K mg base N qual scope f cdv cc A outer s H E) [] σ' H' s' → RelV v u → Q v H' → CE outer P w H s Q u s' :=
    fun {σ' H' v u} J rv q => ⟨v, H', J.os, J.bare, J.base, J.hok, rv, q⟩
  cases fl with
  | ret u =>
    obtain ⟨v, σ1, H1, J, rv, q⟩ := hs
    exact fin J rv q
  | next =>
    obtain ⟨σ1, H1, J, q⟩ := hs
    exact fin (v := V.non) (u := Value.none) J rfl q
  | brk =>
    obtain ⟨_, _, _, q⟩ := hs
    exact False.elim q
  | cont =>
    obtain ⟨_, _, _, q⟩ := hs
    exact False.elim q
end Sup
/-! Rules for what the layer lacks: enumerate over a tuple; isinstance of a caught error that has its own dict; a class called where what is raised is wished for at the slots. -/
namespace Sup
open PySem PySem.Spec PyProof.Rows L2

/-! ### enumerate(tuple) -/
theorem meetsEnumT (t : Addr) (items : Array Value) :
    Meets (Builtin.«enumerate.__new__» ⟨[.type "enumerate", .ref t], []⟩) (fun _ R s => s.heap.IsTuple t items ∧
      R (.ok (.ret (.ref (s.heap.push { cls := .type "tuple_iterator", data := .fields #[.ref t, .int 0 0] }).objs.size)))
        { s with heap := (s.heap.push { cls := .type "tuple_iterator", data := .fields #[.ref t, .int 0 0] }).push { cls := .type "enumerate", data := .fields #[.none, .bool false, .ref s.heap.objs.size, rawInt 0, .none, .none] } }) :=
  .of_wp fun prog w A R s h => by
    obtain ⟨hp, g, d, tk, os⟩ := s
    obtain ⟨h1, h⟩ := h
    have hsub := sub_enumerate
    have q1 : ∀ {A' : Around} {E : Value → Shared → Prop} {Q : Value → Shared → Prop}, Q (.ref hp.objs.size) ⟨hp.push { cls := .type "tuple_iterator", data := .fields #[.ref t, .int 0 0] }, g, d, tk, os⟩ → wpAny (model prog w) A' (pyIter (.ref t)) Q E ⟨hp, g, d, tk, os⟩ :=
      fun q => (begins_tuple t items).iter prog w _ _ ⟨hp, g, d, tk, os⟩ _ h1 q
    wp_walk using q1
    refine wpAny_stack_any fun st => wpAny_pure ?_
    split
    · rename_i c _ _ _ _ _
      cases c == Value.type "enumerate"
      · wp_walk using q1
        exact ⟨_, rfl, h⟩
      · wp_walk using q1
        exact ⟨_, rfl, h⟩
    · wp_walk using q1
      exact ⟨_, rfl, h⟩
theorem callEnumT {prog : Program} {w : World} {A : Around} {E : Value → Shared → Prop} {s : Shared} {t : Addr} {items : Array Value} {Q : Value → Shared → Prop} (hT : s.heap.IsTuple t items)
    (h : ∀ h', IsEnum h' (s.heap.objs.size + 1) s.heap.objs.size 0 .none → h'.IsTupleIter s.heap.objs.size t 0 → (∀ b o, s.heap.get? b = some o → h'.get? b = some o) → Q (.ref (s.heap.objs.size + 1)) { s with heap := h' }) :
    wpAny (model prog w) A (call (.type "enumerate") [.ref t]) Q E s := by
  refine callType_new F.called_enumerate (by decide) (F.typeCall_enumerate_1 _) (F.newCall_enumerate_1 _) (fun obj => F.args_object_init_2 obj _) F.entry_enumerate_new (meetsEnumT t items) ⟨hT, ?_⟩
  have sz : (s.heap.push { cls := .type "tuple_iterator", data := .fields #[.ref t, .int 0 0] }).objs.size = s.heap.objs.size + 1 := Heap.size_push ..
  show _ ∧ _
  rw [sz]
  have he : IsEnum ((s.heap.push { cls := .type "tuple_iterator", data := .fields #[.ref t, .int 0 0] }).push { cls := .type "enumerate", data := .fields #[.none, .bool false, .ref s.heap.objs.size, rawInt 0, .none, .none] }) (s.heap.objs.size + 1) s.heap.objs.size 0 .none := by
    have z := Heap.get?_push_size (s.heap.push { cls := .type "tuple_iterator", data := .fields #[.ref t, .int 0 0] })
      (o := { cls := .type "enumerate", data := .fields #[.none, .bool false, .ref s.heap.objs.size, rawInt 0, .none, .none] }) rfl
    rw [sz] at z
    exact z
  exact ⟨⟨_, he, rfl⟩, h _ he ⟨_, Heap.get?_push_of_some _ (Heap.get?_push_size _ rfl), rfl, rfl⟩ fun b o x => Heap.get?_push_of_some _ (Heap.get?_push_of_some _ x)⟩
/-- the tuple at a, each item in a new pair with its place -/
def IteT (K : PySem.W.Frag) (a : Addr) : It :=
  ⟨fun i H => ∃ (xs : List V) (x : V), SqT K H a xs ∧ xs[i]? = some x,
   fun i H v H' => ∃ T x, v = .ref T ∧ H T = none ∧ H' = upd H T (.tup [.int (i : Nat), x]) ∧ ∀ xs, SqT K H a xs → xs[i]? = some x,
   fun i H => ∃ xs : List V, SqT K H a xs ∧ xs.length ≤ i⟩
theorem turnEnumT {P : Program} {w : World} {K : PySem.W.Frag} {elts : List Expr} {kk : Nat} {tpos : Pos} (a e it : Addr) (hai : a ≠ it) (hae : e ≠ a) :
    Turn P w K (.Tuple elts kk tpos) (IteT K a) [e, it] e (fun i h => (∃ old, IsEnum h e it ((i : Nat) : Int) old) ∧ h.IsTupleIter it a i ∧ e ≠ it) where
  mem := by simp
  obj := fun i h st b hb => by
    obtain ⟨⟨old, he⟩, ⟨o, ho, hc, hd⟩, _⟩ := st
    have e' : b = e ∨ b = it := by simpa using hb
    rcases e' with z | z
    · rw [z]
      exact ⟨_, he, fun v q => nomatch q⟩
    · rw [z]
      exact ⟨o, ho, fun v q => by rw [hd] at q; cases q⟩
  keep := fun i h h' st k => by
    obtain ⟨⟨old, he⟩, hi, hne⟩ := st
    exact ⟨⟨old, k e (by simp) _ he⟩, hi.at fun o q => k it (by simp) o q, hne⟩
  item := by
    intro X hP hw hK hc i pins s σ H E I hf st hg
    subst hP hw hK
    obtain ⟨⟨old, he⟩, hit, hne⟩ := st
    obtain ⟨xs, x, hq, hx⟩ := hg
    obtain ⟨its, rv, p, hz⟩ := I.tuple hq
    obtain ⟨u, hu, ru⟩ := rv.get hx
    have hel : e < s.heap.objs.size := Heap.lt_size he
    have hil : it < s.heap.objs.size := by
      obtain ⟨_, q, _⟩ := hit
      exact Heap.lt_size q
    have hlt : i < its.toArray.size := by
      rw [List.size_toArray]
      exact (List.getElem?_eq_some_iff.mp hu).1
    refine wpAny_pyNext_enum_itemD (Draws.tuple (A := X.A.in1) (I.ok.hd hc) it a hai its.toArray) he ⟨hit, p⟩ hlt hne (by simp [hne, hae]) fun u' h' tk hu' ho st' hT hsz hk => ?_
    have eu : u' = u := by
      have z : its[i]? = some u' := by simpa using hu'
      exact Option.some.inj (z.symm.trans hu)
    subst eu
    refine ⟨_, rfl, wpAny_letOwnedTupleGo_enum (s := { s with heap := h', toks := tk + 1 }) ho fun h'' he' sb => ?_⟩
    have hT2 : h''.get? s.heap.objs.size = some { cls := .type "tuple", data := .seq #[.int i tk, u'] } := (sb.2 _ (Nat.ne_of_gt hel)).trans hT
    have new : ObjOk X.prog X.w (upd H s.heap.objs.size (.tup [.int (i : Nat), x])) h'' s.heap.objs.size (.tup [.int (i : Nat), x]) :=
      ⟨by show 2 ≤ sizeLine; decide, [.int i tk, u'], .cons ⟨_, rfl⟩ (.cons ru .nil), ⟨_, hT2, rfl, _, rfl⟩⟩
    have I1 : Inv X pins σ (upd H s.heap.objs.size (.tup [.int (i : Nat), x])) { s with heap := h'', toks := tk + 1 } :=
      I.turnedNew (ch := [e, it]) (fun b ob hb q => (sb.2 b (fun z => hb (by simp [z]))).trans (hk b ob (fun z => hb (by simp [z])) (fun z => hb (by simp [z])) q)) hf (Nat.le_refl _) new
    refine ⟨.ref s.heap.objs.size, _, I1, rfl, ⟨_, x, rfl, I.hok.fresh (Nat.le_refl _), rfl, fun ys hy => by rw [I.tuple_inj hy hq]; exact hx⟩, ⟨⟨u', ?_⟩, st'.1.at fun o q => (sb.2 it (Ne.symm hne)).trans q, hne⟩, fun b hb => ?_⟩
    · have e1 : ((i + 1 : Nat) : Int) = (i : Int) + 1 := by omega
      rw [e1]
      exact he'
    · have hb' : b < s.heap.objs.size := by
        have e' : b = e ∨ b = it := by simpa using hb
        rcases e' with z | z
        · rw [z]
          exact hel
        · rw [z]
          exact hil
      rw [upd_ne (Nat.ne_of_lt hb')]
      exact (hf b hb).1
  done := by
    intro X hP hw hK hc i pins s σ H E I hf st hg
    subst hP hw hK
    obtain ⟨⟨old, he⟩, hit, hne⟩ := st
    obtain ⟨xs, hq, hx⟩ := hg
    obtain ⟨its, rv, p, hz⟩ := I.tuple hq
    obtain ⟨f0, f1, f2, f3, f4, f5⟩ := hf it (by simp)
    have hl := rv.length
    unfold pyNext
    have hT : s.TypeIs (.ref e) "enumerate" := ⟨_, he, rfl⟩
    refine wpAny_bind (wpAny_attempt (wpAny_callSpecial?_slot (name := Str.ofString "__next__") hT F.slot_enumerate_next (wpAny_call_entry F.slot_enumerate_next hT F.entry_enumerate_next ?_ (F.args_enumerate_next_1 _))))
    show wpAny _ _ (field (.ref e) 2 >>= _) _ _ _
    refine wpAny_bind (wpAny_field he rfl (x := .ref it) rfl ?_)
    refine wpAny_bind (wpAny_nextOf_tuple_end (I.ok.hd hc) hit p (by simp; omega) fun h' z eb hz' => ?_)
    obtain ⟨oz, hoz, hcz⟩ := hz'
    refine wpAny_bind (wpAny_isInstance (T := "StopIteration") (b := true) ⟨oz, hoz, hcz⟩ isSubtype_stop ?_)
    exact wpAny_pure ⟨rfl, I.turned (t' := s.toks) (fun b o hb q => eb b o hb q) f0 f1 f3 f4 f5⟩
  self := fun A i s Q E st h => by
    obtain ⟨⟨_, he⟩, _⟩ := st
    exact wpAny_pyIter_enum he h
def iEnumT (K : PySem.W.Frag) (ta : TA) : TI := fun σ H R => ta σ H fun vs H1 => ∃ a xs, vs = [.ref a] ∧ SqT K H1 a xs ∧ R (IteT K a) H1
theorem pi_enumT {X : Cx} {e : Expr} {ta : TA} {p pos tpos : Pos} {elts : List Expr} {kk : Nat} (hg : Gl X "enumerate") (hm : X.mg "enumerate" = none) (ha : PA X [e] ta) (hs : starEach [e] X.env = [(false, eval e X.env)] := by rfl) :
    PI X (.Tuple elts kk tpos) (.Call (.Name "enumerate" p) [e] [] pos) (iEnumT X.K ta) := by
  refine ⟨fun pins s σ H R I h => ?_⟩
  refine Call_ (ld_blt I hg hm boot_enumerate (PyProof.Rows.callWith_type1 (thn (ha.run pos pins s σ H _ I h) fun us s1 ⟨vs, H1, I1, r1, q1⟩ => ?_) hs rfl))
  obtain ⟨a, xs, ex, hq, q⟩ := q1
  subst ex
  cases r1 with
  | cons r rr =>
    cases rr
    cases r
    obtain ⟨its, rv, p', hz⟩ := I1.tuple hq
    have hlt : a < s1.heap.objs.size := p'.lt
    refine callEnumT p' fun h' he hit hk => wpAny_pyIter_enum he ?_
    have I2 : Inv X pins σ H1 { s1 with heap := h' } := I1.kept (t' := s1.toks) hk
    refine ⟨s1.heap.objs.size + 1, [s1.heap.objs.size + 1, s1.heap.objs.size], _, _, H1, rfl, I2, turnEnumT a (s1.heap.objs.size + 1) s1.heap.objs.size (Nat.ne_of_lt hlt) (Nat.ne_of_gt (Nat.lt_succ_of_lt hlt)), ⟨⟨.none, he⟩, hit, Nat.succ_ne_self _⟩, fun b hb => ?_, q⟩
    have e' : b = s1.heap.objs.size + 1 ∨ b = s1.heap.objs.size := by simpa using hb
    have hle : s1.heap.objs.size ≤ b := by
      rcases e' with z | z
      · rw [z]
        exact Nat.le_add_right _ _
      · rw [z]
        exact Nat.le_refl _
    exact I1.fpOk hle (I1.hok.fresh hle)
end Sup
/-! More rules: isinstance of a caught error with fields of its own; C(..) that may raise, wished for at the slots; t[::-1] of a tuple. -/
namespace Sup
open PySem PySem.Spec PyProof.Rows L2

/-! ### isinstance(e, c), e the caught error (class D, any dict) -/
structure ErrC (K : PySem.W.Frag) (D : Addr) : Prop where
  cl : (PySem.W.clsIn K D).isSome = true
  ga : PySem.W.findIn K (.ref D) "__getattribute__" = some (some (.builtin "BaseException.__getattribute__"))
  gt : PySem.W.findIn K (.ref D) "__getattr__" = some none
  sb : PySem.W.subIn K (.ref D) (.type "BaseException") = some true
  ca : PySem.W.findIn K (.ref D) "__class__" = some (some (.builtin "object.__class__"))
  sp : PySem.W.specialIn K (.builtin "object.__class__") "__get__" = some (some (.builtin "getset_descriptor.__get__"))
  tk : PySem.W.takesIn K (.builtin "object.__class__") = some true
  mo : PySem.W.mroIn K D (.type "object") = some true
section
variable {X : Cx} {a D : Addr} {oe : Obj} {cls : Value} {dd : Option Addr} {pn : List (Addr × Obj)}
theorem errAt {pins : List (Addr × Obj)} {σ : L2.St} {H : Hp} {s : Shared} (I : Inv (X.suite a ((a, oe) :: pn)) pins σ H s) (hz : Zc (.ref D) dd oe) (hf : ∃ vs, oe.data = .fields vs)
    (hd : ∀ d, dd = some d → ∃ fs, H d = some (.xd fs)) : ∃ od, PySem.W.InstAt s.heap a oe D od := by
  obtain ⟨hget, _⟩ := I.pin (a, oe) (List.mem_append.mpr (.inl List.mem_cons_self))
  obtain ⟨vs, hv⟩ := hf
  obtain ⟨h1, h2⟩ := hz
  cases dd with
  | none =>
    obtain ⟨oc, od, oda, osl⟩ := oe
    dsimp only at h1 h2 hv
    subst h1 h2 hv
    exact ⟨none, hget, rfl, rfl, trivial⟩
  | some d =>
    obtain ⟨fs, hfs⟩ := hd d rfl
    obtain ⟨mA, ⟨o, es, ep, ho, hr⟩, _⟩ := (show ObjOk X.prog X.w H s.heap d (.xd fs) from I.hok d _ hfs)
    exact ⟨some o, hget, h1, by unfold PySem.W.notCls; rw [hv] <;> rfl, by rw [h2]; exact ho⟩
/-- one class -/
def rErr (K : PySem.W.Frag) (D a : Addr) (cls : Value) (dd : Option Addr) : List V → Hp → VK → Prop := fun xs H Q => cls = .ref D ∧ ∃ (c : V) (u : Value) (b : Bool), xs = [.ref a, c] ∧ ClsV c u ∧ (∀ d, dd = some d → ∃ fs, H d = some (.xd fs)) ∧ PySem.W.kitOne K (.ref D) u = some b ∧ Q (.bl b) H
theorem call_isErr {K : PySem.W.Frag} (hK : X.K = K) (C : ErrC K D) (hz : Zc cls dd oe) (hf : ∃ vs, oe.data = .fields vs) : CallR (X.suite a ((a, oe) :: pn)) (.builtin "isinstance") (rErr K D a cls dd) := by
  subst hK
  intro pins s σ H xs us Q I r h
  obtain ⟨rfl, c, u, b, rfl, k, hd, e, q⟩ := h
  obtain ⟨u1, u2, rfl, r1, r2⟩ := vals2 r
  cases (show u1 = Value.ref a from r1)
  have e2 := k.eq r2
  subst e2
  obtain ⟨od, J⟩ := errAt I hz hf hd
  exact PySem.W.kia_one (PySem.W.kitx_exc (od := od) C.cl C.ga C.gt C.sb C.ca C.sp C.tk C.mo) I.kIn J e (fun z => nomatch z) fun tk => ⟨.bl b, H, I.tok tk, rfl, q⟩
/-- a tuple of classes, just laid -/
def rErrT (K : PySem.W.Frag) (D a : Addr) (cls : Value) (dd : Option Addr) : List V → Hp → VK → Prop := fun xs H Q => cls = .ref D ∧ ∃ (tp : Addr) (cs : List V) (us : List Value) (b : Bool), xs = [.ref a, .ref tp] ∧ H tp = some (.tup cs) ∧ Paired ClsV cs us ∧
  (∀ d, dd = some d → ∃ fs, H d = some (.xd fs)) ∧ PySem.W.kitAny K (.ref D) us = some b ∧ Q (.bl b) H
theorem call_isErrT {K : PySem.W.Frag} (hK : X.K = K) (C : ErrC K D) (hz : Zc cls dd oe) (hf : ∃ vs, oe.data = .fields vs) : CallR (X.suite a ((a, oe) :: pn)) (.builtin "isinstance") (rErrT K D a cls dd) := by
  subst hK
  intro pins s σ H xs us Q I r h
  obtain ⟨rfl, tp, cs, ws, b, rfl, hT, k, hd, e, q⟩ := h
  obtain ⟨u1, u2, rfl, r1, r2⟩ := vals2 r
  cases (show u1 = Value.ref a from r1)
  cases (show u2 = Value.ref tp from r2)
  obtain ⟨_, its, rv, o, h1, h2, n, h3⟩ := (show ObjOk X.prog X.w H s.heap tp (.tup cs) from I.hok tp _ hT)
  have e3 := ClsV.all k rv
  subst e3
  obtain ⟨oc, od', dt, sl⟩ := o
  simp only at h2 h3
  subst h2 h3
  obtain ⟨od, J⟩ := errAt I hz hf hd
  exact PySem.W.kia_tup (PySem.W.kitx_exc (od := od) C.cl C.ga C.gt C.sb C.ca C.sp C.tk C.mo) I.kIn J h1 e (fun z => nomatch z) fun tk => ⟨.bl b, H, I.tok tk, rfl, q⟩
end

/-! ### C(e, ..) whose __init__ may raise, within a try -/
def tMakeS (C : Addr) (sp : Sp) (E : L2.St → XK) (t : TA) : TE := fun σ H Q => t σ H fun vs H1 => ∀ x dx, H1 x = none → H1 dx = none → dx ≠ x →
  sp (.ref x :: vs) (upd (upd H1 dx (.own x)) x (.ins C dx [])) (fun v H2 => v = .non ∧ Q (.ref x) H2) fun cls d H2 => E σ cls d H2
section
variable {X : Cx} {k : Nat} {f C : Addr} {fd : FuncData} {ps : List Str} {sp : Sp} {W : WX} {x : Str} {p pos : Pos} {e : Expr} {es : List Expr} {t : TA}
theorem pe_makeS (M : Mk X.K C f) (F : FnOk X.prog X.w X.K X.mg X.base (L2.CX X.prog X.w) k f fd ps sp) (hr : Room (k + 1) X.A) (hg : Gl X x) (hm : X.mg x = some (.ref C)) (hb : Binds X.K fd ps []) (tk : Takes X W)
    (ha : PA X (e :: es) t) (hdb : (x == ("__debug__" : Str)) = false := by decide) (he : starEach (e :: es) X.env = (false, eval e X.env) :: starEach es X.env := by rfl) (hpl : (backTo pos (starEach es X.env)).any (·.1) = false := by rfl) :
    PE X (.Call (.Name x p) (e :: es) [] pos) (tMakeS C sp (WE W) t) := by
  refine ⟨fun pins s σ H Q I h => ?_⟩
  have hx : PassesAt (L2.CX X.prog X.w) X σ (WE W σ) := passAt tk σ
  refine wpAny_Call_Name_kw (ld_glob I hg hm ?_ hdb)
  refine PySem.W.callWith_K (h₀ := X.base) I.ok.mod.kin M.kp (thn (ha.run pos pins s σ H _ I h) fun us s1 ⟨vs, H1, I1, r, q⟩ => ⟨I1.kIn, ?_⟩) he hpl
  show wpAny (model X.prog X.w) X.A (call (.ref C) us) _ _ _
  have fresh0 := I1.hok.fresh (Nat.le_refl s1.heap.objs.size)
  have fresh1 := I1.hok.fresh (Nat.le_succ s1.heap.objs.size)
  have hq := q (s1.heap.objs.size + 1) s1.heap.objs.size fresh1 fresh0 (Nat.ne_of_lt (Nat.lt_succ_self _))
  have I2 := Inv.made (C := C) I1
  have r2 : Vals (V.ref (s1.heap.objs.size + 1) :: vs) (Value.ref (s1.heap.objs.size + 1) :: us) := .cons rfl r
  have hl : (Value.ref (s1.heap.objs.size + 1) :: us).length = ps.length := by
    rw [← r2.length]
    exact F.len _ _ _ _ hq
  have hbd := hb _ (Value.ref (s1.heap.objs.size + 1) :: us) I2.kIn (by rw [List.append_nil]; exact hl)
  rw [List.append_nil] at hbd
  refine wpAny_call (make_map (f := f) I1.kIn M.makes M.init (beq_iff_eq.mp M.fn) (codeAny_mono (F.run _ X.stack _ _ ⟨Value.ref (s1.heap.objs.size + 1) :: us, []⟩ _ _ _ _ (hr.make C us []) (I2.env0.make C us []) hbd r2 hq) fun rr s' hq' => ?_))
  cases rr with
  | error er => exact hx pins _ _ er s' I2 hq'
  | ok fl =>
    cases fl with
    | ret u =>
      obtain ⟨v, H', I3, rv, ev, q3⟩ := I2.after hq'
      subst ev
      exact ⟨rv, ⟨V.ref (s1.heap.objs.size + 1), H', I3, rfl, q3⟩⟩
    | next => exact False.elim hq'
    | brk => exact False.elim hq'
    | cont => exact False.elim hq'
end

/-! ### t[::-1] -/
theorem places_rev (n : Nat) : Builtin.Slice.sliceAdjust none none (-1) (n : Int) = ((n : Int) - 1, -1) := by
  unfold Builtin.Slice.sliceAdjust
  first
    | rfl
    | simp
theorem pick_rev (xs : Array Value) : ((List.range xs.size).filterMap fun (k : Nat) => xs[((xs.size : Int) - 1 + (k : Int) * (-1)).toNat]?) = xs.toList.reverse := by
  have e := congrArg Array.toList (PySem.W.krv_pick xs)
  unfold slicePick at e
  rw [PySem.W.krv_bounds] at e
  have e : ((sliceRange ((xs.size : Int) - 1) (-1) (-1)).filterMap (xs[·]?)) = xs.toList.reverse := by simpa using e
  rw [PySem.W.krv_sliceRange] at e
  rw [← e]
  have z : (fun (k : Nat) => xs[((xs.size : Int) - 1 + (k : Int) * (-1)).toNat]?) = (fun i => xs[i]?) ∘ fun (k : Nat) => ((xs.size : Int) - 1 + (k : Int) * (-1)).toNat := rfl
  rw [z, ← List.filterMap_map]
  congr 1
  apply List.map_congr_left
  intro k hk
  have := List.mem_range.mp hk
  omega
theorem tuple_rev {prog : Program} {w : World} {A : Around} {E : Value → Shared → Prop} {s : Shared} {t sl : Addr} {items : Array Value} {vs : Value} {Q : Value → Shared → Prop} (ht : IsTup s.heap t items) (hs : s.heap.IsSliceOf sl .none .none vs) (pv : IsPart vs (some (-1)))
    (h : Q (.ref s.heap.objs.size) { s with heap := s.heap.push { cls := .type "tuple", data := .seq items.toList.reverse.toArray } }) (hsz : items.size ≤ sizeLine) : wpAny (model prog w) A (getItem (.ref t) (.ref sl)) Q E s := by
  have hfit : sizeOk (.seq items.toList.reverse.toArray) := by
    show items.toList.reverse.toArray.size ≤ sizeLine
    simpa using hsz
  obtain ⟨os, hos, hcs, hds⟩ := id hs
  have hTs : s.TypeIs (.ref sl) "slice" := ⟨os, hos, hcs⟩
  unfold getItem
  try with_reducible refine wpAny_holding ?_
  first | refine wpAny_bind (wpAny_pure ?_) | skip
  refine wpAny_bind (wpAny_sequenceKey ht.typeIs (by decide) (wpAny_bind (wpAny_callSpecial?_slot (name := Str.ofString "__getitem__") ht.typeIs PyProof.Rows.slot_tuple_getitem
    (wpAny_call_entry PyProof.Rows.slot_tuple_getitem ht.typeIs entry_tuple_getitem ?_ (args_tuple_getitem _ _)))))
  show wpAny _ _ (Builtin.Tuple.tupleItemsOf (.ref t) >>= _) _ _ s
  refine wpAny_bind (tupleItemsOf_ ht (wpAny_bind (wpAny_typeOf hTs ?_)))
  rw [if_pos (by decide)]
  have app : ∀ {Q' : Int × Int × Nat → Shared → Prop} {E' : Value → Shared → Prop} {A' : Around}, Q' ((items.size : Int) - 1, -1, items.size) s → wpAny (model prog w) A' (Builtin.Slice.sliceApplied (.ref sl) (pure (items.size : Int))) Q' E' s := fun {Q' E' A'} hq => by
    unfold Builtin.Slice.sliceApplied Builtin.Slice.sliceFields
    refine wpAny_bind (wpAny_bind (wpAny_field hos hds (x := .none) rfl (wpAny_bind (wpAny_field hos hds (x := .none) rfl (wpAny_bind (wpAny_field hos hds (x := vs) rfl (wpAny_pure ?_)))))))
    refine wpAny_bind (HT.slicePart_ pv ?_)
    show wpAny _ _ (if ((-1 : Int) == 0) = true then _ else _) _ _ s
    rw [if_neg (by decide)]
    refine wpAny_bind (slicePart_none (wpAny_bind (slicePart_none (wpAny_bind (wpAny_pure ?_)))))
    show wpAny _ _ (match Builtin.Slice.sliceAdjust none none (-1) (items.size : Int) with | (lo, hi) => pure (lo, (-1 : Int), Builtin.Slice.slicePlaces lo hi (-1))) _ _ s
    rw [places_rev]
    show wpAny _ _ (pure ((items.size : Int) - 1, (-1 : Int), Builtin.Slice.slicePlaces ((items.size : Int) - 1) (-1) (-1))) _ _ s
    have pl : Builtin.Slice.slicePlaces ((items.size : Int) - 1) (-1) (-1) = items.size := by
      unfold Builtin.Slice.slicePlaces
      have h1 : ¬ ((-1 : Int) > 0) := by decide
      simp only [h1, if_false, show (- -1 : Int) = 1 by decide, Int.ediv_one]
      split <;> omega
    rw [pl]
    exact wpAny_pure hq
  refine wpAny_bind (app ?_)
  have hno : ¬ (((items.size : Int) - 1 == 0 && (-1 : Int) == 1 && items.size == items.size) = true) := by
    intro q
    rw [Bool.and_eq_true, Bool.and_eq_true] at q
    exact absurd (eq_of_beq q.1.2) (by decide)
  show wpAny _ _ (if ((items.size : Int) - 1 == 0 && (-1 : Int) == 1 && items.size == items.size) = true then _ else _) _ _ s
  rw [if_neg hno, pick_rev]
  first
    | exact wpAny_bind (m := Builtin.Tuple.tupleExact _) (wpAny_newObj_type (wpAny_pure ⟨_, rfl, wpAny_pure h⟩) hfit)
    | exact wpAny_bind (m := Builtin.Tuple.tupleExact _) (wpAny_newObj_type (wpAny_bind (wpAny_pure (wpAny_pure ⟨_, rfl, wpAny_pure h⟩))) hfit)
    | exact wpAny_bind (wpAny_bind (m := Builtin.Tuple.tupleExact _) (wpAny_newObj_type (wpAny_pure (wpAny_pure ⟨_, rfl, wpAny_pure h⟩)) hfit))
    | exact wpAny_bind (wpAny_bind (m := Builtin.Tuple.tupleExact _) (wpAny_newObj_type (wpAny_pure ⟨_, rfl, wpAny_pure h⟩) hfit))
def tRevT (K : PySem.W.Frag) (te : TE) : TE := fun σ H Q => te σ H fun x H1 => ∃ a xs, x = .ref a ∧ SqT K H1 a xs ∧ ∀ p, H1 p = none → Q (.ref p) (upd H1 p (.tup xs.reverse))
theorem pe_revT {X : Cx} {e : Expr} {te : TE} {k : Nat} {p1 p2 p3 pos : Pos} (he : PE X e te) : PE X (.Subscript e (.Slice none none (some (.UnaryOp .USub (.Constant (.int 1) k p1) p2)) p3) pos) (tRevT X.K te) := by
  refine ⟨fun pins s σ H Q I h => ?_⟩
  refine Subscript_ (thn (he.run pins s σ H _ I h) fun v s1 ⟨x, H1, I1, r1, a, xs, ex, hx, q⟩ => ?_)
  subst ex
  cases r1
  have hst : PO X (some (.UnaryOp .USub (.Constant (.int 1) k p1) p2)) (tPart (tUn (rU fun i => .int (-i)) (tC (.int 1)))) := po_some (pe_un un_neg pe_int)
  refine wpAny_Slice (thn (po_none.run pins s1 σ H1 (fun o H2 => o = none ∧ H2 = H1) I1 ⟨rfl, rfl⟩) fun vl s2 ⟨l, H2, I2, pl, el, e2⟩ => ?_)
  subst el e2
  refine thn (po_none.run pins s2 σ H2 (fun o H3 => o = none ∧ H3 = H2) I2 ⟨rfl, rfl⟩) fun vu s3 ⟨u, H3, I3, pu, eu, e3⟩ => ?_
  subst eu e3
  refine thn (hst.run pins s3 σ H3 (fun o H4 => o = some (-1) ∧ H4 = H3) I3 ⟨1, rfl, -1, rfl, rfl, rfl⟩) fun vs s4 ⟨o, H4, I4, ps, eo, e4⟩ => ?_
  subst eo e4
  cases pl
  cases pu
  have I5 : Inv X pins σ H4 { s4 with heap := s4.heap.push { cls := .type "slice", data := .fields #[.none, .none, vs] } } := I4.kept (t' := s4.toks) fun b ob q => Heap.get?_push_of_some _ q
  obtain ⟨its, r, ht, hz⟩ := I5.tuple hx
  have hlen := r.length
  refine tail_any (ops := [.ref a, .ref s4.heap.objs.size]) ht.typeIs (PyProof.Rows.slot_tuple_getitem.lookup) ?_ (by with_unfolding_all rfl)
  refine tuple_rev ht (Heap.IsSliceOf.new _ .none .none vs) ps ?_ (by rw [List.size_toArray]; omega)
  refine ⟨.ref _, _, I5.laid (t' := s4.toks) (o := .tup xs.reverse) (fun b ob q => Heap.get?_push_of_some _ q) (Nat.le_refl _) ?_, rfl, q _ (I5.hok.fresh (Nat.le_refl _))⟩
  exact ⟨by rw [List.length_reverse]; exact hz, _, r.reverse, IsTup.new _ _⟩

/-! ### isinstance over own classes, by subIn -/
structure ClsOk (K : PySem.W.Frag) (D : Addr) : Prop where
  ic : PySem.W.isClsIn K D = true
  ty : PySem.W.typeIn K (.ref D) = some (.type "type")
theorem kit_sub {K : PySem.W.Frag} {C D : Addr} {b : Bool} (k : ClsOk K D) (hs : PySem.W.subIn K (.ref C) (.ref D) = some b) (hcc : PySem.W.subIn K (.ref C) (.ref C) = some true) : PySem.W.kitOne K (.ref C) (.ref D) = some b := by
  unfold PySem.W.kitOne
  by_cases e : C = D
  · subst e
    rw [hcc] at hs
    rw [if_pos (beq_self_eq_true _)]
    exact hs
  · have h1 : ¬ ((Value.ref C == Value.ref D) = true) := by
      simp [e]
    rw [if_neg h1]
    have h2 : ((PySem.W.clsIn K D).isSome && PySem.W.typeIn K (.ref D) == some (.type "type")) = true := by
      have z : (PySem.W.clsIn K D).isSome = true := k.ic
      rw [z, k.ty] <;> rfl
    show (if ((PySem.W.clsIn K D).isSome && PySem.W.typeIn K (.ref D) == some (.type "type")) = true then PySem.W.subIn K (.ref C) (.ref D) else none) = some b
    rw [if_pos h2]
    exact hs
/-- err.f of the caught error -/
theorem xf_at {X : Cx} {K : PySem.W.Frag} {a C : Addr} {oe : Obj} {cls : Value} {d : Option Addr} {pn : List (Addr × Obj)} {e : Expr} {te : TE} {pos : Pos} {n : Str} (hK : X.K = K) (T : XfC K C) (hno : PySem.W.findIn K (.ref C) n = some none)
    (hz : Zc cls d oe) (hf : ∃ vs, oe.data = .fields vs) (he : PE (X.suite a ((a, oe) :: pn)) e te) (hb : attributeBase e n X.env (eval e X.env) = eval e X.env := by rfl) :
    PE (X.suite a ((a, oe) :: pn)) (.Attribute e n pos) (tXf a cls d C n te) := by
  subst hK
  exact pe_xf T hno hz hf he hb
end Sup
/-! A def of the text that says super(), in short; own errors raised. -/
namespace Sup
open PySem PySem.Spec PyProof.Rows L2
open PySem.W (Frag ksFn)

theorem clsCell {N ps : List Str} {scope : Scope} (S : ScopeS N ps scope) (cc : Addr) (h : Heap) : (cellsS h.objs.size scope cc).lookup ("__class__" : Str) = some cc := by
  obtain ⟨c1, e1⟩ := mem_lookup (cells_acc (names := scope.names) (n := h.objs.size + 1) (p := (("__class__" : Str), cc)) (acc := [(("__class__" : Str), cc)]) List.mem_cons_self)
  have e2 : (cellsS h.objs.size scope cc).lookup ("__class__" : Str) = some c1 := e1
  have e3 := PySem.mem_of_lookup e2
  have sz : (h.push { cls := .type "frame", data := .dict #[] }).objs.size = h.objs.size + 1 := Heap.size_push ..
  unfold cellsS at e3
  rw [← sz] at e3
  rcases cells_mem e3 with q | ⟨q, _, _⟩
  · simp only [List.mem_singleton, Prod.mk.injEq] at q
    rw [e2, q.2]
  · have z := S.uniq _ q
    have z : scope.names.lookup ("__class__" : Str) = some .cell := z
    rw [S.cls] at z
    cases z

/-- a def that closes over its class's cell (cc, of the class D) -/
structure SFun (P : Program) (K : Frag) (x qual : Str) (st : Stmt) (f : Addr) (fd : FuncData) (cc D : Addr) : Prop where
  ex : ∃ (oc : Value) (od : Option Addr) (kV doc pm : Value) (an : Option Addr) (cdv ct : Value) (osl : Array (Option Value)),
    fd = ksFn x qual (defArgs st) (defBody st) (defScope st) .none kV doc pm an cdv ct cc ∧ K.lookup f = some ⟨oc, od, .func fd, osl⟩ ∧ PySem.W.codeIn K cdv qual = true ∧
    ∃ (cda : Addr) (ccl : Value) (cdd : Option Addr) (vs : Array Value) (ccs : Array (Option Value)) (file : Str) (tf : Tok), cdv = .ref cda ∧ K.lookup cda = some ⟨ccl, cdd, .fields vs, ccs⟩ ∧ vs[2]? = some (.str file tf) ∧ ((P.main.file : Str) == file) = true
  cell : ∃ (cl : Value) (cld : Option Addr) (csl : Array (Option Value)) (cdD : ClassData), K.lookup cc = some ⟨cl, cld, .cell (some (.ref D)), csl⟩ ∧ PySem.W.clsIn K D = some cdD
  opq : PySem.W.nsIn K cStatics "thirdparty.any" = some none

section
variable {P : Program} {w : World} {K : Frag} {mg : Str → Option Value} {base : Heap} {x qual : Str} {st : Stmt} {f cc D : Addr} {fd : FuncData}
theorem SFun.binds {ps : List Str} (F : SFun P K x qual st f fd cc D)
    (h : ∀ (kV doc pm : Value) (an : Option Addr) (cdv ct : Value) (us : List Value), us.length = ps.length → bindArgs (ksFn x qual (defArgs st) (defBody st) (defScope st) .none kV doc pm an cdv ct cc) ⟨us, []⟩ = pure (ps.zip us)) : Binds K fd ps [] := by
  obtain ⟨oc, od, kV, doc, pm, an, cdv, ct, osl, rfl, lk, hcd, _⟩ := F.ex
  exact .all (h kV doc pm an cdv ct)
theorem SFun.okX {N ps : List Str} {k : Nat} {sp : Sp} (F : SFun P K x qual st f fd cc D) (S : ScopeS N ps (defScope st)) (hks : (defScope st).names.lookup ("super" : Str) = some .globalImplicit)
    (har : ∃ ar : Arg, ((defArgs st).posonlyargs ++ (defArgs st).args).head? = some ar ∧ N[0]? = some ar.arg ∧ Vis (defScope st) ar.arg) (htop : (P.main.scope.names.lookup ("super" : Str)).isSome = false) (hno : mg ("super" : Str) = none)
    (len : ∀ vs H Q E, sp vs H Q E → vs.length = ps.length)
    (hbody : ∀ (cdv : Value) (A : Around) (outer : List Env) (s : Shared) (H : Hp) (vs : List V) (Q : VK) (E : XK), Room k (A.deeper (envS qual (defScope st) s.heap.objs.size f cdv cc)) → sp vs H Q E →
      SupAt (cxS (L2.CX P w) P w K mg base N qual (defScope st) f cdv cc A outer s H E) cc D f →
      ∃ t, PSsA (cxS (L2.CX P w) P w K mg base N qual (defScope st) f cdv cc A outer s H E) (defBody st) (defBody st) t ∧ t { nx := fun _ H' => Q .non H', rt := Q } (L2.start N vs) H) :
    FnOk P w K mg base (L2.CX P w) (k + 1) f fd ps sp := by
  obtain ⟨oc, od, kV, doc, pm, an, cdv, ct, osl, rfl, lk, hcd, cda, ccl, cdd, vs0, ccs, file, tf, rfl, hcode, hvs, hfile⟩ := F.ex
  obtain ⟨cl, cld, csl, cdD, hcc, hD⟩ := F.cell
  obtain ⟨ar, h1, h2, h3⟩ := har
  refine fn_ofS lk hcc hcd S len fun A outer s H vs Q E hr hsp => ?_
  exact hbody (.ref cda) A outer s H vs Q E hr hsp {
    ks := hks
    kc := S.cls
    fu := rfl
    fl := ⟨oc, od, _, osl, ar, lk, h1, h2, h3⟩
    co := ⟨cda, ccl, cdd, vs0, ccs, file, tf, rfl, hcode, hvs, hfile⟩
    top := htop
    no := hno
    cell := ⟨cl, cld, csl, cdD, clsCell S cc s.heap, hcc, hD⟩
    opq := F.opq }
end

/-! ### own errors with one field: class C(..): def __init__(self, f): super().__init__(text); self.f = f -/
/-- what its __init__ promises -/
def spErr (C : Addr) (fld : Str) (okv : V → Prop) : Sp := fun vs H Q _ => ∃ a v, vs = [.ref a, v] ∧ H a = some (exo a C none) ∧ okv v ∧ ∀ dx, H dx = none → dx ≠ a → Q .non (upd (upd H dx (exd dx [(fld, v)])) a (exo a C (some dx)))
/-- the facts of such a class -/
structure ErrT (K : Frag) (mg : Str → Option Value) (nm fld : Str) (C f : Addr) : Prop where
  gC : mg nm = some (.ref C)
  oex : OexC K C
  ini : PySem.W.findIn K (.ref C) "__init__" = some (some (.ref f))
  tI : PySem.W.typeIn K (.ref f) = some (.type "function")
  noF : PySem.W.findIn K (.ref C) fld = some none
  sup : PySem.W.ks_superIn K C C "__init__" = some (some (.builtin "ValueError.__init__"))
  mro : PySem.W.mroIn K C (.ref C) = some true
  isV : PySem.W.subIn K (.ref C) (.type "ValueError") = some true
  hd : PySem.W.hasDictIn K C = true
  err : ErrC K C
  te : PySem.W.exmOne K (.ref C) (.ref C) = some true
theorem ErrT.xf {K : Frag} {mg : Str → Option Value} {nm fld : Str} {C f : Addr} (T : ErrT K mg nm fld C f) : XfC K C := ⟨T.err.ga, T.err.gt, T.err.sb, T.hd⟩
theorem raise_heap {H : Hp} {a dx : Addr} {o1 o2 o3 o4 : HO} (h : H a = none) (hne : dx ≠ a) : upd (del (upd (upd (upd H a o1) dx o2) a o3) a) dx o4 = upd H dx o4 := by
  funext b
  by_cases hb : b = dx
  · rw [hb, upd_same, upd_same]
  · rw [upd_ne hb, show upd H dx o4 b = H b from upd_ne hb]
    by_cases ha : b = a
    · rw [ha, del_same, h]
    · rw [del_ne ha, upd_ne ha, upd_ne hb, upd_ne ha]
/-- raise C(e) -/
def tRaiseE (C : Addr) (fld : Str) (okv : V → Prop) (W : WX) (ta : TA) : TS := fun _ σ H => tMkO C (spErr C fld okv) [] ta σ H fun cls d H' => W cls d σ H'
theorem ps_raiseE {X : Cx} {W : WX} {nm fld : Str} {C f : Addr} {fd : FuncData} {k : Nat} {okv : V → Prop} {e : Expr} {ta : TA} {p pos pos2 : Pos} (hc : X.calm = true) (T : ErrT X.K X.mg nm fld C f) (F : FnOk X.prog X.w X.K X.mg X.base (L2.CX X.prog X.w) k f fd ["self", fld] (spErr C fld okv))
    (hb : Binds X.K fd ["self", fld] []) (hr : Room (k + 1) X.A) (tk : Takes X W) (hg : Gl X nm) (ha : PA X [e] ta)
    (hdb : (nm == ("__debug__" : Str)) = false := by decide) (he : starEach (e :: []) X.env = (false, eval e X.env) :: starEach [] X.env := by rfl) (hpl : (backTo pos (starEach [] X.env)).any (·.1) = false := by rfl) :
    PS X (.Raise (some (.Call (.Name nm p) [e] [] pos)) none pos2) (tRaiseE C fld okv W ta) :=
  ps_raise (pos := pos2) hc tk (pmk_oex (pos := pos) (p := p) (dvs := []) (ds := []) T.oex T.ini T.tI F hr hb .nil (fun pins σ H s er s' I z => by
    obtain ⟨_, _, _, _, _, _, _, _, _, _, _, _, zz⟩ := z
    exact zz.elim) hg T.gC ha hdb he hpl)
/-- what is asked where the error's value v is known -/
theorem raiseE_of {C : Addr} {fld : Str} {okv : V → Prop} (W : XK) {H : Hp} {v : V} (hv : okv v) (h : ∀ d, H d = none → W (.ref C) (some d) (upd H d (.xd [(fld, v)]))) :
    [v].length ≤ 1000 ∧ ∀ a, H a = none → spErr C fld okv (.ref a :: ([v] ++ [])) (upd H a (exo a C none))
      (fun u H2 => u = .non ∧ ∃ (d : Addr) (fs : List (Str × V)), H2 a = some (exo a C (some d)) ∧ H2 d = some (exd d fs) ∧ H d = none ∧ W (.ref C) (some d) (upd (del H2 a) d (.xd fs))) (fun _ _ _ => False) := by
  refine ⟨by simp, fun a ha => ⟨a, v, rfl, upd_same, hv, fun dx hd hne => ⟨rfl, dx, [(fld, v)], upd_same, ?_, ?_, ?_⟩⟩⟩
  · rw [upd_ne hne, upd_same]
  · rw [upd_ne hne] at hd
    exact hd
  · rw [upd_ne hne] at hd
    rw [raise_heap ha hne]
    exact h dx hd
end Sup
/-! The layer's rules with the written part K said apart: within a comprehension's block the reading may not name the block. -/
namespace Sup
open PySem PySem.Spec PyProof.Rows L2
section
variable {X : Cx} (K : PySem.W.Frag)
def rLenQ : List V → Hp → VK → Prop := fun xs H Q => ∃ p ys, xs = [V.ref p] ∧ (SqL K H p ys ∨ SqT K H p ys) ∧ Q (.int ((ys.length : Nat) : Int)) H
theorem len_at (h : X.K = K) : CallR X (.builtin "len") (rLenQ K) := by
  subst h
  exact call_len_seq
theorem ixl_at (h : X.K = K) : IxR X (rIxL K) := by
  subst h
  exact ix_list
theorem ixt_at (h : X.K = K) : IxR X (rIxT K) := by
  subst h
  exact ix_tup
theorem fld_at {e : Expr} {ta : TE} {f : Str} {pos : Pos} (h : X.K = K) (he : PE X e ta) (hb : attributeBase e f X.env (eval e X.env) = eval e X.env) : PE X (.Attribute e f pos) (tFld K ta f) := by
  subst h
  exact pe_fld he hb
theorem pil_at {l tg : Expr} {tl : TE} (h : X.K = K) (hl : PE X l tl) : PI X tg l (iList K tl) := by
  subst h
  exact pi_list hl
theorem pit_at {l tg : Expr} {tl : TE} (h : X.K = K) (hl : PE X l tl) : PI X tg l (iTup K tl) := by
  subst h
  exact pi_tup hl
theorem cnt_at (h : X.K = K) : MtR X "list.count" (rCntI K) := by
  subst h
  exact mt_lcount
theorem sum_at (hc : X.calm = true) (h : X.K = K) : CallR X (.builtin "sum") (rSum K) := by
  subst h
  exact cr_sum hc
theorem all_at (hc : X.calm = true) (h : X.K = K) : CallR X (.builtin "all") (rAll K) := by
  subst h
  exact cr_all hc
theorem min_at (hc : X.calm = true) (h : X.K = K) : CallR X (.builtin "min") (rMin K) := by
  subst h
  exact cr_min hc
theorem bm_at {T id : String} {nm : Str} {r : V → List V → Hp → VK → Prop} {o e : Expr} {es : List Expr} {to : TE} {t : TA} {apos cpos : Pos} (h : X.K = K) (pa : PlainAttrs T) (slot : Slot T nm id) (hty : typeOf (.builtin id) = pure (.type "method_descriptor")) (hm : MtR X id r) (ho : PE X o to) (ha : PA X (e :: es) t)
    (hbase : attributeBase o nm X.env (eval o X.env) = eval o X.env := by rfl)
    (hfew : ((backTo cpos (starEach (e :: es) X.env)).all (fun x => !x.1) && (backToKw cpos (keywordEach [] X.env)).all (fun x => x.1.isSome)
      && decide ((e :: es).length + ([] : List Keyword).length + (if ([] : List Keyword).isEmpty then 0 else 1) < 30)) = true := by rfl)
    (hline : (apos.endLine == cpos.line) = true := by rfl) (hs : starEach (e :: es) X.env = (false, eval e X.env) :: starEach es X.env := by rfl) (hplain : (backTo cpos (starEach es X.env)).any (·.1) = false := by rfl) :
    PE X (.Call (.Attribute o nm apos) (e :: es) [] cpos) (tBM K T r to t) := by
  subst h
  exact pe_bm pa slot hty hm ho ha hbase hfew hline hs hplain
end
end Sup
/-! Mathematics: works done one by one in the order of their days. -/
namespace K03
/-- one more work -/
def step (d x : Int) : Int := if x > d then d + 1 else d
def greedy (l : List Int) : Int := l.foldl step 0
/-- how many are greater than t -/
def over (t : Int) (l : List Int) : Int := ((l.countP fun x => decide (x > t) : Nat) : Int)
theorem over_app (t : Int) (a b : List Int) : over t (a ++ b) = over t a + over t b := by
  unfold over
  rw [List.countP_append]
  omega
theorem over_nonneg (t : Int) (l : List Int) : 0 ≤ over t l := by
  unfold over
  omega
theorem over_one (t x : Int) : over t [x] = if x > t then 1 else 0 := by
  unfold over
  by_cases h : x > t
  · simp [h]
  · simp [h]
theorem over_perm {t : Int} {a b : List Int} (h : a.Perm b) : over t a = over t b := by
  unfold over
  rw [h.countP_eq]
theorem foldl_le (t : Int) : ∀ (l : List Int) (d c : Int), 0 ≤ c → d ≤ t + c → l.foldl step d ≤ t + c + over t l
  | [], d, c, hc, h => by
    have : over t [] = 0 := rfl
    simpa [this] using h
  | x :: l, d, c, hc, h => by
    have e : over t (x :: l) = over t [x] + over t l := over_app t [x] l
    rw [e, over_one]
    show l.foldl step (if x > d then d + 1 else d) ≤ _
    by_cases h1 : x > d
    · rw [if_pos h1]
      by_cases h2 : x > t
      · rw [if_pos h2]
        have := foldl_le t l (d + 1) (c + 1) (by omega) (by omega)
        omega
      · rw [if_neg h2]
        have := foldl_le t l (d + 1) c hc (by omega)
        omega
    · rw [if_neg h1]
      by_cases h2 : x > t
      · rw [if_pos h2]
        have := foldl_le t l d (c + 1) (by omega) (by omega)
        omega
      · rw [if_neg h2]
        have := foldl_le t l d c hc h
        omega
theorem greedy_le (l : List Int) (t : Nat) : greedy l ≤ t + over t l := by
  have := foldl_le (t : Int) l 0 0 (by omega) (by omega)
  unfold greedy
  omega
theorem greedy_snoc (l : List Int) (x : Int) : greedy (l ++ [x]) = step (greedy l) x := by
  unfold greedy
  rw [List.foldl_append]
  rfl
theorem pw_take {l : List Int} (h : l.Pairwise (· ≤ ·)) (i : Nat) : (l.take i).Pairwise (· ≤ ·) := h.sublist (List.take_sublist i l)
/-- the rank's other form is reached -/
theorem greedy_at : ∀ (l : List Int), l.Pairwise (· ≤ ·) → ∃ t : Nat, (t : Int) ≤ greedy l ∧ t ≤ l.length ∧ greedy l = t + over t l ∧ greedy l ≤ l.length ∧ 0 ≤ greedy l := by
  intro l
  generalize hn : l.length = n
  induction n generalizing l with
  | zero =>
    intro _
    have e : l = [] := List.eq_nil_of_length_eq_zero hn
    subst e
    exact ⟨0, by decide, Nat.le_refl _, by decide, by decide, by decide⟩
  | succ n ih =>
    intro hs
    have hne : l ≠ [] := fun e => by rw [e] at hn; cases hn
    obtain ⟨p, x, rfl⟩ : ∃ p x, l = p ++ [x] := ⟨l.dropLast, l.getLast hne, (List.dropLast_concat_getLast hne).symm⟩
    rw [List.length_append] at hn
    simp at hn
    obtain ⟨h1, _, h3⟩ := List.pairwise_append.mp hs
    obtain ⟨t, a1, a2, a3, a4, a5⟩ := ih p hn h1
    rw [greedy_snoc]
    unfold step
    by_cases hx : x > greedy p
    · rw [if_pos hx]
      refine ⟨t, by omega, by omega, ?_, by omega, by omega⟩
      rw [over_app, over_one, if_pos (by omega)]
      omega
    · rw [if_neg hx]
      refine ⟨(greedy p).toNat, by omega, by omega, ?_, by omega, a5⟩
      have e1 : (((greedy p).toNat : Nat) : Int) = greedy p := Int.toNat_of_nonneg a5
      rw [e1]
      have e2 : over (greedy p) (p ++ [x]) = 0 := by
        unfold over
        have : List.countP (fun y => decide (y > greedy p)) (p ++ [x]) = 0 := by
          rw [List.countP_eq_zero]
          intro y hy
          have hyx : y ≤ x := by
            rcases List.mem_append.mp hy with q | q
            · exact h3 y q x (by simp)
            · simp at q
              omega
          simp
          omega
        rw [this]
        rfl
      rw [e2]
      omega
/-- all done: each work's day comes after as many others -/
theorem greedy_full : ∀ (l : List Int), greedy l = l.length → ∀ (k : Nat) x, l[k]? = some x → (k : Int) < x := by
  intro l
  generalize hn : l.length = n
  induction n generalizing l with
  | zero =>
    intro _ k x h
    have e : l = [] := List.eq_nil_of_length_eq_zero hn
    subst e
    cases h
  | succ n ih =>
    intro hg k x h
    have hne : l ≠ [] := fun e => by rw [e] at hn; cases hn
    obtain ⟨p, y, rfl⟩ : ∃ p x, l = p ++ [x] := ⟨l.dropLast, l.getLast hne, (List.dropLast_concat_getLast hne).symm⟩
    rw [List.length_append] at hn
    simp at hn
    have hp : greedy p ≤ p.length := by
      have := foldl_le 0 p 0 0 (by omega) (by omega)
      have h2 : over 0 p ≤ p.length := by
        unfold over
        have := List.countP_le_length (p := fun x => decide (x > (0 : Int))) (l := p)
        omega
      unfold greedy
      omega
    rw [greedy_snoc] at hg
    unfold step at hg
    by_cases hy : y > greedy p
    · rw [if_pos hy] at hg
      have e : greedy p = n := by omega
      by_cases hk : k < p.length
      · rw [List.getElem?_append_left hk] at h
        exact ih p hn (by omega) k x h
      · have hk2 : k = p.length := by
          have := (List.getElem?_eq_some_iff.mp h).1
          rw [List.length_append] at this
          simp at this
          omega
        subst hk2
        rw [List.getElem?_append_right (Nat.le_refl _)] at h
        simp at h
        omega
    · rw [if_neg hy] at hg
      omega
theorem full_of : ∀ (l : List Int), (∀ (k : Nat) x, l[k]? = some x → (k : Int) < x) → greedy l = l.length := by
  intro l
  generalize hn : l.length = n
  induction n generalizing l with
  | zero =>
    intro _
    have e : l = [] := List.eq_nil_of_length_eq_zero hn
    subst e
    rfl
  | succ n ih =>
    intro h
    have hne : l ≠ [] := fun e => by rw [e] at hn; cases hn
    obtain ⟨p, y, rfl⟩ : ∃ p x, l = p ++ [x] := ⟨l.dropLast, l.getLast hne, (List.dropLast_concat_getLast hne).symm⟩
    rw [List.length_append] at hn
    simp at hn
    have e := ih p hn fun k x hk => h k x (by rw [List.getElem?_append_left (List.getElem?_eq_some_iff.mp hk).1]; exact hk)
    have hy := h p.length y (by rw [List.getElem?_append_right (Nat.le_refl _)]; simp)
    rw [greedy_snoc]
    unfold step
    rw [if_pos (by omega)]
    omega
/-- the rank: done one by one in the order of the days -/
def sortI (l : List Int) : List Int := l.mergeSort (fun a b => decide (a ≤ b))
theorem sortI_perm (l : List Int) : (sortI l).Perm l := List.mergeSort_perm l _
theorem sortI_pw (l : List Int) : (sortI l).Pairwise (· ≤ ·) := by
  have h := List.pairwise_mergeSort (le := fun a b : Int => decide (a ≤ b)) (fun a b c h1 h2 => by simp at *; omega) (fun a b => by simp; omega) l
  exact h.imp fun h => by simpa using h
def workRank (l : List Int) : Int := greedy (sortI l)
theorem workRank_of {l s : List Int} (hp : s.Perm l) (hs : s.Pairwise (· ≤ ·)) : greedy s = workRank l := by
  unfold workRank
  rw [PySem.W.ksm_same (hp.trans (sortI_perm l).symm) hs (sortI_pw l)]
/-- the least value of t plus the number of days beyond t, t from 0 to n -/
theorem workRank_min {l : List Int} {n : Nat} (hn : l.length ≤ n) {m : Int} (h1 : ∃ t : Nat, t ≤ n ∧ m = t + over t l) (h2 : ∀ t : Nat, t ≤ n → m ≤ t + over t l) : workRank l = m := by
  obtain ⟨t, a1, a2, a3, _, _⟩ := greedy_at (sortI l) (sortI_pw l)
  have hlen := (sortI_perm l).length_eq
  have e : ∀ t : Int, over t (sortI l) = over t l := fun t => over_perm (sortI_perm l)
  obtain ⟨u, b1, b2⟩ := h1
  have c1 := greedy_le (sortI l) u
  rw [e] at c1 a3
  have c2 := h2 t (by omega)
  unfold workRank
  omega
theorem workRank_le (l : List Int) : workRank l ≤ l.length := by
  obtain ⟨t, _, _, _, a4, _⟩ := greedy_at (sortI l) (sortI_pw l)
  have hlen := (sortI_perm l).length_eq
  unfold workRank
  omega
/-- how many are at most t -/
def upto (t : Int) (l : List Int) : Int := ((l.countP fun x => decide (x ≤ t) : Nat) : Int)
theorem upto_over (t : Int) (l : List Int) : upto t l + over t l = l.length := by
  unfold upto over
  induction l with
  | nil => rfl
  | cons x l ih =>
    rw [List.countP_cons, List.countP_cons, List.length_cons]
    by_cases h : x ≤ t
    · have e1 : decide (x ≤ t) = true := decide_eq_true h
      have e2 : decide (x > t) = false := decide_eq_false (by omega)
      simp only [e1, e2, if_true, Bool.false_eq_true, if_false]
      omega
    · have e1 : decide (x ≤ t) = false := decide_eq_false h
      have e2 : decide (x > t) = true := decide_eq_true (by omega)
      simp only [e1, e2, if_true, Bool.false_eq_true, if_false]
      omega
theorem workRank_full {l : List Int} {n : Nat} (hn : l.length ≤ n) : workRank l = l.length ↔ ∀ t : Nat, t ≤ n → upto t l ≤ t := by
  obtain ⟨t, a1, a2, a3, a4, a5⟩ := greedy_at (sortI l) (sortI_pw l)
  have hlen := (sortI_perm l).length_eq
  have e : ∀ t : Int, over t (sortI l) = over t l := fun t => over_perm (sortI_perm l)
  have w : workRank l = greedy (sortI l) := rfl
  constructor
  · intro h u hu
    have c1 := greedy_le (sortI l) u
    rw [e] at c1
    have c2 := upto_over u l
    omega
  · intro h
    have c1 := h t (by omega)
    have c2 := upto_over t l
    rw [e] at a3
    have c3 := workRank_le l
    omega
/-! ### pairs in order -/
def lexLe (p q : Int × Int) : Prop := p.1 < q.1 ∨ (p.1 = q.1 ∧ p.2 ≤ q.2)
theorem lex_same {a b : List (Int × Int)} (hp : a.Perm b) (ha : a.Pairwise lexLe) (hb : b.Pairwise lexLe) : a = b := by
  have anti : ∀ x y : Int × Int, x ∈ a → y ∈ b → lexLe x y → lexLe y x → x = y := fun x y _ _ h1 h2 => by
    unfold lexLe at h1 h2
    exact Prod.ext (by omega) (by omega)
  first
    | exact hp.eq_of_pairwise anti ha hb
    | exact List.Perm.eq_of_pairwise anti ha hb hp
    | exact hp.eq_of_sorted anti ha hb
end K03
namespace K03
open PySem PySem.Spec PyProof.Rows L2 Sup
open PySem.W (Frag)
/-! ### the text by places -/
def top (i : Nat) : Stmt := PySem.Challenge.pw_unseenprices_k03_counts_of_three_kinds.main.body.getD i (.Pass ⟨0, 0, 0, 0⟩)
abbrev sBadNumber : Stmt := inClass (top 3) 0
abbrev sBadSet : Stmt := inClass (top 4) 0
abbrev sBadEntry : Stmt := inClass (top 5) 0
abbrev sNotFree : Stmt := inClass (top 7) 0
abbrev sIsCount : Stmt := top 9
abbrev sIsBelow : Stmt := top 10
abbrev sBadPlace : Stmt := top 11
abbrev sSetOf : Stmt := top 12
/-! ### the errors' __init__ -/
def okStr (v : V) : Prop := ∃ y : Str, v = .str y ∧ y.length ≤ 1000
def okInt (v : V) : Prop := ∃ i : Int, v = .int i ∧ i.natAbs.log2 < 1920 ∧ ((toString i : String) : Str).length ≤ 1000
def okAny (_ : V) : Prop := True
theorem strApp (x y : Str) : (x ++ y).length = x.length + y.length := Str.length_append x y
theorem fits {x : Str} (h : x.length ≤ 10000) : x.length ≤ sizeLine := by
  rw [sizeLine_eq]
  omega
theorem fits2 {x y : Str} (h : x.length ≤ 4000) (g : y.length ≤ 4000) : (x ++ y).length ≤ sizeLine := by
  rw [strApp, sizeLine_eq]
  omega
theorem empLen : Str.empty.length = 0 := rfl
theorem scBadNumber : ScopeS ["self", "name"] ["self", "name"] (defScope sBadNumber) := ⟨rfl, rfl, rfl, by decide +kernel, rfl, by decide +kernel, rfl, by decide +kernel, by decide +kernel⟩
theorem scBadSet : ScopeS ["self", "place"] ["self", "place"] (defScope sBadSet) := ⟨rfl, rfl, rfl, by decide +kernel, rfl, by decide +kernel, rfl, by decide +kernel, by decide +kernel⟩
theorem scBadEntry : ScopeS ["self", "place"] ["self", "place"] (defScope sBadEntry) := ⟨rfl, rfl, rfl, by decide +kernel, rfl, by decide +kernel, rfl, by decide +kernel, by decide +kernel⟩
theorem scNotFree : ScopeS ["self", "things"] ["self", "things"] (defScope sNotFree) := ⟨rfl, rfl, rfl, by decide +kernel, rfl, by decide +kernel, rfl, by decide +kernel, by decide +kernel⟩
section
variable {P : Program} {w : World} {K : Frag} {mg : Str → Option Value} {base : Heap} {f cc C : Addr} {fd : FuncData}
theorem noCd {ar : Str} {x : Str} (h : some x = some ar) (d : (x == ("__classdict__" : Str)) = false) : (ar == ("__classdict__" : Str)) = false := by
  cases h
  exact d
theorem ok_badNumber (F : SFun P K "__init__" "BadNumber.__init__" sBadNumber f fd cc C) (T : ErrT K mg "BadNumber" "name" C f) (htop : (P.main.scope.names.lookup ("super" : Str)).isSome = false) (hno : mg ("super" : Str) = none) :
    FnOk P w K mg base (L2.CX P w) 1 f fd ["self", "name"] (spErr C "name" okStr) := by
  refine F.okX scBadNumber rfl ⟨_, rfl, rfl, .inl rfl⟩ htop hno (fun vs H Q E h => ?_) (fun cdv A outer s H vs Q E hr h SA => ?_)
  · obtain ⟨a, v, rfl, _⟩ := h
    rfl
  · obtain ⟨a, v, rfl, hH, ⟨y, rfl, hy⟩, k⟩ := h
    refine ⟨_, pssa_cons (psa_superX SA (fun ar e => noCd e (by decide)) T.oex T.mro T.sup T.isV (pa_cons (pe_joined (.cons (pe_fmt (pv 1)) (.cons pe_str .nil))) pa_nil))
      (pssa_of (pss_one (ps_ost (pv 0) (pv 1)))), ?_⟩
    have h0 : (Str.empty ++ y).length ≤ 1000 := by rw [strApp, empLen]; omega
    exact ⟨a, rfl, hH, _, rfl, .inl ⟨y, rfl, fits (by omega), y, rfl, fits (by omega), _, rfl, fits2 (by omega) (by decide +kernel), by simp, hH, _, rfl, _, rfl, a, C, rfl, T.oex, T.noF, .inl ⟨hH, fun dx h1 h2 => k dx h1 h2⟩⟩⟩
theorem ok_badSet (F : SFun P K "__init__" "BadSet.__init__" sBadSet f fd cc C) (T : ErrT K mg "BadSet" "place" C f) (htop : (P.main.scope.names.lookup ("super" : Str)).isSome = false) (hno : mg ("super" : Str) = none) :
    FnOk P w K mg base (L2.CX P w) 1 f fd ["self", "place"] (spErr C "place" okInt) := by
  refine F.okX scBadSet rfl ⟨_, rfl, rfl, .inl rfl⟩ htop hno (fun vs H Q E h => ?_) (fun cdv A outer s H vs Q E hr h SA => ?_)
  · obtain ⟨a, v, rfl, _⟩ := h
    rfl
  · obtain ⟨a, v, rfl, hH, ⟨i, rfl, hi, hy⟩, k⟩ := h
    refine ⟨_, pssa_cons (psa_superX SA (fun ar e => noCd e (by decide)) T.oex T.mro T.sup T.isV (pa_cons (pe_joined (.cons pe_str (.cons (pe_fmt (pv 1)) (.cons pe_str .nil)))) pa_nil))
      (pssa_of (pss_one (ps_ost (pv 0) (pv 1)))), ?_⟩
    have h0 : (Str.empty ++ ("entry " : Str)).length ≤ 1000 := by decide +kernel
    have h1 : (Str.empty ++ ("entry " : Str) ++ ((toString i : String) : Str)).length ≤ 2000 := by rw [strApp]; omega
    exact ⟨a, rfl, hH, _, rfl, fits (by omega), _, rfl, .inr ⟨i, rfl, hi, _, rfl, fits (by omega), _, rfl, fits2 (by omega) (by decide +kernel), by simp, hH, _, rfl, _, rfl, a, C, rfl, T.oex, T.noF, .inl ⟨hH, fun dx h1 h2 => k dx h1 h2⟩⟩⟩
theorem ok_badEntry (F : SFun P K "__init__" "BadEntry.__init__" sBadEntry f fd cc C) (T : ErrT K mg "BadEntry" "place" C f) (htop : (P.main.scope.names.lookup ("super" : Str)).isSome = false) (hno : mg ("super" : Str) = none) :
    FnOk P w K mg base (L2.CX P w) 1 f fd ["self", "place"] (spErr C "place" okInt) := by
  refine F.okX scBadEntry rfl ⟨_, rfl, rfl, .inl rfl⟩ htop hno (fun vs H Q E h => ?_) (fun cdv A outer s H vs Q E hr h SA => ?_)
  · obtain ⟨a, v, rfl, _⟩ := h
    rfl
  · obtain ⟨a, v, rfl, hH, ⟨i, rfl, hi, hy⟩, k⟩ := h
    refine ⟨_, pssa_cons (psa_superX SA (fun ar e => noCd e (by decide)) T.oex T.mro T.sup T.isV (pa_cons (pe_joined (.cons pe_str (.cons (pe_fmt (pv 1)) (.cons pe_str .nil)))) pa_nil))
      (pssa_of (pss_one (ps_ost (pv 0) (pv 1)))), ?_⟩
    have h0 : (Str.empty ++ ("entry " : Str)).length ≤ 1000 := by decide +kernel
    have h1 : (Str.empty ++ ("entry " : Str) ++ ((toString i : String) : Str)).length ≤ 2000 := by rw [strApp]; omega
    exact ⟨a, rfl, hH, _, rfl, fits (by omega), _, rfl, .inr ⟨i, rfl, hi, _, rfl, fits (by omega), _, rfl, fits2 (by omega) (by decide +kernel), by simp, hH, _, rfl, _, rfl, a, C, rfl, T.oex, T.noF, .inl ⟨hH, fun dx h1 h2 => k dx h1 h2⟩⟩⟩
theorem ok_notFree (F : SFun P K "__init__" "NotFree.__init__" sNotFree f fd cc C) (T : ErrT K mg "NotFree" "things" C f) (htop : (P.main.scope.names.lookup ("super" : Str)).isSome = false) (hno : mg ("super" : Str) = none) :
    FnOk P w K mg base (L2.CX P w) 1 f fd ["self", "things"] (spErr C "things" okAny) := by
  refine F.okX scNotFree rfl ⟨_, rfl, rfl, .inl rfl⟩ htop hno (fun vs H Q E h => ?_) (fun cdv A outer s H vs Q E hr h SA => ?_)
  · obtain ⟨a, v, rfl, _⟩ := h
    rfl
  · obtain ⟨a, v, rfl, hH, _, k⟩ := h
    refine ⟨_, pssa_cons (psa_superX SA (fun ar e => noCd e (by decide)) T.oex T.mro T.sup T.isV (pa_cons pe_str pa_nil))
      (pssa_of (pss_one (ps_ost (pv 0) (pv 1)))), ?_⟩
    exact ⟨a, rfl, hH, by simp, hH, _, rfl, _, rfl, a, C, rfl, T.oex, T.noF, .inl ⟨hH, fun dx h1 h2 => k dx h1 h2⟩⟩
end
/-! ### what the module leaves to the built-in names -/
structure Bt (mg : Str → Option Value) : Prop where
  isi : mg "isinstance" = none
  int : mg "int" = none
  bool : mg "bool" = none
  len : mg "len" = none
  tup : mg "tuple" = none
  rng : mg "range" = none
  enu : mg "enumerate" = none
  mn : mg "min" = none
  mx : mg "max" = none
  sum : mg "sum" = none
  srt : mg "sorted" = none
  abs : mg "abs" = none
  lst : mg "list" = none
  all : mg "all" = none
  sup : mg ("super" : Str) = none
/-! ### is_count, is_below -/
def tyN : V → String
  | .non => "NoneType"
  | .bl _ => "bool"
  | .int _ => "int"
  | _ => "str"
def Sc : V → Prop
  | .non => True
  | .bl _ => True
  | .int _ => True
  | .str _ => True
  | _ => False
def cntV : V → Bool
  | .int i => decide (0 ≤ i)
  | _ => false
theorem tyX {K : Frag} {H : Hp} : ∀ {x : V}, Sc x → TyX K H x (.type (tyN x))
  | .non, _ => .base .non
  | .bl b, _ => .base (.bl b)
  | .int i, _ => .base (.int i)
  | .str s, _ => .base (.str s)
def spIsCount : Sp := fun vs H Q _ => ∃ x, vs = [x] ∧ Sc x ∧ Q (.bl (cntV x)) H
def belowV (x : V) (n : Int) : Bool := cntV x && (match x with | .int i => decide (i < n) | _ => false)
def spIsBelow : Sp := fun vs H Q _ => ∃ (x : V) (n : Int), vs = [x, .int n] ∧ Sc x ∧ Q (.bl (belowV x n)) H
theorem scIsCount : FnScope ["value"] ["value"] (defScope sIsCount) := ⟨rfl, rfl, rfl, by decide +kernel, rfl, by decide +kernel, by decide +kernel⟩
theorem scIsBelow : FnScope ["value", "bound"] ["value", "bound"] (defScope sIsBelow) := ⟨rfl, rfl, rfl, by decide +kernel, rfl, by decide +kernel, by decide +kernel⟩
section
variable {P : Program} {w : World} {K : Frag} {mg : Str → Option Value} {base : Heap} {f fC : Addr} {fd fdC : FuncData}
theorem ok_isCount (F : Fun K "is_count" "is_count" sIsCount f fd) (B : Bt mg) : FnOk P w K mg base CX0 1 f fd ["value"] spIsCount := by
  refine F.ok scIsCount (fun vs H Q E h => ?_) (fun cdv A outer s H vs Q E hr h => ?_)
  · obtain ⟨x, rfl, _⟩ := h
    rfl
  · obtain ⟨x, rfl, hx, k⟩ := h
    refine ⟨_, pss_one (ps_ret (pe_and (pe_callB call_isi rfl B.isi boot_isinstance (pa_cons (pv 0) (pa_cons (pe_bltn (v := .ty "int") (by rfl) B.int boot_int rfl) pa_nil)))
      (pe_and (pe_not (pe_callB call_isi rfl B.isi boot_isinstance (pa_cons (pv 0) (pa_cons (pe_bltn (v := .ty "bool") (by rfl) B.bool boot_bool rfl) pa_nil))))
        (pe_one (pe_cmpR op_ge (pv 0) pe_int (nomark _)))))), ?_⟩
    match x, hx with
    | .non, _ => exact ⟨_, rfl, .non, .ty "int", .type "NoneType", .type "int", false, rfl, .ty "int", .base .non, kit_ty (by decide +kernel), _, rfl, iteF k⟩
    | .bl b, _ => exact ⟨_, rfl, .bl b, .ty "int", .type "bool", .type "int", true, rfl, .ty "int", .base (.bl b), kit_ty (by decide +kernel), _, rfl, iteT ⟨_, rfl, .bl b, .ty "bool", .type "bool", .type "bool", true, rfl, .ty "bool", .base (.bl b), kit_ty (by decide +kernel), _, rfl, _, rfl, iteF k⟩⟩
    | .str z, _ => exact ⟨_, rfl, .str z, .ty "int", .type "str", .type "int", false, rfl, .ty "int", .base (.str z), kit_ty (by decide +kernel), _, rfl, iteF k⟩
    | .int i, _ => exact ⟨_, rfl, .int i, .ty "int", .type "int", .type "int", true, rfl, .ty "int", .base (.int i), kit_ty (by decide +kernel), _, rfl, iteT ⟨_, rfl, .int i, .ty "bool", .type "int", .type "bool", false, rfl, .ty "bool", .base (.int i), kit_ty (by decide +kernel), _, rfl, _, rfl, iteT ⟨_, rfl, _, _, rfl, rfl, k⟩⟩⟩
theorem ok_isBelow (F : Fun K "is_below" "is_below" sIsBelow f fd) (FC : Fun K "is_count" "is_count" sIsCount fC fdC) (bC : Binds K fdC ["value"] []) (gC : mg "is_count" = some (.ref fC)) (B : Bt mg) : FnOk P w K mg base CX0 2 f fd ["value", "bound"] spIsBelow := by
  have GC : FnOk P w K mg base CX0 1 fC fdC ["value"] spIsCount := ok_isCount FC B
  refine F.ok scIsBelow (fun vs H Q E h => ?_) (fun cdv A outer s H vs Q E hr h => ?_)
  · obtain ⟨x, n, rfl, _⟩ := h
    rfl
  · obtain ⟨x, n, rfl, hx, k⟩ := h
    refine ⟨_, pss_one (ps_ret (pe_and (pe_call GC hr rfl gC FC.kp bC .nil pass0 (pa_cons (pv 0) pa_nil)) (pe_one (pe_cmpR op_lt (pv 0) (pv 1) (nomark _))))), ?_⟩
    refine ⟨_, rfl, x, rfl, hx, _, rfl, ?_⟩
    match x, hx with
    | .non, _ => exact iteF k
    | .bl b, _ => exact iteF k
    | .str z, _ => exact iteF k
    | .int i, _ =>
      by_cases h0 : 0 ≤ i
      · have e : cntV (.int i) = true := decide_eq_true h0
        have e2 : belowV (.int i) n = decide (i < n) := by unfold belowV; rw [e] <;> rfl
        rw [e2] at k
        rw [if_pos e]
        exact ⟨_, rfl, _, rfl, _, _, rfl, rfl, k⟩
      · have e : cntV (.int i) = false := decide_eq_false h0
        have e2 : belowV (.int i) n = false := by unfold belowV; rw [e] <;> rfl
        rw [e2] at k
        rw [e]
        exact iteF k
end
end K03
namespace K03
open PySem PySem.Spec PyProof.Rows L2 Sup
open PySem.W (Frag)
/-! ### heaps -/
theorem Same.seqT {K : Frag} {H H' : Hp} {a : Addr} {xs : List V} (e : Same H H') (h : SqT K H a xs) : SqT K H' a xs := by
  rcases h with (h | ⟨o, h⟩) | h
  · exact .inl (.inl (e _ _ h))
  · exact .inl (.inr ⟨o, e _ _ h⟩)
  · exact .inr h
theorem Same.new {H H' : Hp} {p : Addr} {o : HO} (e : Same H H') (hp : H' p = none) : Same H (upd H' p o) := fun b u h => by
  have q := e b u h
  rw [upd_ne (ne_of_none q hp)]
  exact q
theorem walkEnumT {K : Frag} {a : Addr} {xs : List V} : Walk (IteT K a) xs.length (fun H => SqT K H a xs) (YPair (fun i => some (.int (i : Nat))) (fun i => xs[i]?)) := by
  refine ⟨fun i _ hi q => ⟨xs, xs[i], q, by simp [hi]⟩, fun _ q => ⟨xs, q, Nat.le_refl _⟩, fun i H v H' _ q y => ?_⟩
  obtain ⟨T, x, h1, h2, h3, h4⟩ := y
  exact ⟨T, .int (i : Nat), x, h1, h2, h3, rfl, h4 xs q⟩
/-- a list or a tuple of values -/
def Sq (K : Frag) (H : Hp) (a : Addr) (xs : List V) : Prop := SqL K H a xs ∨ SqT K H a xs
theorem Same.sq {K : Frag} {H H' : Hp} {a : Addr} {xs : List V} (e : Same H H') (h : Sq K H a xs) : Sq K H' a xs := h.elim (fun h => .inl (e.seq h)) fun h => .inr (Same.seqT e h)
/-! ### bad_place -/
/-- the j-th entry does not fit -/
def Bad (size : Int) (ns : List Int) (j : Nat) : Prop := ¬ (0 ≤ ns.getD j 0 ∧ ns.getD j 0 < size) ∨ (0 < j ∧ ns.getD j 0 ≤ ns.getD (j - 1) 0)
instance (size : Int) (ns : List Int) (j : Nat) : Decidable (Bad size ns j) := by unfold Bad; exact inferInstance
theorem belowV_yes {x n : Int} (h : 0 ≤ x ∧ x < n) : belowV (.int x) n = true := by
  unfold belowV cntV
  simp [h.1, h.2]
theorem belowV_no {x n : Int} (h : ¬ (0 ≤ x ∧ x < n)) : belowV (.int x) n = false := by
  unfold belowV cntV
  by_cases h0 : 0 ≤ x
  · have h1 : ¬ x < n := fun z => h ⟨h0, z⟩
    simp [h0, h1]
  · simp [h0]
def spBadPlace (K : Frag) : Sp := fun vs H Q _ => ∃ (size : Int) (a : Addr) (ns : List Int), vs = [.int size, .ref a] ∧ Sq K H a (ns.map V.int) ∧
  (∀ H', Same H H' → (∀ j, j < ns.length → ¬ Bad size ns j) → Q .non H') ∧ ∀ H' (i : Nat), Same H H' → i < ns.length → Bad size ns i → (∀ j, j < i → ¬ Bad size ns j) → Q (.int (i : Nat)) H'
theorem scBadPlace : FnScope ["size", "things", "place", "thing"] ["size", "things"] (defScope sBadPlace) := ⟨rfl, rfl, rfl, by decide +kernel, rfl, by decide +kernel, by decide +kernel⟩
theorem getD_map {ns : List Int} {i : Nat} {y : V} (h : (ns.map V.int)[i]? = some y) : y = .int (ns.getD i 0) := by
  rw [List.getElem?_map] at h
  cases e : ns[i]? with
  | none =>
    rw [e] at h
    cases h
  | some z =>
    rw [e] at h
    have z2 : ns.getD i 0 = z := by rw [List.getD_eq_getElem?_getD, e] <;> rfl
    rw [z2]
    exact (Option.some.inj h).symm
theorem map_at {ns : List Int} {i : Nat} (h : i < ns.length) : (ns.map V.int)[i]? = some (.int (ns.getD i 0)) := by
  rw [List.getElem?_map, List.getD_eq_getElem?_getD, List.getElem?_eq_getElem h] <;> rfl
section
variable {P : Program} {w : World} {K : Frag} {mg : Str → Option Value} {base : Heap} {f fB fC : Addr} {fd fdB fdC : FuncData}
theorem ok_badPlace (F : Fun K "bad_place" "bad_place" sBadPlace f fd) (FB : Fun K "is_below" "is_below" sIsBelow fB fdB) (bB : Binds K fdB ["value", "bound"] []) (gB : mg "is_below" = some (.ref fB))
    (GB : FnOk P w K mg base CX0 2 fB fdB ["value", "bound"] spIsBelow) (B : Bt mg) : FnOk P w K mg base CX0 3 f fd ["size", "things"] (spBadPlace K) := by
  refine F.ok scBadPlace (fun vs H Q E h => ?_) (fun cdv A outer s H vs Q E hr h => ?_)
  · obtain ⟨size, a, ns, rfl, _⟩ := h
    rfl
  · obtain ⟨size, a, ns, rfl, hS, kN, kB⟩ := h
    rcases hS with hS | hS
    · refine ⟨_, pss_cons (ps_for PassesOwn.never rfl (pi_enum (by rfl) B.enu (pa_cons (pv 1) pa_nil))
          (pg_tup rfl (pgs_cons (pg_name (i := 2) scBadPlace.nd rfl (Or.inl rfl)) (pgs_cons (pg_name (i := 3) scBadPlace.nd rfl (Or.inl rfl)) pgs_nil)))
          (pss_one (ps_if (PW.pt (pw_or (pt_not (pt_val (pe_call GB hr rfl gB FB.kp bB .nil pass0 (pa_cons (pv 3) (pa_cons (pv 0) pa_nil)))))
            (pw_or1 (PW.pt (pw_and (pt_cmpR op_gt (pv 2) pe_int (nomark _)) (pw_and1 (pt_cmpR op_le (pv 3) (pe_ix ix_list (pv 1) (pe_op op_sub (pv 2) pe_int) (fun _ _ => rfl)) (nomark _))))))))
            (pss_one (ps_ret (pv 2))) pss_nil)))
        (pss_one (ps_ret pe_non)), ?_⟩
      refine ⟨.ref a, rfl, a, _, rfl, hS, for_it walk_enum (fun i σ H' => ∃ p t, σ = [some (.int size), some (.ref a), p, t] ∧ Same H H' ∧ ∀ j, j < i → ¬ Bad size ns j) ⟨none, none, rfl, Same.refl H, fun j hj => absurd hj (Nat.not_lt_zero j)⟩
        (fun i σ H' _ ⟨_, _, _, sm, _⟩ => sm.seq hS) ?_ ?_⟩
      · rintro i x σ H1 H2 hi ⟨p, t, rfl, sm, hb⟩ ⟨T, x1, y1, rfl, hT, rfl, hx, hy⟩
        cases hx
        have hy := getD_map hy
        subst hy
        have hi' : i < ns.length := by rw [List.length_map] at hi; exact hi
        have sm2 : Same H (upd H1 T (.tup [V.int (i : Nat), .int (ns.getD i 0)])) := Same.new sm hT
        refine ⟨T, _, rfl, SqT.of upd_same, rfl, _, _, rfl, _, _, rfl, rfl, ?_⟩
        refine ⟨_, rfl, _, rfl, .int (ns.getD i 0), size, rfl, trivial, _, rfl, ?_⟩
        by_cases hA : 0 ≤ ns.getD i 0 ∧ ns.getD i 0 < size
        · rw [belowV_yes hA]
          refine iteF ?_
          refine ⟨_, rfl, _, _, rfl, rfl, _, rfl, ?_⟩
          by_cases h0 : (0 : Int) < (i : Int)
          · rw [decide_eq_true h0]
            refine iteT ?_
            have e1 : (i : Int) - 1 = ((i - 1 : Nat) : Int) := by omega
            refine ⟨_, rfl, _, rfl, _, rfl, _, _, rfl, rfl, a, _, _, _, rfl, rfl, (sm2.seq hS), (by rw [e1]; exact atI_nat (map_at (i := i - 1) (by omega))), _, _, rfl, rfl, _, rfl, ?_⟩
            by_cases hle : ns.getD i 0 ≤ ns.getD (i - 1) 0
            · rw [decide_eq_true hle]
              exact iteT ⟨_, rfl, kB _ i sm2 hi' (.inr ⟨by omega, hle⟩) hb⟩
            · rw [decide_eq_false hle]
              refine iteF ⟨_, _, rfl, sm2, fun j hj => ?_⟩
              by_cases e : j = i
              · rw [e]
                exact fun z => z.elim (fun z => z hA) fun z => hle z.2
              · exact hb j (by omega)
          · rw [decide_eq_false h0]
            refine iteF (iteF ⟨_, _, rfl, sm2, fun j hj => ?_⟩)
            by_cases e : j = i
            · rw [e]
              exact fun z => z.elim (fun z => z hA) fun z => absurd z.1 (by omega)
            · exact hb j (by omega)
        · rw [belowV_no hA]
          exact iteT (iteT ⟨_, rfl, kB _ i sm2 hi' (.inl hA) hb⟩)
      · rintro σ H1 ⟨p, t, rfl, sm, hb⟩
        rw [List.length_map] at hb
        exact kN _ sm hb
    · refine ⟨_, pss_cons (ps_for PassesOwn.never rfl (pi_enumT (by rfl) B.enu (pa_cons (pv 1) pa_nil))
          (pg_tup rfl (pgs_cons (pg_name (i := 2) scBadPlace.nd rfl (Or.inl rfl)) (pgs_cons (pg_name (i := 3) scBadPlace.nd rfl (Or.inl rfl)) pgs_nil)))
          (pss_one (ps_if (PW.pt (pw_or (pt_not (pt_val (pe_call GB hr rfl gB FB.kp bB .nil pass0 (pa_cons (pv 3) (pa_cons (pv 0) pa_nil)))))
            (pw_or1 (PW.pt (pw_and (pt_cmpR op_gt (pv 2) pe_int (nomark _)) (pw_and1 (pt_cmpR op_le (pv 3) (pe_ix ix_tup (pv 1) (pe_op op_sub (pv 2) pe_int) (fun _ _ => rfl)) (nomark _))))))))
            (pss_one (ps_ret (pv 2))) pss_nil)))
        (pss_one (ps_ret pe_non)), ?_⟩
      refine ⟨.ref a, rfl, a, _, rfl, hS, for_it walkEnumT (fun i σ H' => ∃ p t, σ = [some (.int size), some (.ref a), p, t] ∧ Same H H' ∧ ∀ j, j < i → ¬ Bad size ns j) ⟨none, none, rfl, Same.refl H, fun j hj => absurd hj (Nat.not_lt_zero j)⟩
        (fun i σ H' _ ⟨_, _, _, sm, _⟩ => Same.seqT sm hS) ?_ ?_⟩
      · rintro i x σ H1 H2 hi ⟨p, t, rfl, sm, hb⟩ ⟨T, x1, y1, rfl, hT, rfl, hx, hy⟩
        cases hx
        have hy := getD_map hy
        subst hy
        have hi' : i < ns.length := by rw [List.length_map] at hi; exact hi
        have sm2 : Same H (upd H1 T (.tup [V.int (i : Nat), .int (ns.getD i 0)])) := Same.new sm hT
        refine ⟨T, _, rfl, SqT.of upd_same, rfl, _, _, rfl, _, _, rfl, rfl, ?_⟩
        refine ⟨_, rfl, _, rfl, .int (ns.getD i 0), size, rfl, trivial, _, rfl, ?_⟩
        by_cases hA : 0 ≤ ns.getD i 0 ∧ ns.getD i 0 < size
        · rw [belowV_yes hA]
          refine iteF ?_
          refine ⟨_, rfl, _, _, rfl, rfl, _, rfl, ?_⟩
          by_cases h0 : (0 : Int) < (i : Int)
          · rw [decide_eq_true h0]
            refine iteT ?_
            have e1 : (i : Int) - 1 = ((i - 1 : Nat) : Int) := by omega
            refine ⟨_, rfl, _, rfl, _, rfl, _, _, rfl, rfl, a, _, _, _, rfl, rfl, (Same.seqT sm2 hS), (by rw [e1]; exact atI_nat (map_at (i := i - 1) (by omega))), _, _, rfl, rfl, _, rfl, ?_⟩
            by_cases hle : ns.getD i 0 ≤ ns.getD (i - 1) 0
            · rw [decide_eq_true hle]
              exact iteT ⟨_, rfl, kB _ i sm2 hi' (.inr ⟨by omega, hle⟩) hb⟩
            · rw [decide_eq_false hle]
              refine iteF ⟨_, _, rfl, sm2, fun j hj => ?_⟩
              by_cases e : j = i
              · rw [e]
                exact fun z => z.elim (fun z => z hA) fun z => hle z.2
              · exact hb j (by omega)
          · rw [decide_eq_false h0]
            refine iteF (iteF ⟨_, _, rfl, sm2, fun j hj => ?_⟩)
            by_cases e : j = i
            · rw [e]
              exact fun z => z.elim (fun z => z hA) fun z => absurd z.1 (by omega)
            · exact hb j (by omega)
        · rw [belowV_no hA]
          exact iteT (iteT ⟨_, rfl, kB _ i sm2 hi' (.inl hA) hb⟩)
      · rintro σ H1 ⟨p, t, rfl, sm, hb⟩
        rw [List.length_map] at hb
        exact kN _ sm hb

/-! ### set_of -/
theorem okInt_small : ∀ i : Nat, i ≤ 100 → okInt (.int (i : Nat)) := by
  have h : ∀ i ∈ List.range 101, ((i : Int)).natAbs.log2 < 1920 ∧ ((toString (i : Int) : String) : Str).length ≤ 1000 := by decide +kernel
  intro i hi
  have q := h i (List.mem_range.mpr (by omega))
  exact ⟨(i : Int), rfl, q.1, q.2⟩
def spSetOf (K : Frag) (C : Addr) : Sp := fun vs H Q E => ∃ (size : Int) (a : Addr) (ns : List Int), vs = [.int size, .ref a] ∧ Sq K H a (ns.map V.int) ∧ ns.length ≤ 100 ∧
  ((∀ j, j < ns.length → ¬ Bad size ns j) → ∀ H' p, Same H H' → SqT K H' p (ns.map V.int) → Q (.ref p) H') ∧
  ∀ (i : Nat), i < ns.length → Bad size ns i → (∀ j, j < i → ¬ Bad size ns j) → ∀ H' d, Same H H' → H' d = none → E (.ref C) (some d) (upd H' d (.xd [("place", .int (i : Nat))]))
theorem scSetOf : FnScope ["size", "things", "place"] ["size", "things"] (defScope sSetOf) := ⟨rfl, rfl, rfl, by decide +kernel, rfl, by decide +kernel, by decide +kernel⟩
theorem ok_setOf {C fE : Addr} {fdE : FuncData} (F : Fun K "set_of" "set_of" sSetOf f fd) (FB : Fun K "bad_place" "bad_place" sBadPlace fB fdB) (bB : Binds K fdB ["size", "things"] []) (gB : mg "bad_place" = some (.ref fB))
    (GB : FnOk P w K mg base CX0 3 fB fdB ["size", "things"] (spBadPlace K)) (T : ErrT K mg "BadSet" "place" C fE) (GE : FnOk P w K mg base (L2.CX P w) 1 fE fdE ["self", "place"] (spErr C "place" okInt)) (bE : Binds K fdE ["self", "place"] []) (B : Bt mg) :
    FnOk P w K mg base (L2.CX P w) 4 f fd ["size", "things"] (spSetOf K C) := by
  refine F.okX scSetOf (fun vs H Q E h => ?_) (fun cdv A outer s H vs Q E hr h => ?_)
  · obtain ⟨size, a, ns, rfl, _⟩ := h
    rfl
  · obtain ⟨size, a, ns, rfl, hS, hlen, kQ, kE⟩ := h
    have hr2 : Room 2 _ := hr.mono (by decide)
    refine ⟨_, pss_cons (ps_set (i := 2) scSetOf.nd rfl (Or.inl rfl) (pe_call GB hr rfl gB FB.kp bB .nil pass0 (pa_cons (pv 0) (pa_cons (pv 1) pa_nil))))
      (pss_cons (ps_if (pt_cmpR op_notN (pv 2) pe_non (nomark _)) (pss_one (ps_raiseE rfl T GE bE hr2 (takes_of rfl rfl rfl rfl) rfl (pa_cons (pv 2) pa_nil))) pss_nil)
      (pss_one (ps_ret (pe_tupleOf rfl B.tup (pv 1))))), ?_⟩
    refine ⟨_, rfl, _, rfl, size, a, ns, rfl, hS, fun H1 sm hN => ?_, fun H1 i sm hi hb hN => ?_⟩
    · refine ⟨_, rfl, rfl, _, rfl, iteF ?_⟩
      refine ⟨_, rfl, ?_⟩
      rcases hS with hS | hS
      · exact .inl ⟨a, _, rfl, sm.seq hS, fun q hq => kQ hN _ q (Same.new sm hq) (SqT.of upd_same)⟩
      · exact .inr ⟨a, _, rfl, Same.seqT sm hS, kQ hN _ a sm (Same.seqT sm hS)⟩
    · refine ⟨_, rfl, rfl, _, rfl, iteT ?_⟩
      exact ⟨_, rfl, raiseE_of E (okInt_small i (by omega)) fun d hd => kE i hi hb hN _ d sm hd⟩
end
end K03
namespace K03
open PySem PySem.Spec PyProof.Rows L2 Sup
open PySem.W (Frag)
abbrev sRuleInit : Stmt := inClass (top 14) 0
abbrev sIsFree : Stmt := inClass (top 14) 4
abbrev sRank : Stmt := inClass (top 14) 6
/-! ### instances -/
def SameBut (a : Addr) (H H' : Hp) : Prop := ∀ b o, b ≠ a → H b = some o → H' b = some o
theorem putNe {f g : Str} {v y : V} {r : List (Str × V)} (h : ¬ g = f) : putF f v ((g, y) :: r) = (g, y) :: putF f v r := by
  show (if g = f then _ else (g, y) :: putF f v r) = _
  rw [if_neg h]
theorem put0 {f : Str} {v : V} : putF f v [] = [(f, v)] := rfl
/-- what is asked of an instance of the class at C: its size, its fields, and that the methods are not hidden -/
def RuleAt (C : Addr) (H : Hp) (a : Addr) (n : Int) (ex : List (Str × V)) : Prop := ∃ dx fs, H a = some (.ins C dx fs) ∧ fs.lookup ("size" : Str) = some (.int n) ∧ (∀ p ∈ ex, fs.lookup p.1 = some p.2) ∧
  fs.lookup ("rank_of" : Str) = none ∧ fs.lookup ("is_free" : Str) = none ∧ fs.lookup ("rank" : Str) = none
theorem RuleAt.same {C : Addr} {H H' : Hp} {a : Addr} {n : Int} {ex : List (Str × V)} (e : Same H H') (h : RuleAt C H a n ex) : RuleAt C H' a n ex := by
  obtain ⟨dx, fs, h1, h2⟩ := h
  exact ⟨dx, fs, e _ _ h1, h2⟩
/-! ### Rule.__init__ -/
def fsR (n : Int) (t : Addr) : List (Str × V) := [("size", .int n), ("_all", .ref t)]
def spRuleInit (C CB : Addr) : Sp := fun vs H Q E => ∃ (a dx : Addr) (x : V), vs = [.ref a, x] ∧ H a = some (.ins C dx []) ∧ Sc x ∧
  (cntV x = false → ∀ H' d, Same H H' → H' d = none → E (.ref CB) (some d) (upd H' d (.xd [("name", .str "size")]))) ∧
  ∀ n : Nat, x = .int (n : Nat) → n ≤ 1000 ∧ ∀ H' t, H' a = some (.ins C dx (fsR n t)) → SameBut a H H' → Q .non H'
structure ClsT (K : Frag) (C : Addr) : Prop where
  cl : Cls K C
  nSize : NoAttr K C "size"
  nAll : NoAttr K C "_all"
theorem scRuleInit : FnScope ["self", "size"] ["self", "size"] (defScope sRuleInit) := ⟨rfl, rfl, rfl, by decide +kernel, rfl, by decide +kernel, by decide +kernel⟩
section
variable {P : Program} {w : World} {K : Frag} {mg : Str → Option Value} {base : Heap} {f fC fB C CB : Addr} {fd fdC fdB : FuncData}
theorem ok_ruleInit (F : Fun K "__init__" "Rule.__init__" sRuleInit f fd) (T : ClsT K C) (FC : Fun K "is_count" "is_count" sIsCount fC fdC) (bC : Binds K fdC ["value"] []) (gC : mg "is_count" = some (.ref fC)) (GC : FnOk P w K mg base CX0 1 fC fdC ["value"] spIsCount)
    (TB : ErrT K mg "BadNumber" "name" CB fB) (GB : FnOk P w K mg base (L2.CX P w) 1 fB fdB ["self", "name"] (spErr CB "name" okStr)) (bB : Binds K fdB ["self", "name"] []) (B : Bt mg) :
    FnOk P w K mg base (L2.CX P w) 4 f fd ["self", "size"] (spRuleInit C CB) := by
  refine F.okX scRuleInit (fun vs H Q E h => ?_) (fun cdv A outer s H vs Q E hr h => ?_)
  · obtain ⟨a, dx, x, rfl, _⟩ := h
    rfl
  · obtain ⟨a, dx, x, rfl, hH, hx, kE, kQ⟩ := h
    have hr1 : Room 1 _ := hr.mono (by decide)
    have hr2 : Room 2 _ := hr.mono (by decide)
    refine ⟨_, pss_cons (ps_if (pt_not (pt_val (pe_call GC hr1 rfl gC FC.kp bC .nil pass0 (pa_cons (pv 1) pa_nil)))) (pss_one (ps_raiseE rfl TB GB bB hr2 (takes_of rfl rfl rfl rfl) rfl (pa_cons pe_str pa_nil))) pss_nil)
      (pss_cons (ps_fld (pv 0) (pv 1) rfl) (pss_one (ps_fld (pv 0) (pe_tupRg rfl rfl B.tup (prg_1 rfl B.rng (pv 1))) rfl))), ?_⟩
    refine ⟨_, rfl, x, rfl, hx, _, rfl, ?_⟩
    cases hc : cntV x with
    | false => exact iteT (raiseE_of E ⟨_, rfl, by decide +kernel⟩ fun d hd => kE hc H d (Same.refl H) hd)
    | true =>
      refine iteF ?_
      obtain ⟨n, rfl⟩ : ∃ n : Nat, x = .int (n : Nat) := by
        match x, hc with
        | .int i, hc =>
          have h0 : 0 ≤ i := of_decide_eq_true hc
          exact ⟨i.toNat, by rw [Int.toNat_of_nonneg h0]⟩
      obtain ⟨hn, k⟩ := kQ n rfl
      refine ⟨_, rfl, _, rfl, a, C, dx, _, rfl, hH, T.cl, T.nSize, (by show 0 < 1000; decide), ?_⟩
      refine ⟨_, rfl, n, rfl, ?_, fun q hq => ?_⟩
      · exact RgOk.of_le (by omega) (by omega) (by omega) (by omega)
      have hqa : a ≠ q := ne_of_none upd_same hq
      refine ⟨_, rfl, a, C, dx, _, rfl, (by rw [upd_ne hqa]; exact upd_same), T.cl, T.nAll, (by show 1 < 1000; decide), ?_⟩
      refine k _ q (Eq.trans upd_same ?_) ?_
      · rw [put0, putNe (by decide +kernel), put0]
        rfl
      · intro b o hb e
        have e1 : (upd H a (.ins C dx (putF ("size" : Str) (.int (n : Nat)) []))) b = some o := by rw [upd_ne hb]; exact e
        rw [upd_ne hb, upd_ne (ne_of_none e1 hq)]
        exact e1
end
/-! ### is_free and rank of a rule whose class says rank_of -/
theorem dInt (a b : Int) : decide (V.int a = V.int b) = decide (a = b) := by simp
/-- a set of things in the sense of set_of -/
def Valid (n : Int) (ns : List Int) : Prop := ∀ j, j < ns.length → ¬ Bad n ns j
def spRankOf (K : Frag) (C : Addr) (pre : Hp → Addr → Int → (List Int → Int) → Prop) : Sp := fun vs H Q _ => ∃ (a p : Addr) (n : Int) (r : List Int → Int) (ns : List Int), vs = [.ref a, .ref p] ∧ pre H a n r ∧ SqT K H p (ns.map V.int) ∧ Valid n ns ∧ ns.length ≤ 100 ∧
  ∀ H', Same H H' → Q (.int (r ns)) H'
def spIsFree (K : Frag) (C : Addr) (pre : Hp → Addr → Int → (List Int → Int) → Prop) : Sp := fun vs H Q _ => ∃ (a p : Addr) (n : Int) (r : List Int → Int) (ns : List Int), vs = [.ref a, .ref p] ∧ pre H a n r ∧ Sq K H p (ns.map V.int) ∧ Valid n ns ∧ ns.length ≤ 100 ∧
  ∀ H', Same H H' → Q (.bl (decide (r ns = (ns.length : Int)))) H'
def spRank (K : Frag) (C : Addr) (pre : Hp → Addr → Int → (List Int → Int) → Prop) : Sp := fun vs H Q _ => ∃ (a p : Addr) (n : Int) (r : List Int → Int) (ns : List Int), vs = [.ref a, .ref p] ∧ pre H a n r ∧ Sq K H p (ns.map V.int) ∧ Valid n ns ∧ ns.length ≤ 100 ∧
  ∀ H', Same H H' → Q (.int (r ns)) H'
/-- a predicate of instances of the class at C that stays while nothing tracked changes -/
structure PreOk (C : Addr) (pre : Hp → Addr → Int → (List Int → Int) → Prop) : Prop where
  at_ : ∀ H a n r, pre H a n r → RuleAt C H a n []
  same : ∀ H H' a n r, Same H H' → pre H a n r → pre H' a n r
theorem scIsFree : FnScope ["self", "things", "held"] ["self", "things"] (defScope sIsFree) := ⟨rfl, rfl, rfl, by decide +kernel, rfl, by decide +kernel, by decide +kernel⟩
theorem scRank : FnScope ["self", "things"] ["self", "things"] (defScope sRank) := ⟨rfl, rfl, rfl, by decide +kernel, rfl, by decide +kernel, by decide +kernel⟩
section
variable {P : Program} {w : World} {K : Frag} {mg : Str → Option Value} {base : Heap} {f fS fR C CB : Addr} {fd fdS fdR : FuncData} {pre : Hp → Addr → Int → (List Int → Int) → Prop}
theorem ok_isFree (F : Fun K "is_free" "Rule.is_free" sIsFree f fd) (T : ClsT K C) (gS : mg "set_of" = some (.ref fS)) (kS : PySem.W.keepIn K (.ref fS) = true) (bS : Binds K fdS ["size", "things"] []) (GS : FnOk P w K mg base (L2.CX P w) 4 fS fdS ["size", "things"] (spSetOf K CB))
    (PO : PreOk C pre) (MR : Meth K C "rank_of" fR) (bR : Binds K fdR ["self", "things"] []) (GR : FnOk P w K mg base CX0 1 fR fdR ["self", "things"] (spRankOf K C pre)) (B : Bt mg) : FnOk P w K mg base (L2.CX P w) 5 f fd ["self", "things"] (spIsFree K C pre) := by
  refine F.okX scIsFree (fun vs H Q E h => ?_) (fun cdv A outer s H vs Q E hr h => ?_)
  · obtain ⟨a, p, n, r, ns, rfl, _⟩ := h
    rfl
  · obtain ⟨a, p, n, r, ns, rfl, hp, hS, hv, hl, k⟩ := h
    have hr1 : Room 1 _ := hr.mono (by decide)
    obtain ⟨dx, fs, h1, h2, _, h4, _⟩ := PO.at_ _ _ _ _ hp
    refine ⟨_, pss_cons (ps_set (i := 2) scIsFree.nd rfl (Or.inl rfl) (pe_call GS hr rfl gS kS bS .nil passL (pa_cons (pe_fld (pv 0) rfl) (pa_cons (pv 1) pa_nil))))
      (pss_one (ps_ret (pe_cmpR op_eq (pe_meth (pv 0) T.cl MR GR hr1 bR .nil pass0 (pa_cons (pv 2) pa_nil)) (pe_callB call_len_seq (by rfl) B.len PySem.boot_len (pa_cons (pv 2) pa_nil)) (nomark _)))), ?_⟩
    refine ⟨_, rfl, a, C, dx, _, _, rfl, h1, T.cl, T.nSize, h2, _, rfl, n, p, ns, rfl, hS, hl, fun _ H1 q sm hq => ?_, fun i hi hb => absurd hb (hv i hi)⟩
    obtain ⟨dx', fs', g1, g2, _, g4, _⟩ := PO.at_ _ _ _ _ (PO.same _ _ _ _ _ sm hp)
    refine ⟨_, rfl, a, dx', fs', rfl, g1, g4, _, rfl, a, q, n, r, ns, rfl, PO.same _ _ _ _ _ sm hp, hq, hv, hl, fun H2 sm2 => ?_⟩
    refine ⟨_, rfl, q, _, rfl, .inr (Same.seqT sm2 hq), ?_⟩
    have e := k H2 (sm.trans sm2)
    rw [List.length_map]
    refine ⟨rfl, ?_⟩
    rw [dInt]
    exact e
theorem ok_rank (F : Fun K "rank" "Rule.rank" sRank f fd) (T : ClsT K C) (gS : mg "set_of" = some (.ref fS)) (kS : PySem.W.keepIn K (.ref fS) = true) (bS : Binds K fdS ["size", "things"] []) (GS : FnOk P w K mg base (L2.CX P w) 4 fS fdS ["size", "things"] (spSetOf K CB))
    (PO : PreOk C pre) (MR : Meth K C "rank_of" fR) (bR : Binds K fdR ["self", "things"] []) (GR : FnOk P w K mg base CX0 1 fR fdR ["self", "things"] (spRankOf K C pre)) (B : Bt mg) : FnOk P w K mg base (L2.CX P w) 5 f fd ["self", "things"] (spRank K C pre) := by
  refine F.okX scRank (fun vs H Q E h => ?_) (fun cdv A outer s H vs Q E hr h => ?_)
  · obtain ⟨a, p, n, r, ns, rfl, _⟩ := h
    rfl
  · obtain ⟨a, p, n, r, ns, rfl, hp, hS, hv, hl, k⟩ := h
    have hr1 : Room 1 _ := hr.mono (by decide)
    obtain ⟨dx, fs, h1, h2, _, h4, _⟩ := PO.at_ _ _ _ _ hp
    refine ⟨_, pss_one (ps_ret (pe_meth (pv 0) T.cl MR GR hr1 bR .nil pass0 (pa_cons (pe_call GS hr rfl gS kS bS .nil passL (pa_cons (pe_fld (pv 0) rfl) (pa_cons (pv 1) pa_nil))) pa_nil))), ?_⟩
    refine ⟨_, rfl, a, dx, fs, rfl, h1, h4, _, rfl, a, C, dx, _, _, rfl, h1, T.cl, T.nSize, h2, _, rfl, n, p, ns, rfl, hS, hl, fun _ H1 q sm hq => ?_, fun i hi hb => absurd hb (hv i hi)⟩
    exact ⟨a, q, n, r, ns, rfl, PO.same _ _ _ _ _ sm hp, hq, hv, hl, fun H2 sm2 => k H2 (sm.trans sm2)⟩
end

end K03
namespace K03
open PySem PySem.Spec PyProof.Rows L2 Sup
open PySem.W (Frag)
abbrev sFirstsInit : Stmt := inClass (top 16) 0
abbrev sFirstsRankOf : Stmt := inClass (top 16) 1
abbrev sCheck : Stmt := top 19
/-! ### Firsts -/
theorem SameBut.of {a : Addr} {H H' : Hp} (e : Same H H') : SameBut a H H' := fun b o _ h => e b o h
theorem SameBut.trans {a : Addr} {H H1 H2 : Hp} (e1 : SameBut a H H1) (e2 : SameBut a H1 H2) : SameBut a H H2 := fun b o hb h => e2 b o hb (e1 b o hb h)
def fsF (n : Int) (t : Addr) (k : Int) : List (Str × V) := [("size", .int n), ("_all", .ref t), ("number", .int k)]
def FirstsPre (C : Addr) : Hp → Addr → Int → (List Int → Int) → Prop := fun H a n r => ∃ dx t k, H a = some (.ins C dx (fsF n t k)) ∧ r = fun ns => min k (ns.length : Int)
theorem lookEq {f : Str} {y : V} {fs : List (Str × V)} : ((f, y) :: fs).lookup f = some y := by rw [lookup_put, if_pos rfl]
theorem lookNe {f g : Str} {y : V} {o : Option V} {fs : List (Str × V)} (h : ¬ g = f) (e : fs.lookup g = o) : ((f, y) :: fs).lookup g = o := by
  rw [lookup_put, if_neg h]
  exact e
theorem lookNil {g : Str} : ([] : List (Str × V)).lookup g = none := rfl
theorem fsF_number (n : Int) (t : Addr) (k : Int) : (fsF n t k).lookup ("number" : Str) = some (.int k) := lookNe (by decide +kernel) (lookNe (by decide +kernel) lookEq)
theorem fsF_size (n : Int) (t : Addr) (k : Int) : (fsF n t k).lookup ("size" : Str) = some (.int n) := lookEq
theorem firstsPre (C : Addr) : PreOk C (FirstsPre C) := ⟨fun H a n r h => by
    obtain ⟨dx, t, k, h1, _⟩ := h
    exact ⟨dx, _, h1, fsF_size _ _ _, fun p hp => absurd hp (by simp), lookNe (by decide +kernel) (lookNe (by decide +kernel) (lookNe (by decide +kernel) lookNil)),
      lookNe (by decide +kernel) (lookNe (by decide +kernel) (lookNe (by decide +kernel) lookNil)), lookNe (by decide +kernel) (lookNe (by decide +kernel) (lookNe (by decide +kernel) lookNil))⟩, fun H H' a n r e h => by
    obtain ⟨dx, t, k, h1, h2⟩ := h
    exact ⟨dx, t, k, e _ _ h1, h2⟩⟩
def spFirstsInit (C CB : Addr) : Sp := fun vs H Q E => ∃ (a dx : Addr) (x y : V), vs = [.ref a, x, y] ∧ H a = some (.ins C dx []) ∧ Sc x ∧ Sc y ∧ (∀ n : Nat, x = .int (n : Nat) → n ≤ 1000) ∧
  (cntV x = false → ∀ H' d, SameBut a H H' → H' d = none → E (.ref CB) (some d) (upd H' d (.xd [("name", .str "size")]))) ∧
  (cntV x = true → cntV y = false → ∀ H' d, SameBut a H H' → H' d = none → E (.ref CB) (some d) (upd H' d (.xd [("name", .str "k")]))) ∧
  ∀ n k : Nat, x = .int (n : Nat) → y = .int (k : Nat) → ∀ H' t, H' a = some (.ins C dx (fsF n t k)) → SameBut a H H' → Q .non H'
theorem cnt_int {x : V} (h : cntV x = true) : ∃ n : Nat, x = .int (n : Nat) := by
  match x, h with
  | .int i, hc =>
    have h0 : 0 ≤ i := of_decide_eq_true hc
    exact ⟨i.toNat, by rw [Int.toNat_of_nonneg h0]⟩
theorem scFirstsInit : ScopeS ["self", "size", "k"] ["self", "size", "k"] (defScope sFirstsInit) := ⟨rfl, rfl, rfl, by decide +kernel, rfl, by decide +kernel, rfl, by decide +kernel, by decide +kernel⟩
theorem scFirstsRankOf : FnScope ["self", "things"] ["self", "things"] (defScope sFirstsRankOf) := ⟨rfl, rfl, rfl, by decide +kernel, rfl, by decide +kernel, by decide +kernel⟩
/-- the facts of a class over Rule, for super().__init__ -/
structure SubT (K : Frag) (C fI : Addr) : Prop where
  mro : PySem.W.mroIn K C (.ref C) = some true
  sup : PySem.W.ks_superIn K C C "__init__" = some (some (.ref fI))
  tI : PySem.W.typeIn K (.ref fI) = some (.type "function")
  fI : PySem.W.fnIn K fI = true
section
variable {P : Program} {w : World} {K : Frag} {mg : Str → Option Value} {base : Heap} {f fC fB fI cc C CB : Addr} {fd fdC fdB fdI : FuncData}
theorem ok_firstsInit (F : SFun P K "__init__" "Firsts.__init__" sFirstsInit f fd cc C) (htop : (P.main.scope.names.lookup ("super" : Str)).isSome = false) (T : ClsT K C) (ST : SubT K C fI) (nN : NoAttr K C "number")
    (bI : Binds K fdI ["self", "size"] []) (GI : FnOk P w K mg base (L2.CX P w) 4 fI fdI ["self", "size"] (spRuleInit C CB))
    (kC : PySem.W.keepIn K (.ref fC) = true) (bC : Binds K fdC ["value"] []) (gC : mg "is_count" = some (.ref fC)) (GC : FnOk P w K mg base CX0 1 fC fdC ["value"] spIsCount)
    (TB : ErrT K mg "BadNumber" "name" CB fB) (GB : FnOk P w K mg base (L2.CX P w) 1 fB fdB ["self", "name"] (spErr CB "name" okStr)) (bB : Binds K fdB ["self", "name"] []) (B : Bt mg) :
    FnOk P w K mg base (L2.CX P w) 5 f fd ["self", "size", "k"] (spFirstsInit C CB) := by
  refine F.okX scFirstsInit rfl ⟨_, rfl, rfl, .inl rfl⟩ htop B.sup (fun vs H Q E h => ?_) (fun cdv A outer s H vs Q E hr h SA => ?_)
  · obtain ⟨a, dx, x, y, rfl, _⟩ := h
    rfl
  · obtain ⟨a, dx, x, y, rfl, hH, hx, hy, hn, kE1, kE2, kQ⟩ := h
    have hr1 : Room 1 _ := hr.mono (by decide)
    have hr2 : Room 2 _ := hr.mono (by decide)
    refine ⟨_, pssa_cons (psa_super (k := 4) SA (fun ar e => noCd e (by decide)) ST.mro ST.sup ST.tI ST.fI GI hr bI (passes_call (takes_of rfl rfl rfl rfl) fun _ _ _ _ h => h) (pa_cons (pv 1) pa_nil))
      (pssa_of (pss_cons (ps_if (pt_not (pt_val (pe_call GC hr1 rfl gC kC bC .nil pass0 (pa_cons (pv 2) pa_nil)))) (pss_one (ps_raiseE rfl TB GB bB hr2 (takes_of rfl rfl rfl rfl) rfl (pa_cons pe_str pa_nil))) pss_nil)
        (pss_one (ps_fld (pv 0) (pv 2) rfl)))), ?_⟩
    refine ⟨a, dx, [], rfl, hH, _, rfl, a, dx, x, rfl, hH, hx, fun hc H1 d sm hd => kE1 hc H1 d (SameBut.of sm) hd, fun n en => ⟨hn n en, fun H1 t h1 sb => ?_⟩⟩
    refine ⟨_, rfl, y, rfl, hy, _, rfl, ?_⟩
    have hcx : cntV x = true := by rw [en]; exact decide_eq_true (Int.natCast_nonneg n)
    cases hc : cntV y with
    | false => exact iteT (raiseE_of E ⟨_, rfl, by decide +kernel⟩ fun d hd => kE2 hcx hc H1 d sb hd)
    | true =>
      refine iteF ?_
      obtain ⟨k, ek⟩ := cnt_int hc
      subst ek
      refine ⟨_, rfl, _, rfl, a, C, dx, _, rfl, h1, T.cl, nN, (by show 2 < 1000; decide), ?_⟩
      refine kQ n k en rfl _ t (Eq.trans upd_same ?_) fun b o hb e => by rw [upd_ne hb]; exact sb b o hb e
      unfold fsR
      rw [putNe (by decide +kernel), putNe (by decide +kernel), put0]
      rfl
theorem ok_firstsRankOf (F : Fun K "rank_of" "Firsts.rank_of" sFirstsRankOf f fd) (T : ClsT K C) (nN : NoAttr K C "number") (B : Bt mg) : FnOk P w K mg base CX0 1 f fd ["self", "things"] (spRankOf K C (FirstsPre C)) := by
  refine F.ok scFirstsRankOf (fun vs H Q E h => ?_) (fun cdv A outer s H vs Q E hr h => ?_)
  · obtain ⟨a, p, n, r, ns, rfl, _⟩ := h
    rfl
  · obtain ⟨a, p, n, r, ns, rfl, ⟨dx, t, k, h1, rfl⟩, hp, hv, hl, kQ⟩ := h
    refine ⟨_, pss_one (ps_ret (pe_callB (call_min2 rfl) (by rfl) B.mn boot_min (pa_cons (pe_fld (pv 0) rfl) (pa_cons (pe_callB call_len_seq (by rfl) B.len PySem.boot_len (pa_cons (pv 1) pa_nil)) pa_nil)))), ?_⟩
    refine ⟨_, rfl, a, C, dx, _, .int k, rfl, h1, T.cl, nN, fsF_number _ _ _, _, rfl, p, _, rfl, .inr hp, ?_⟩
    refine ⟨_, _, rfl, ?_⟩
    have e := kQ H (Same.refl H)
    have e2 : (if (((ns.map V.int).length : Nat) : Int) < k then (((ns.map V.int).length : Nat) : Int) else k) = min k (ns.length : Int) := by
      rw [List.length_map]
      split <;> omega
    rw [e2]
    exact e
end
/-! ### lists that a comprehension makes -/
/-- behind i turns: what was tracked stands, the new list at D holds acc i -/
def PvA (H1 : Hp) (D : Addr) (acc : Nat → List V) (i : Nat) (H : Hp) : Prop := Same H1 H ∧ H D = some (.lst (acc i))
theorem PvA.zero {H1 : Hp} {D : Addr} {acc : Nat → List V} (hD : H1 D = none) (h : acc 0 = []) : PvA H1 D acc 0 (upd H1 D (.lst [])) := ⟨Same.new (Same.refl H1) hD, by rw [h]; exact upd_same⟩
theorem PvA.next {H1 H H4 : Hp} {D : Addr} {acc : Nat → List V} {i : Nat} {y : V} (hD : H1 D = none) (p : PvA H1 D acc i H) (s : Same H H4) (hy : acc (i + 1) = acc i ++ [y]) (hz : (acc i).length ≤ 1000) :
    ∃ xs, H4 D = some (.lst xs) ∧ xs.length < sizeLine ∧ PvA H1 D acc (i + 1) (upd H4 D (.lst (xs ++ [y]))) :=
  ⟨acc i, s _ _ p.2, small1000 hz, fun b o h => by rw [upd_ne (ne_of_none h hD)]; exact s b o (p.1 b o h), by rw [hy]; exact upd_same⟩
theorem PvA.skip {H1 H H4 : Hp} {D : Addr} {acc : Nat → List V} {i : Nat} (p : PvA H1 D acc i H) (s : Same H H4) (hy : acc (i + 1) = acc i) : PvA H1 D acc (i + 1) H4 := ⟨p.1.trans s, by rw [hy]; exact s _ _ p.2⟩
theorem take_succ_of {α : Type} {l : List α} {i : Nat} {x : α} (h : l[i]? = some x) : l.take (i + 1) = l.take i ++ [x] := by
  rw [List.take_succ, h] <;> rfl
/-! ### check_entries -/
def spCheck (K : Frag) (CE : Addr) : Sp := fun vs H Q E => ∃ (p : Addr) (bs : List Bool), vs = [.ref p] ∧ SqL K H p (bs.map V.bl) ∧ bs.length ≤ 100 ∧ ((∀ j, j < bs.length → bs[j]? = some true) → Q .non H) ∧
  ∀ i, bs[i]? = some false → (∀ j, j < i → bs[j]? = some true) → ∀ d, H d = none → E (.ref CE) (some d) (upd H d (.xd [("place", .int (i : Nat))]))
theorem scCheck : FnScope ["fits"] ["fits"] (defScope sCheck) := ⟨rfl, rfl, rfl, by decide +kernel, rfl, by decide +kernel, by decide +kernel⟩
theorem flatBl (bs : List Bool) : (bs.map V.bl).all flatV = true := by
  rw [List.all_map]
  exact List.all_eq_true.mpr fun _ _ => rfl
/-- the first False, or none -/
theorem firstFalse : ∀ bs : List Bool, (∀ j, j < bs.length → bs[j]? = some true) ∨ ∃ i, i < bs.length ∧ bs[i]? = some false ∧ ∀ j, j < i → bs[j]? = some true
  | [] => .inl fun j hj => absurd hj (Nat.not_lt_zero j)
  | false :: bs => .inr ⟨0, by simp, rfl, fun j hj => absurd hj (Nat.not_lt_zero j)⟩
  | true :: bs => by
    rcases firstFalse bs with h | ⟨i, h1, h2, h3⟩
    · refine .inl fun j hj => ?_
      match j with
      | 0 => rfl
      | j + 1 => exact h j (by simpa using hj)
    · refine .inr ⟨i + 1, by simpa using h1, h2, fun j hj => ?_⟩
      match j with
      | 0 => rfl
      | j + 1 => exact h3 j (by omega)
section
variable {P : Program} {w : World} {K : Frag} {mg : Str → Option Value} {base : Heap} {f fE CE : Addr} {fd fdE : FuncData}
theorem ok_check (F : Fun K "check_entries" "check_entries" sCheck f fd) (T : ErrT K mg "BadEntry" "place" CE fE) (GE : FnOk P w K mg base (L2.CX P w) 1 fE fdE ["self", "place"] (spErr CE "place" okInt)) (bE : Binds K fdE ["self", "place"] []) :
    FnOk P w K mg base (L2.CX P w) 3 f fd ["fits"] (spCheck K CE) := by
  refine F.okX scCheck (fun vs H Q E h => ?_) (fun cdv A outer s H vs Q E hr h => ?_)
  · obtain ⟨p, bs, rfl, _⟩ := h
    rfl
  · obtain ⟨p, bs, rfl, hS, hl, kQ, kE⟩ := h
    refine ⟨_, pss_one (ps_if (pt_cmpR op_in_seq pe_bl (pv 0) rfl) (pss_one (ps_raiseE rfl T GE bE hr (takes_of rfl rfl rfl rfl) rfl (pa_cons (pe_bm PySem.F.plainAttrs_list PySem.F.slot_list_index PySem.F.type_list_index mt_index (pv 0) (pa_cons pe_bl pa_nil)) pa_nil))) pss_nil), ?_⟩
    refine ⟨_, rfl, p, _, rfl, .inl hS, rfl, flatBl bs, _, rfl, ?_⟩
    rcases firstFalse bs with h | ⟨i, h1, h2, h3⟩
    · have e : inV (V.bl false) (bs.map V.bl) = false := by
        unfold inV
        rw [List.any_map]
        refine List.any_eq_false.mpr fun b hb => ?_
        obtain ⟨j, hj⟩ := List.getElem?_of_mem hb
        have := h j (List.getElem?_eq_some_iff.mp hj).1
        rw [hj] at this
        cases this
        simp [eqV]
      rw [e]
      exact iteF (kQ h)
    · have e : inV (V.bl false) (bs.map V.bl) = true := by
        unfold inV
        rw [List.any_map]
        refine List.any_eq_true.mpr ⟨false, List.mem_of_getElem? h2, ?_⟩
        simp [eqV]
      rw [e]
      refine iteT ?_
      refine ⟨_, rfl, .inl ⟨rfl, _, hS⟩, p, _, .bl false, i, .bl false, rfl, rfl, hS, rfl, flatBl bs, by rw [List.getElem?_map, h2]; rfl, rfl, fun m z hm hz => ?_, raiseE_of E (okInt_small i (by omega)) fun d hd => kE i h2 h3 d hd⟩
      rw [List.getElem?_map, h3 m hm] at hz
      cases hz
      rfl
end
end K03
namespace K03
open PySem PySem.Spec PyProof.Rows L2 Sup
open PySem.W (Frag)
abbrev sTeamsInit : Stmt := inClass (top 17) 0
abbrev sTeamsRankOf : Stmt := inClass (top 17) 1
/-! ### Teams -/
theorem SameBut.seq {K : Frag} {H H' : Hp} {a b C dx : Addr} {fs : List (Str × V)} {xs : List V} (e : SameBut a H H') (ha : H a = some (.ins C dx fs)) (h : SqL K H b xs) : SqL K H' b xs := by
  rcases h with (h | ⟨o, h⟩) | h
  · exact .inl (.inl (e b _ (fun z => by rw [z, ha] at h; cases h) h))
  · exact .inl (.inr ⟨o, e b _ (fun z => by rw [z, ha] at h; cases h) h⟩)
  · exact .inr h
def fsT (n : Int) (t c p : Addr) : List (Str × V) := [("size", .int n), ("_all", .ref t), ("classes", .ref c), ("places", .ref p)]
def teamRank (cs ps : List Int) (ns : List Int) : Int := ((List.range ps.length).map fun j => min (ps.getD j 0) (((ns.map fun x => cs.getD x.toNat 0).count ((j : Nat) : Int) : Nat) : Int)).sum
def TeamsAt (C : Addr) (H : Hp) (a : Addr) (cs ps : List Int) : Prop := ∃ dx t c p, H a = some (.ins C dx (fsT cs.length t c p)) ∧ H c = some (.tup (cs.map V.int)) ∧ H p = some (.tup (ps.map V.int))
def TeamsPre (C : Addr) : Hp → Addr → Int → (List Int → Int) → Prop := fun H a n r => ∃ cs ps : List Int, TeamsAt C H a cs ps ∧ n = cs.length ∧ cs.length ≤ 100 ∧ ps.length ≤ 100 ∧ r = teamRank cs ps
theorem TeamsAt.same {C : Addr} {H H' : Hp} {a : Addr} {cs ps : List Int} (e : Same H H') (h : TeamsAt C H a cs ps) : TeamsAt C H' a cs ps := by
  obtain ⟨dx, t, c, p, h1, h2, h3⟩ := h
  exact ⟨dx, t, c, p, e _ _ h1, e _ _ h2, e _ _ h3⟩
theorem teamsPre (C : Addr) : PreOk C (TeamsPre C) := ⟨fun H a n r h => by
    obtain ⟨cs, ps, ⟨dx, t, c, p, h1, _⟩, rfl, _⟩ := h
    exact ⟨dx, _, h1, lookEq, fun p hp => absurd hp (by simp), lookNe (by decide +kernel) (lookNe (by decide +kernel) (lookNe (by decide +kernel) (lookNe (by decide +kernel) lookNil))),
      lookNe (by decide +kernel) (lookNe (by decide +kernel) (lookNe (by decide +kernel) (lookNe (by decide +kernel) lookNil))), lookNe (by decide +kernel) (lookNe (by decide +kernel) (lookNe (by decide +kernel) (lookNe (by decide +kernel) lookNil)))⟩, fun H H' a n r e h => by
    obtain ⟨cs, ps, h1, h2⟩ := h
    exact ⟨cs, ps, h1.same e, h2⟩⟩
/-- the i-th bit is the first False -/
def FirstF (bs : List Bool) (i : Nat) : Prop := bs[i]? = some false ∧ ∀ j, j < i → bs[j]? = some true
def AllT (bs : List Bool) : Prop := ∀ j, j < bs.length → bs[j]? = some true
def spTeamsInit (K : Frag) (C CE : Addr) : Sp := fun vs H Q E => ∃ (a dx p q : Addr) (cs ps : List V), vs = [.ref a, .ref p, .ref q] ∧ H a = some (.ins C dx []) ∧ SqL K H p cs ∧ SqL K H q ps ∧ (∀ x ∈ cs, Sc x) ∧ (∀ x ∈ ps, Sc x) ∧ cs.length ≤ 100 ∧ ps.length ≤ 100 ∧
  (∀ i, FirstF (cs.map fun c => belowV c ps.length) i → ∀ H' d, SameBut a H H' → H' d = none → E (.ref CE) (some d) (upd H' d (.xd [("place", .int (i : Nat))]))) ∧
  (AllT (cs.map fun c => belowV c ps.length) → (∀ i, FirstF (ps.map cntV) i → ∀ H' d, SameBut a H H' → H' d = none → E (.ref CE) (some d) (upd H' d (.xd [("place", .int (i : Nat))]))) ∧
    (AllT (ps.map cntV) → ∀ H' t c r, H' a = some (.ins C dx (fsT cs.length t c r)) → H' c = some (.tup cs) → H' r = some (.tup ps) → SameBut a H H' → Q .non H'))
theorem scTeamsInit : ScopeS ["self", "classes", "places", "entry"] ["self", "classes", "places"] (defScope sTeamsInit) := ⟨rfl, rfl, rfl, by decide +kernel, rfl, by decide +kernel, rfl, by decide +kernel, by decide +kernel⟩
theorem scTeamsRankOf : FnScope ["self", "things", "held", "thing", "at", "most"] ["self", "things"] (defScope sTeamsRankOf) := ⟨rfl, rfl, rfl, by decide +kernel, rfl, by decide +kernel, by decide +kernel⟩
theorem takeMap {α β : Type} (f : α → β) (l : List α) (i : Nat) {x : α} (h : l[i]? = some x) : (l.map f).take (i + 1) = (l.map f).take i ++ [f x] := take_succ_of (by rw [List.getElem?_map, h]; rfl)
theorem takeAll {α β : Type} (f : α → β) (l : List α) : (l.map f).take l.length = l.map f := by
  have := List.take_length (l := l.map f)
  rwa [List.length_map] at this
section
variable {P : Program} {w : World} {K : Frag} {mg : Str → Option Value} {base : Heap} {f fB fC fK fI cc C CB CE : Addr} {fd fdB fdC fdK fdI : FuncData}
theorem ok_teamsInit (F : SFun P K "__init__" "Teams.__init__" sTeamsInit f fd cc C) (htop : (P.main.scope.names.lookup ("super" : Str)).isSome = false) (T : ClsT K C) (ST : SubT K C fI) (nC : NoAttr K C "classes") (nP : NoAttr K C "places")
    (bI : Binds K fdI ["self", "size"] []) (GI : FnOk P w K mg base (L2.CX P w) 4 fI fdI ["self", "size"] (spRuleInit C CB))
    (kB : PySem.W.keepIn K (.ref fB) = true) (bB : Binds K fdB ["value", "bound"] []) (gB : mg "is_below" = some (.ref fB)) (GB : FnOk P w K mg base CX0 2 fB fdB ["value", "bound"] spIsBelow)
    (kC : PySem.W.keepIn K (.ref fC) = true) (bC : Binds K fdC ["value"] []) (gC : mg "is_count" = some (.ref fC)) (GC : FnOk P w K mg base CX0 1 fC fdC ["value"] spIsCount)
    (kK : PySem.W.keepIn K (.ref fK) = true) (bK : Binds K fdK ["fits"] []) (gK : mg "check_entries" = some (.ref fK)) (GK : FnOk P w K mg base (L2.CX P w) 3 fK fdK ["fits"] (spCheck K CE)) (B : Bt mg) :
    FnOk P w K mg base (L2.CX P w) 5 f fd ["self", "classes", "places"] (spTeamsInit K C CE) := by
  refine F.okX scTeamsInit rfl ⟨_, rfl, rfl, .inl rfl⟩ htop B.sup (fun vs H Q E h => ?_) (fun cdv A outer s H vs Q E hr h SA => ?_)
  · obtain ⟨a, dx, p, q, cs, ps, rfl, _⟩ := h
    rfl
  · obtain ⟨a, dx, p, q, cs, ps, rfl, hH, hp, hq, sc, sp, lc, lp, kE1, k2⟩ := h
    have hr1 : Room 1 _ := hr.mono (by decide)
    have hr2 : Room 2 _ := hr.mono (by decide)
    have hr3 : Room 3 _ := hr.mono (by decide)
    refine ⟨_, pssa_cons (psa_of (ps_expr (pe_call GK hr3 rfl gK kK bK .nil (passes_call (takes_of rfl rfl rfl rfl) fun _ _ _ _ h => h)
        (pa_cons (pe_lc (own := [("entry", 3)]) (g := gName 3) (tt := tYes) rfl scTeamsInit.nd (pi_list (pv 1)) (blkOk_by (N := ["self", "classes", "places", "entry"]) (sc := defScope sTeamsInit) (by decide +kernel)) (fun _ _ _ _ _ => pg_name (i := 3) scTeamsInit.nd rfl (Or.inl rfl)) (fun _ _ _ _ _ => pts_nil)
          (fun _ _ _ _ _ => pe_call GB hr2 rfl gB kB bB .nil pass0 (pa_cons (pv 3) (pa_cons (pe_callB (len_at K rfl) (by rfl) B.len PySem.boot_len (pa_cons (pv 2) pa_nil)) pa_nil)))) pa_nil))))
      (pssa_cons (psa_of (ps_expr (pe_call GK hr3 rfl gK kK bK .nil (passes_call (takes_of rfl rfl rfl rfl) fun _ _ _ _ h => h)
        (pa_cons (pe_lc (own := [("entry", 3)]) (g := gName 3) (tt := tYes) rfl scTeamsInit.nd (pi_list (pv 2)) (blkOk_by (N := ["self", "classes", "places", "entry"]) (sc := defScope sTeamsInit) (by decide +kernel)) (fun _ _ _ _ _ => pg_name (i := 3) scTeamsInit.nd rfl (Or.inl rfl)) (fun _ _ _ _ _ => pts_nil)
          (fun _ _ _ _ _ => pe_call GC hr1 rfl gC kC bC .nil pass0 (pa_cons (pv 3) pa_nil))) pa_nil))))
      (pssa_cons (psa_super (k := 4) SA (fun ar e => noCd e (by decide)) ST.mro ST.sup ST.tI ST.fI GI hr bI (passes_call (takes_of rfl rfl rfl rfl) fun _ _ _ _ h => h) (pa_cons (pe_callB call_len_seq (by rfl) B.len PySem.boot_len (pa_cons (pv 1) pa_nil)) pa_nil))
      (pssa_of (pss_cons (ps_fld (pv 0) (pe_tupleOf rfl B.tup (pv 1)) rfl) (pss_one (ps_fld (pv 0) (pe_tupleOf rfl B.tup (pv 2)) rfl)))))), ?_⟩
    refine ⟨_, rfl, p, rfl, ⟨_, hp⟩, fun D hD => lc_it walk_list (PvA H D fun i => (cs.map fun c => V.bl (belowV c ps.length)).take i) (PvA.zero hD rfl) (fun i H' _ v => v.1.seq hp) (fun i x H1 H2 hi v y => ?_) (fun H1 v => ?_)⟩
    · obtain ⟨rfl, hx⟩ := y
      exact ⟨rfl, _, rfl, _, rfl, q, _, rfl, .inl (v.1.seq hq), x, _, rfl, sc x (List.mem_of_getElem? hx), v.next hD (Same.refl _) (takeMap _ cs i hx) (by rw [List.length_take]; omega)⟩
    have v2 := v.2
    dsimp only at v2
    rw [takeAll] at v2
    refine ⟨D, cs.map fun c => belowV c ps.length, rfl, SqL.of (by rw [v2, List.map_map]; rfl), by rw [List.length_map]; exact lc, fun hall => ?_, fun i hi hj d hd => kE1 i ⟨hi, hj⟩ H1 d (SameBut.of v.1) hd⟩
    obtain ⟨kE2, k3⟩ := k2 hall
    refine ⟨_, rfl, q, rfl, ⟨_, v.1.seq hq⟩, fun D2 hD2 => lc_it walk_list (PvA H1 D2 fun i => (ps.map fun c => V.bl (cntV c)).take i) (PvA.zero hD2 rfl) (fun i H' _ u => u.1.seq (v.1.seq hq)) (fun i x H2 H3 hi u y => ?_) (fun H2 u => ?_)⟩
    · obtain ⟨rfl, hx⟩ := y
      exact ⟨rfl, _, rfl, x, rfl, sp x (List.mem_of_getElem? hx), u.next hD2 (Same.refl _) (takeMap _ ps i hx) (by rw [List.length_take]; omega)⟩
    have u2 := u.2
    dsimp only at u2
    rw [takeAll] at u2
    have s02 : Same H H2 := v.1.trans u.1
    refine ⟨D2, ps.map cntV, rfl, SqL.of (by rw [u2, List.map_map]; rfl), by rw [List.length_map]; exact lp, fun hall2 => ?_, fun i hi hj d hd => kE2 i ⟨hi, hj⟩ H2 d (SameBut.of s02) hd⟩
    have k4 := k3 hall2
    have h2a := s02 _ _ hH
    refine ⟨a, dx, [], rfl, h2a, _, rfl, p, _, rfl, .inl (s02.seq hp), a, dx, _, rfl, h2a, trivial, fun hc => absurd hc (by simp [cntV]), fun n en => ?_⟩
    have en : cs.length = n := by
      have := V.int.inj en
      omega
    refine ⟨by omega, fun H3 t h3 sb => ?_⟩
    have sb03 : SameBut a H H3 := (SameBut.of s02).trans sb
    refine ⟨_, rfl, .inl ⟨p, cs, rfl, sb03.seq hH hp, fun c hc => ?_⟩⟩
    have hac : a ≠ c := ne_of_none h3 hc
    refine ⟨_, rfl, a, C, dx, _, rfl, (by rw [upd_ne hac]; exact h3), T.cl, nC, (by show 2 < 1000; decide), ?_⟩
    have e1 : putF ("classes" : Str) (V.ref c) (fsR n t) = ([("size", .int (n : Nat)), ("_all", .ref t), ("classes", .ref c)] : List (Str × V)) := by
      unfold fsR
      rw [putNe (by decide +kernel), putNe (by decide +kernel), put0]
    rw [e1]
    have sb4 : SameBut a H (upd (upd H3 c (.tup cs)) a (.ins C dx [("size", .int (n : Nat)), ("_all", .ref t), ("classes", .ref c)])) := fun b o hb e => by
      have z := sb03 b o hb e
      rw [upd_ne hb, upd_ne (ne_of_none z hc)]
      exact z
    refine ⟨_, rfl, .inl ⟨q, ps, rfl, sb4.seq hH hq, fun r hr => ?_⟩⟩
    have har : a ≠ r := ne_of_none upd_same hr
    have hcr : c ≠ r := ne_of_none (by rw [upd_ne (Ne.symm hac)]; exact upd_same) hr
    refine ⟨_, rfl, a, C, dx, _, rfl, (by rw [upd_ne har]; exact upd_same), T.cl, nP, (by show 3 < 1000; decide), ?_⟩
    refine k4 _ t c r (Eq.trans upd_same ?_) ?_ ?_ fun b o hb e => ?_
    · rw [putNe (by decide +kernel), putNe (by decide +kernel), putNe (by decide +kernel), put0, en]
      rfl
    · rw [upd_ne (Ne.symm hac), upd_ne hcr, upd_ne (Ne.symm hac)]
      exact upd_same
    · rw [upd_ne (Ne.symm har)]
      exact upd_same
    · have z := sb4 b o hb e
      rw [upd_ne hb, upd_ne (ne_of_none z hr)]
      exact z
theorem ok_teamsRankOf (F : Fun K "rank_of" "Teams.rank_of" sTeamsRankOf f fd) (T : ClsT K C) (nC : NoAttr K C "classes") (nP : NoAttr K C "places") (B : Bt mg) : FnOk P w K mg base CX0 1 f fd ["self", "things"] (spRankOf K C (TeamsPre C)) := by
  refine F.ok scTeamsRankOf (fun vs H Q E h => ?_) (fun cdv A outer s H vs Q E hr h => ?_)
  · obtain ⟨a, p, n, r, ns, rfl, _⟩ := h
    rfl
  · obtain ⟨a, p, n, r, ns, rfl, ⟨cs, ps, hA, rfl, lc, lp, rfl⟩, hp, hv, hl, kQ⟩ := h
    refine ⟨_, pss_cons (ps_set (i := 2) scTeamsRankOf.nd rfl (Or.inr rfl) (pe_lc (own := [("thing", 3)]) (g := gName 3) (tt := tYes) rfl scTeamsRankOf.nd (pi_tup (pv 1)) (blkOk_by (N := ["self", "things", "held", "thing", "at", "most"]) (sc := defScope sTeamsRankOf) (by decide +kernel))
        (fun _ _ _ _ _ => pg_name (i := 3) scTeamsRankOf.nd rfl (Or.inl rfl)) (fun _ _ _ _ _ => pts_nil) (fun _ _ _ _ _ => pe_ix (ixt_at K rfl) (fld_at K rfl (pv 0) rfl) (pv 3) (fun _ _ => rfl))))
      (pss_one (ps_ret (pe_callB (cr_sum rfl) (by rfl) B.sum boot_sum (pa_cons (pe_lc (own := [("at", 4), ("most", 5)]) (g := gTup K 2 (gCons (gName 4) (gCons (gName 5) gNil))) (tt := tYes) rfl scTeamsRankOf.nd (pi_enumT (by rfl) B.enu (pa_cons (pe_fld (pv 0) rfl) pa_nil))
        (blkOk_by (N := ["self", "things", "held", "thing", "at", "most"]) (sc := defScope sTeamsRankOf) (by decide +kernel))
        (fun _ _ _ _ _ => pg_tup rfl (pgs_cons (pg_name (i := 4) scTeamsRankOf.nd rfl (Or.inl rfl)) (pgs_cons (pg_name (i := 5) scTeamsRankOf.nd rfl (Or.inl rfl)) pgs_nil))) (fun _ _ _ _ _ => pts_nil)
        (fun _ _ _ _ _ => pe_callB (call_min2 rfl) (by rfl) B.mn boot_min (pa_cons (pv 5) (pa_cons (bm_at K rfl PySem.F.plainAttrs_list PySem.F.slot_list_count PySem.F.type_list_count (cnt_at K rfl) (pv 2) (pa_cons (pv 4) pa_nil)) pa_nil)))) pa_nil)))), ?_⟩
    have hcl : ∀ i x, ns[i]? = some x → 0 ≤ x ∧ x < (cs.length : Int) := fun i x h => by
      have hi := (List.getElem?_eq_some_iff.mp h).1
      have e : ns.getD i 0 = x := by rw [List.getD_eq_getElem?_getD, h] <;> rfl
      have q := hv i hi
      unfold Bad at q
      rw [e] at q
      exact Classical.byContradiction fun z => q (.inl z)
    refine ⟨_, rfl, p, rfl, ⟨_, hp⟩, fun D hD => lc_it walk_tup (PvA H D fun i => (ns.map fun x => V.int (cs.getD x.toNat 0)).take i) (PvA.zero hD rfl) (fun i H' _ v => Same.seqT v.1 hp) (fun i x H1 H2 hi v y => ?_) (fun H1 v => ?_)⟩
    · obtain ⟨rfl, hx⟩ := y
      have hi' : i < ns.length := by rw [List.length_map] at hi; exact hi
      have hx := getD_map hx
      subst hx
      have hg : ns[i]? = some (ns.getD i 0) := by rw [List.getD_eq_getElem?_getD, List.getElem?_eq_getElem hi'] <;> rfl
      have hb := hcl i _ hg
      obtain ⟨dx, t, c, q, h1, h2, h3⟩ := TeamsAt.same v.1 hA
      have e1 : ns.getD i 0 = (((ns.getD i 0).toNat : Nat) : Int) := by rw [Int.toNat_of_nonneg hb.1]
      refine ⟨rfl, _, rfl, a, C, dx, _, .ref c, rfl, h1, T.cl, nC, lookNe (by decide +kernel) (lookNe (by decide +kernel) lookEq), _, rfl, c, _, _, _, rfl, rfl, SqT.of h2, (by rw [e1]; exact atI_nat (map_at (by omega))), ?_⟩
      exact v.next hD (Same.refl _) (takeMap _ ns i hg) (by rw [List.length_take]; omega)
    have v2 := v.2
    dsimp only at v2
    rw [List.length_map, takeAll] at v2
    have hA1 := TeamsAt.same v.1 hA
    obtain ⟨dx, t, c, q, h1, h2, h3⟩ := hA1
    refine ⟨_, rfl, a, C, dx, _, .ref q, rfl, h1, T.cl, nP, lookNe (by decide +kernel) (lookNe (by decide +kernel) (lookNe (by decide +kernel) lookEq)), q, _, rfl, SqT.of h3,
      fun D2 hD2 => lc_it walkEnumT (PvA H1 D2 fun i => ((List.range ps.length).map fun j => V.int (min (ps.getD j 0) (((ns.map fun x => cs.getD x.toNat 0).count ((j : Nat) : Int) : Nat) : Int))).take i) (PvA.zero hD2 rfl) (fun i H' _ u => Same.seqT u.1 (SqT.of h3)) (fun i x H2 H3 hi u y => ?_) (fun H2 u => ?_)⟩
    · obtain ⟨T1, x1, y1, rfl, hT, rfl, hx, hy⟩ := y
      cases hx
      have hy := getD_map hy
      subst hy
      have hi' : i < ps.length := by rw [List.length_map] at hi; exact hi
      have s3 : Same H2 (upd H2 T1 (.tup [V.int (i : Nat), .int (ps.getD i 0)])) := Same.new (Same.refl H2) hT
      have hr0 : (List.range ps.length)[i]? = some i := by rw [List.getElem?_range hi']
      refine ⟨T1, _, rfl, SqT.of upd_same, rfl, _, _, rfl, _, _, rfl, rfl, rfl, ?_⟩
      have hDl : SqL K (upd H2 T1 (.tup [V.int (i : Nat), .int (ps.getD i 0)])) D ((ns.map fun x => cs.getD x.toNat 0).map V.int) := by
        refine s3.seq (u.1.seq (SqL.of ?_))
        rw [v2, List.map_map]
        rfl
      refine ⟨_, rfl, _, rfl, .inl ⟨rfl, _, hDl⟩, _, rfl, D, _, _, rfl, rfl, hDl, _, _, rfl, ?_⟩
      have e2 : (if (((ns.map fun x => cs.getD x.toNat 0).count ((i : Nat) : Int) : Nat) : Int) < ps.getD i 0 then (((ns.map fun x => cs.getD x.toNat 0).count ((i : Nat) : Int) : Nat) : Int) else ps.getD i 0)
          = min (ps.getD i 0) (((ns.map fun x => cs.getD x.toNat 0).count ((i : Nat) : Int) : Nat) : Int) := by
        split <;> omega
      rw [e2]
      exact u.next hD2 s3 (takeMap _ _ i hr0) (by rw [List.length_take, List.length_map, List.length_range]; omega)
    have u2 := u.2
    dsimp only at u2
    have e3 : (List.map V.int ps).length = (List.range ps.length).length := by rw [List.length_map, List.length_range]
    rw [e3, takeAll] at u2
    refine ⟨D2, (List.range ps.length).map fun j => min (ps.getD j 0) (((ns.map fun x => cs.getD x.toNat 0).count ((j : Nat) : Int) : Nat) : Int), rfl, SqL.of (by rw [u2, List.map_map]; rfl), ?_⟩
    exact kQ H2 (v.1.trans u.1)
end
end K03
namespace K03
open PySem PySem.Spec PyProof.Rows L2 Sup
open PySem.W (Frag)
abbrev sWorksInit : Stmt := inClass (top 18) 0
abbrev sWorksRankOf : Stmt := inClass (top 18) 1
abbrev sTimetable : Stmt := top 20
/-! ### Works -/
def fsW (n : Int) (t c : Addr) : List (Str × V) := [("size", .int n), ("_all", .ref t), ("days", .ref c)]
/-- the days of the works ns -/
def daysOf (ds : List Int) (ns : List Int) : List Int := ns.map fun x => ds.getD x.toNat 0
def WorksAt (C : Addr) (H : Hp) (a : Addr) (ds : List Int) : Prop := ∃ dx t c, H a = some (.ins C dx (fsW ds.length t c)) ∧ H c = some (.tup (ds.map V.int))
def WorksPre (C : Addr) : Hp → Addr → Int → (List Int → Int) → Prop := fun H a n r => ∃ ds : List Int, WorksAt C H a ds ∧ n = ds.length ∧ ds.length ≤ 60 ∧ r = fun ns => workRank (daysOf ds ns)
theorem WorksAt.same {C : Addr} {H H' : Hp} {a : Addr} {ds : List Int} (e : Same H H') (h : WorksAt C H a ds) : WorksAt C H' a ds := by
  obtain ⟨dx, t, c, h1, h2⟩ := h
  exact ⟨dx, t, c, e _ _ h1, e _ _ h2⟩
theorem worksPre (C : Addr) : PreOk C (WorksPre C) := ⟨fun H a n r h => by
    obtain ⟨ds, ⟨dx, t, c, h1, _⟩, rfl, _⟩ := h
    exact ⟨dx, _, h1, lookEq, fun p hp => absurd hp (by simp), lookNe (by decide +kernel) (lookNe (by decide +kernel) (lookNe (by decide +kernel) lookNil)),
      lookNe (by decide +kernel) (lookNe (by decide +kernel) (lookNe (by decide +kernel) lookNil)), lookNe (by decide +kernel) (lookNe (by decide +kernel) (lookNe (by decide +kernel) lookNil))⟩, fun H H' a n r e h => by
    obtain ⟨ds, h1, h2⟩ := h
    exact ⟨ds, h1.same e, h2⟩⟩
def spWorksInit (K : Frag) (C CE : Addr) : Sp := fun vs H Q E => ∃ (a dx p : Addr) (ds : List V), vs = [.ref a, .ref p] ∧ H a = some (.ins C dx []) ∧ SqL K H p ds ∧ (∀ x ∈ ds, Sc x) ∧ ds.length ≤ 100 ∧
  (∀ i, FirstF (ds.map cntV) i → ∀ H' d, SameBut a H H' → H' d = none → E (.ref CE) (some d) (upd H' d (.xd [("place", .int (i : Nat))]))) ∧
  (AllT (ds.map cntV) → ∀ H' t c, H' a = some (.ins C dx (fsW ds.length t c)) → H' c = some (.tup ds) → SameBut a H H' → Q .non H')
theorem scWorksInit : ScopeS ["self", "days", "entry"] ["self", "days"] (defScope sWorksInit) := ⟨rfl, rfl, rfl, by decide +kernel, rfl, by decide +kernel, rfl, by decide +kernel, by decide +kernel⟩
theorem scWorksRankOf : FnScope ["self", "things", "done", "day", "thing"] ["self", "things"] (defScope sWorksRankOf) := ⟨rfl, rfl, rfl, by decide +kernel, rfl, by decide +kernel, by decide +kernel⟩
theorem valid_at {n : Int} {ns : List Int} (hv : Valid n ns) : ∀ (i : Nat) x, ns[i]? = some x → 0 ≤ x ∧ x < n := fun i x h => by
  have hi := (List.getElem?_eq_some_iff.mp h).1
  have e : ns.getD i 0 = x := by rw [List.getD_eq_getElem?_getD, h] <;> rfl
  have q := hv i hi
  unfold Bad at q
  rw [e] at q
  exact Classical.byContradiction fun z => q (.inl z)
theorem getD_some {ns : List Int} {i : Nat} (h : i < ns.length) : ns[i]? = some (ns.getD i 0) := by rw [List.getD_eq_getElem?_getD, List.getElem?_eq_getElem h] <;> rfl
section
variable {P : Program} {w : World} {K : Frag} {mg : Str → Option Value} {base : Heap} {f fC fK fI cc C CB CE : Addr} {fd fdC fdK fdI : FuncData}
theorem ok_worksInit (F : SFun P K "__init__" "Works.__init__" sWorksInit f fd cc C) (htop : (P.main.scope.names.lookup ("super" : Str)).isSome = false) (T : ClsT K C) (ST : SubT K C fI) (nD : NoAttr K C "days")
    (bI : Binds K fdI ["self", "size"] []) (GI : FnOk P w K mg base (L2.CX P w) 4 fI fdI ["self", "size"] (spRuleInit C CB))
    (kC : PySem.W.keepIn K (.ref fC) = true) (bC : Binds K fdC ["value"] []) (gC : mg "is_count" = some (.ref fC)) (GC : FnOk P w K mg base CX0 1 fC fdC ["value"] spIsCount)
    (kK : PySem.W.keepIn K (.ref fK) = true) (bK : Binds K fdK ["fits"] []) (gK : mg "check_entries" = some (.ref fK)) (GK : FnOk P w K mg base (L2.CX P w) 3 fK fdK ["fits"] (spCheck K CE)) (B : Bt mg) :
    FnOk P w K mg base (L2.CX P w) 5 f fd ["self", "days"] (spWorksInit K C CE) := by
  refine F.okX scWorksInit rfl ⟨_, rfl, rfl, .inl rfl⟩ htop B.sup (fun vs H Q E h => ?_) (fun cdv A outer s H vs Q E hr h SA => ?_)
  · obtain ⟨a, dx, p, ds, rfl, _⟩ := h
    rfl
  · obtain ⟨a, dx, p, ds, rfl, hH, hp, sd, ld, kE, k2⟩ := h
    have hr1 : Room 1 _ := hr.mono (by decide)
    have hr3 : Room 3 _ := hr.mono (by decide)
    refine ⟨_, pssa_cons (psa_of (ps_expr (pe_call GK hr3 rfl gK kK bK .nil (passes_call (takes_of rfl rfl rfl rfl) fun _ _ _ _ h => h)
        (pa_cons (pe_lc (own := [("entry", 2)]) (g := gName 2) (tt := tYes) rfl scWorksInit.nd (pi_list (pv 1)) (blkOk_by (N := ["self", "days", "entry"]) (sc := defScope sWorksInit) (by decide +kernel)) (fun _ _ _ _ _ => pg_name (i := 2) scWorksInit.nd rfl (Or.inl rfl)) (fun _ _ _ _ _ => pts_nil)
          (fun _ _ _ _ _ => pe_call GC hr1 rfl gC kC bC .nil pass0 (pa_cons (pv 2) pa_nil))) pa_nil))))
      (pssa_cons (psa_super (k := 4) SA (fun ar e => noCd e (by decide)) ST.mro ST.sup ST.tI ST.fI GI hr bI (passes_call (takes_of rfl rfl rfl rfl) fun _ _ _ _ h => h) (pa_cons (pe_callB call_len_seq (by rfl) B.len PySem.boot_len (pa_cons (pv 1) pa_nil)) pa_nil))
      (pssa_of (pss_one (ps_fld (pv 0) (pe_tupleOf rfl B.tup (pv 1)) rfl)))), ?_⟩
    refine ⟨_, rfl, p, rfl, ⟨_, hp⟩, fun D hD => lc_it walk_list (PvA H D fun i => (ds.map fun c => V.bl (cntV c)).take i) (PvA.zero hD rfl) (fun i H' _ v => v.1.seq hp) (fun i x H1 H2 hi v y => ?_) (fun H1 v => ?_)⟩
    · obtain ⟨rfl, hx⟩ := y
      exact ⟨rfl, _, rfl, x, rfl, sd x (List.mem_of_getElem? hx), v.next hD (Same.refl _) (takeMap _ ds i hx) (by rw [List.length_take]; omega)⟩
    have v2 := v.2
    dsimp only at v2
    rw [takeAll] at v2
    refine ⟨D, ds.map cntV, rfl, SqL.of (by rw [v2, List.map_map]; rfl), by rw [List.length_map]; exact ld, fun hall => ?_, fun i hi hj d hd => kE i ⟨hi, hj⟩ H1 d (SameBut.of v.1) hd⟩
    have k4 := k2 hall
    have h1a := v.1 _ _ hH
    refine ⟨a, dx, [], rfl, h1a, _, rfl, p, _, rfl, .inl (v.1.seq hp), a, dx, _, rfl, h1a, trivial, fun hc => absurd hc (by simp [cntV]), fun n en => ?_⟩
    have en : ds.length = n := by
      have := V.int.inj en
      omega
    refine ⟨by omega, fun H3 t h3 sb => ?_⟩
    have sb03 : SameBut a H H3 := (SameBut.of v.1).trans sb
    refine ⟨_, rfl, .inl ⟨p, ds, rfl, sb03.seq hH hp, fun c hc => ?_⟩⟩
    have hac : a ≠ c := ne_of_none h3 hc
    refine ⟨_, rfl, a, C, dx, _, rfl, (by rw [upd_ne hac]; exact h3), T.cl, nD, (by show 2 < 1000; decide), ?_⟩
    refine k4 _ t c (Eq.trans upd_same ?_) ?_ fun b o hb e => ?_
    · unfold fsR
      rw [putNe (by decide +kernel), putNe (by decide +kernel), put0, en]
      rfl
    · rw [upd_ne (Ne.symm hac)]
      exact upd_same
    · have z := sb03 b o hb e
      rw [upd_ne hb, upd_ne (ne_of_none z hc)]
      exact z
theorem ok_worksRankOf (F : Fun K "rank_of" "Works.rank_of" sWorksRankOf f fd) (T : ClsT K C) (nD : NoAttr K C "days") (B : Bt mg) : FnOk P w K mg base CX0 1 f fd ["self", "things"] (spRankOf K C (WorksPre C)) := by
  refine F.ok scWorksRankOf (fun vs H Q E h => ?_) (fun cdv A outer s H vs Q E hr h => ?_)
  · obtain ⟨a, p, n, r, ns, rfl, _⟩ := h
    rfl
  · obtain ⟨a, p, n, r, ns, rfl, ⟨ds, hA, rfl, ld, rfl⟩, hp, hv, hl, kQ⟩ := h
    have hcl := valid_at hv
    refine ⟨_, pss_cons (ps_set (i := 2) scWorksRankOf.nd rfl (Or.inl rfl) pe_int)
      (pss_cons (ps_for PassesOwn.never rfl (pi_list (pe_callB cr_sortedI (by rfl) B.srt boot_sorted (pa_cons (pe_lc (own := [("thing", 4)]) (g := gName 4) (tt := tYes) rfl scWorksRankOf.nd (pi_tup (pv 1)) (blkOk_by (N := ["self", "things", "done", "day", "thing"]) (sc := defScope sWorksRankOf) (by decide +kernel))
        (fun _ _ _ _ _ => pg_name (i := 4) scWorksRankOf.nd rfl (Or.inl rfl)) (fun _ _ _ _ _ => pts_nil) (fun _ _ _ _ _ => pe_ix (ixt_at K rfl) (fld_at K rfl (pv 0) rfl) (pv 4) (fun _ _ => rfl))) pa_nil)))
        (pg_name (i := 3) scWorksRankOf.nd rfl (Or.inl rfl)) (pss_one (ps_if (pt_cmpR op_gt (pv 3) (pv 2) (nomark _)) (pss_one (ps_aug (i := 2) scWorksRankOf.nd rfl (Or.inl rfl) pe_int ip_add)) pss_nil)))
      (pss_one (ps_ret (pv 2)))), ?_⟩
    refine ⟨_, rfl, p, rfl, ⟨_, hp⟩, fun D hD => lc_it walk_tup (PvA H D fun i => (ns.map fun x => V.int (ds.getD x.toNat 0)).take i) (PvA.zero hD rfl) (fun i H' _ v => Same.seqT v.1 hp) (fun i x H1 H2 hi v y => ?_) (fun H1 v => ?_)⟩
    · obtain ⟨rfl, hx⟩ := y
      have hi' : i < ns.length := by rw [List.length_map] at hi; exact hi
      have hx := getD_map hx
      subst hx
      have hb := hcl i _ (getD_some hi')
      obtain ⟨dx, t, c, h1, h2⟩ := WorksAt.same v.1 hA
      have e1 : ns.getD i 0 = (((ns.getD i 0).toNat : Nat) : Int) := by rw [Int.toNat_of_nonneg hb.1]
      refine ⟨rfl, _, rfl, a, C, dx, _, .ref c, rfl, h1, T.cl, nD, lookNe (by decide +kernel) (lookNe (by decide +kernel) lookEq), _, rfl, c, _, _, _, rfl, rfl, SqT.of h2, (by rw [e1]; exact atI_nat (map_at (by omega))), ?_⟩
      exact v.next hD (Same.refl _) (takeMap _ ns i (getD_some hi')) (by rw [List.length_take]; omega)
    have v2 := v.2
    dsimp only at v2
    rw [List.length_map, takeAll] at v2
    refine ⟨D, daysOf ds ns, rfl, SqL.of (by rw [v2]; unfold daysOf; rw [List.map_map]; rfl), fun s' S perm rising hS => ?_⟩
    have hrank : greedy s' = workRank (daysOf ds ns) := workRank_of perm rising
    have sm : Same H (upd H1 S (.lst (s'.map V.int))) := Same.new v.1 hS
    refine ⟨S, rfl, ⟨_, SqL.of upd_same⟩, for_it walk_list (fun i σ H' => ∃ d t, σ = [some (.ref a), some (.ref p), some (.int (greedy (s'.take i))), d, t] ∧ Same (upd H1 S (.lst (s'.map V.int))) H') ⟨none, none, rfl, Same.refl _⟩ (fun i σ H' _ ⟨_, _, _, s5⟩ => s5.seq (SqL.of upd_same)) ?_ ?_⟩
    · rintro i x σ H2 H3 hi ⟨d, t, rfl, s5⟩ ⟨rfl, hx⟩
      have hi' : i < s'.length := by rw [List.length_map] at hi; exact hi
      have hx := getD_map hx
      subst hx
      have eg : greedy (s'.take (i + 1)) = K03.step (greedy (s'.take i)) (s'.getD i 0) := by
        rw [take_succ_of (getD_some hi'), greedy_snoc]
      refine ⟨_, rfl, _, rfl, _, _, rfl, rfl, _, rfl, ?_⟩
      by_cases hgt : greedy (s'.take i) < s'.getD i 0
      · rw [decide_eq_true hgt]
        refine iteT ⟨_, rfl, _, _, rfl, rfl, some (.int (s'.getD i 0)), t, ?_, s5⟩
        rw [eg]
        unfold K03.step
        rw [if_pos hgt]
        rfl
      · rw [decide_eq_false hgt]
        refine iteF ⟨some (.int (s'.getD i 0)), t, ?_, s5⟩
        rw [eg]
        unfold K03.step
        rw [if_neg hgt]
        rfl
    · rintro σ H2 ⟨d, t, rfl, s5⟩
      refine ⟨_, rfl, ?_⟩
      rw [List.length_map, List.take_length, hrank]
      exact kQ H2 (sm.trans s5)
end
/-! ### timetable -/
/-- the two ints of the tuple at v -/
def pairAt (H : Hp) : V → Int × Int
  | .ref t => match H t with
    | some (.tup [.int i, .int j]) => (i, j)
    | _ => (0, 0)
  | _ => (0, 0)
theorem pairAt_of {H : Hp} {t : Addr} {i j : Int} (h : H t = some (.tup [.int i, .int j])) : pairAt H (.ref t) = (i, j) := by
  show (match H t with
    | some (.tup [.int i, .int j]) => (i, j)
    | _ => ((0 : Int), (0 : Int))) = (i, j)
  rw [h]
def pairsOf (ds ns : List Int) : List (Int × Int) := ns.map fun x => (ds.getD x.toNat 0, x)
def spTimetable (K : Frag) (C CS CN : Addr) : Sp := fun vs H Q E => ∃ (a p : Addr) (ds ns : List Int), vs = [.ref a, .ref p] ∧ WorksAt C H a ds ∧ ds.length ≤ 60 ∧ Sq K H p (ns.map V.int) ∧ ns.length ≤ 100 ∧
  (∀ (i : Nat), i < ns.length → Bad ds.length ns i → (∀ j, j < i → ¬ Bad ds.length ns j) → ∀ H' d, Same H H' → H' d = none → E (.ref CS) (some d) (upd H' d (.xd [("place", .int (i : Nat))]))) ∧
  (Valid ds.length ns → ¬ workRank (daysOf ds ns) = (ns.length : Int) → ∀ H' d q, Same H H' → SqT K H' q (ns.map V.int) → H' d = none → E (.ref CN) (some d) (upd H' d (.xd [("things", .ref q)]))) ∧
  (Valid ds.length ns → workRank (daysOf ds ns) = (ns.length : Int) → ∀ H' q (L : List (Int × Int)), Same H H' → L.Perm (pairsOf ds ns) → L.Pairwise lexLe → H' q = some (.lst (L.map fun z => V.int z.2)) → Q (.ref q) H')
theorem scTimetable : FnScope ["works", "things", "held", "thing", "_"] ["works", "things"] (defScope sTimetable) := ⟨rfl, rfl, rfl, by decide +kernel, rfl, by decide +kernel, by decide +kernel⟩
/-- behind i turns of the list of pairs -/
def PvP (H1 : Hp) (D : Addr) (ps : List (Int × Int)) (i : Nat) (H : Hp) : Prop := Same H1 H ∧ ∃ vs : List V, H D = some (.lst vs) ∧ vs.length = i ∧ ∀ (j : Nat) v, vs[j]? = some v → ∃ t z, v = .ref t ∧ ps[j]? = some z ∧ H t = some (.tup [.int z.1, .int z.2])
section
variable {P : Program} {w : World} {K : Frag} {mg : Str → Option Value} {base : Heap} {f fS fF fN C CS CN : Addr} {fd fdS fdF fdN : FuncData}
theorem ok_timetable (F : Fun K "timetable" "timetable" sTimetable f fd) (T : ClsT K C) (nD : NoAttr K C "days")
    (gS : mg "set_of" = some (.ref fS)) (kS : PySem.W.keepIn K (.ref fS) = true) (bS : Binds K fdS ["size", "things"] []) (GS : FnOk P w K mg base (L2.CX P w) 4 fS fdS ["size", "things"] (spSetOf K CS))
    (MF : Meth K C "is_free" fF) (bF : Binds K fdF ["self", "things"] []) (GF : FnOk P w K mg base (L2.CX P w) 5 fF fdF ["self", "things"] (spIsFree K C (WorksPre C)))
    (TN : ErrT K mg "NotFree" "things" CN fN) (GN : FnOk P w K mg base (L2.CX P w) 1 fN fdN ["self", "things"] (spErr CN "things" okAny)) (bN : Binds K fdN ["self", "things"] []) (B : Bt mg) :
    FnOk P w K mg base (L2.CX P w) 6 f fd ["works", "things"] (spTimetable K C CS CN) := by
  refine F.okX scTimetable (fun vs H Q E h => ?_) (fun cdv A outer s H vs Q E hr h => ?_)
  · obtain ⟨a, p, ds, ns, rfl, _⟩ := h
    rfl
  · obtain ⟨a, p, ds, ns, rfl, hA, ld, hS, hl, kE1, kE2, kQ⟩ := h
    have hr2 : Room 2 _ := hr.mono (by decide)
    have hr4 : Room 4 _ := hr.mono (by decide)
    have hr5 : Room 5 _ := hr.mono (by decide)
    obtain ⟨dx, t, c, h1, h2⟩ := id hA
    refine ⟨_, pss_cons (ps_set (i := 2) scTimetable.nd rfl (Or.inl rfl) (pe_call GS hr4 rfl gS kS bS .nil (passes_call (takes_of rfl rfl rfl rfl) fun _ _ _ _ h => h) (pa_cons (pe_fld (pv 0) rfl) (pa_cons (pv 1) pa_nil))))
      (pss_cons (ps_if (pt_not (pt_val (pe_meth (pv 0) T.cl MF GF hr5 bF .nil passL (pa_cons (pv 2) pa_nil)))) (pss_one (ps_raiseE rfl TN GN bN hr2 (takes_of rfl rfl rfl rfl) rfl (pa_cons (pv 2) pa_nil))) pss_nil)
      (pss_one (ps_ret (pe_lc (own := [("_", 4), ("thing", 3)]) (g := gTup K 2 (gCons (gName 4) (gCons (gName 3) gNil))) (tt := tYes) rfl scTimetable.nd
        (pi_list (pe_callB cr_sortedPO (by rfl) B.srt boot_sorted (pa_cons (pe_lc (own := [("thing", 3)]) (g := gName 3) (tt := tYes) rfl scTimetable.nd (pi_tup (pv 2)) (blkOk_by (N := ["works", "things", "held", "thing", "_"]) (sc := defScope sTimetable) (by decide +kernel))
          (fun _ _ _ _ _ => pg_name (i := 3) scTimetable.nd rfl (Or.inl rfl)) (fun _ _ _ _ _ => pts_nil) (fun _ _ _ _ _ => pe_tup (pa_cons (pe_ix (ixt_at K rfl) (fld_at K rfl (pv 0) rfl) (pv 3) (fun _ _ => rfl)) (pa_cons (pv 3) pa_nil)))) pa_nil)))
        (blkOk_by (N := ["works", "things", "held", "thing", "_"]) (sc := defScope sTimetable) (by decide +kernel))
        (fun _ _ _ _ _ => pg_tup rfl (pgs_cons (pg_name (i := 4) scTimetable.nd rfl (Or.inl rfl)) (pgs_cons (pg_name (i := 3) scTimetable.nd rfl (Or.inl rfl)) pgs_nil))) (fun _ _ _ _ _ => pts_nil)
        (fun _ _ _ _ _ => pv 3))))), ?_⟩
    refine ⟨_, rfl, a, C, dx, _, _, rfl, h1, T.cl, T.nSize, lookEq, _, rfl, ds.length, p, ns, rfl, hS, hl, fun hv H1 q sm hq => ?_, fun i hi hb hj H1 d sm hd => kE1 i hi hb hj H1 d sm hd⟩
    obtain ⟨dx1, t1, c1, g1, g2⟩ := WorksAt.same sm hA
    have pre1 : WorksPre C H1 a ds.length (fun ns => workRank (daysOf ds ns)) := ⟨ds, WorksAt.same sm hA, rfl, ld, rfl⟩
    obtain ⟨_, _, g3, _, _, _, g4, _⟩ := (worksPre C).at_ _ _ _ _ pre1
    refine ⟨_, rfl, a, _, _, rfl, g3, g4, _, rfl, a, q, ds.length, _, ns, rfl, pre1, .inr hq, hv, hl, fun H2 sm2 => ?_⟩
    refine ⟨_, rfl, ?_⟩
    by_cases hfree : workRank (daysOf ds ns) = (ns.length : Int)
    · rw [decide_eq_true hfree]
      refine iteF ?_
      have sm02 : Same H H2 := sm.trans sm2
      have hq2 := Same.seqT sm2 hq
      have hA2 := WorksAt.same sm02 hA
      refine ⟨_, rfl, q, rfl, ⟨_, hq2⟩, fun D hD => lc_it walk_tup (PvP H2 D (pairsOf ds ns)) ⟨Same.new (Same.refl H2) hD, [], upd_same, rfl, fun j v h => by cases h⟩ (fun i H' _ v => Same.seqT v.1 hq2) (fun i x H3 H4 hi v y => ?_) (fun H3 v => ?_)⟩
      · obtain ⟨rfl, hx⟩ := y
        obtain ⟨v1, vs, v2, v3, v4⟩ := v
        have hi' : i < ns.length := by rw [List.length_map] at hi; exact hi
        have hx := getD_map hx
        subst hx
        have hb := valid_at hv i _ (getD_some hi')
        obtain ⟨dx3, t3, c3, j1, j2⟩ := WorksAt.same v1 hA2
        have e1 : ns.getD i 0 = (((ns.getD i 0).toNat : Nat) : Int) := by rw [Int.toNat_of_nonneg hb.1]
        refine ⟨rfl, _, rfl, a, C, dx3, _, .ref c3, rfl, j1, T.cl, nD, lookNe (by decide +kernel) (lookNe (by decide +kernel) lookEq), _, rfl, c3, _, _, _, rfl, rfl, SqT.of j2, (by rw [e1]; exact atI_nat (map_at (by omega))), _, rfl, (by show 2 ≤ sizeLine; decide), fun u hu => ?_⟩
        refine ⟨vs, by rw [upd_ne (ne_of_none v2 hu)]; exact v2, small1000 (by omega), ?_⟩
        have sm5 : Same H2 (upd H4 u (.tup [V.int (ds.getD (ns.getD i 0).toNat 0), V.int (ns.getD i 0)])) := Same.new v1 hu
        refine ⟨fun b o h => by rw [upd_ne (ne_of_none h hD)]; exact sm5 b o h, vs ++ [.ref u], upd_same, by rw [List.length_append, v3]; rfl, fun j v h => ?_⟩
        have pu : (upd (upd H4 u (.tup [V.int (ds.getD (ns.getD i 0).toNat 0), V.int (ns.getD i 0)])) D (.lst (vs ++ [V.ref u]))) u = some (.tup [V.int (ds.getD (ns.getD i 0).toNat 0), V.int (ns.getD i 0)]) := by
          rw [upd_ne (Ne.symm (ne_of_none v2 hu))]
          exact upd_same
        by_cases hj : j < vs.length
        · rw [List.getElem?_append_left hj] at h
          obtain ⟨t', z, rfl, hz, ht⟩ := v4 j v h
          refine ⟨t', z, rfl, hz, ?_⟩
          rw [upd_ne (fun e => by rw [e, v2] at ht; cases ht), upd_ne (ne_of_none ht hu)]
          exact ht
        · have e2 : j = vs.length := by
            have := (List.getElem?_eq_some_iff.mp h).1
            rw [List.length_append] at this
            simp at this
            omega
          subst e2
          rw [List.getElem?_append_right (Nat.le_refl _)] at h
          simp at h
          subst h
          refine ⟨u, (ds.getD (ns.getD i 0).toNat 0, ns.getD i 0), rfl, ?_, pu⟩
          unfold pairsOf
          rw [v3, List.getElem?_map, getD_some hi']
          rfl
      obtain ⟨v1, vs, v2, v3, v4⟩ := v
      rw [List.length_map] at v3
      have hks : ∀ x ∈ vs, ∃ t, x = V.ref t ∧ H3 t = some (.tup [.int (pairAt H3 x).1, .int (pairAt H3 x).2]) := fun x hx => by
        obtain ⟨j, hj⟩ := List.getElem?_of_mem hx
        obtain ⟨t', z, rfl, hz, ht⟩ := v4 j x hj
        exact ⟨t', rfl, by rw [pairAt_of ht]; exact ht⟩
      have hmap : vs.map (pairAt H3) = pairsOf ds ns := by
        apply List.ext_getElem?
        intro j
        rw [List.getElem?_map]
        cases hj : vs[j]? with
        | none =>
          have : ns.length ≤ j := by
            have := List.getElem?_eq_none_iff.mp hj
            omega
          unfold pairsOf
          rw [List.getElem?_map, List.getElem?_eq_none this]
          rfl
        | some x =>
          obtain ⟨t', z, rfl, hz, ht⟩ := v4 j x hj
          rw [hz]
          show some (pairAt H3 (.ref t')) = some z
          rw [pairAt_of ht]
      refine ⟨D, vs, pairAt H3, rfl, SqL.of v2, hks, fun ys S hsr hst hSn => ⟨S, rfl, ⟨_, SqL.of upd_same⟩, fun D2 hD2 => lc_it walk_list (PvA (upd H3 S (.lst ys)) D2 fun i => (ys.map fun v => V.int (pairAt H3 v).2).take i) (PvA.zero hD2 rfl) (fun i H' _ u => u.1.seq (SqL.of upd_same)) (fun i x H4 H5 hi u y => ?_) (fun H4 u => ?_)⟩⟩
      · obtain ⟨rfl, hx⟩ := y
        obtain ⟨t', rfl, ht⟩ := hks x (hst.perm.mem_iff.mp (List.mem_of_getElem? hx))
        have ht4 : H5 t' = some (.tup [.int (pairAt H3 (.ref t')).1, .int (pairAt H3 (.ref t')).2]) := u.1 _ _ (by rw [upd_ne (ne_of_none ht hSn)]; exact ht)
        refine ⟨t', _, rfl, SqT.of ht4, rfl, _, _, rfl, _, _, rfl, rfl, rfl, _, rfl, ?_⟩
        exact u.next hD2 (Same.refl _) (takeMap _ ys i hx) (by
          rw [List.length_take]
          have := hst.perm.length_eq
          omega)
      have u2 := u.2
      dsimp only at u2
      rw [takeAll] at u2
      refine kQ hv hfree H4 D2 (ys.map (pairAt H3)) ((sm02.trans v1).trans ((Same.new (Same.refl H3) hSn).trans u.1)) ?_ ?_ ?_
      · rw [← hmap]
        exact hst.perm.map _
      · rw [List.pairwise_map]
        refine List.Pairwise.imp (fun {x y} h => ?_) hsr
        have := SrtO.lexB_no.mp h
        unfold lexLe
        omega
      · rw [u2, List.map_map]
        rfl
    · rw [decide_eq_false hfree]
      refine iteT ⟨_, rfl, raiseE_of E trivial fun d hd => ?_⟩
      exact kE2 hv hfree H2 d q (sm.trans sm2) (Same.seqT sm2 hq) hd
end
end K03
namespace K03
open PySem PySem.Spec PyProof.Rows L2 Sup
open PySem.W (Frag)
abbrev sPool : Stmt := top 22
abbrev sMixed : Stmt := top 23
abbrev sDraw : Stmt := top 24
abbrev sDigits : Stmt := top 25
/-! ### the drawing of numbers -/
def PoolAt (H : Hp) (P : Addr) : Prop := ∃ (A : Addr) (ms : List Int) (i s z : Int), H P = some (.lst [.ref A, .int i, .int s, .int z]) ∧ H A = some (.lst (ms.map V.int)) ∧ 0 ≤ i ∧ 0 ≤ s ∧ 0 ≤ z ∧ z < 2147483647
theorem PoolAt.same {H H' : Hp} {P : Addr} (e : Same H H') (h : PoolAt H P) : PoolAt H' P := by
  obtain ⟨A, ms, i, s, z, h1, h2, h3⟩ := h
  exact ⟨A, ms, i, s, z, e _ _ h1, e _ _ h2, h3⟩
theorem pool_ne {A P : Addr} {H : Hp} {ms : List Int} {i s z : Int} (h1 : H P = some (.lst [.ref A, .int i, .int s, .int z])) (h2 : H A = some (.lst (ms.map V.int))) : A ≠ P := fun e => by
  rw [e, h1] at h2
  cases ms with
  | nil => cases h2
  | cons m ms => cases h2
def spPool (K : Frag) : Sp := fun vs H Q _ => ∃ (a : Addr) (ns : List Int), vs = [.ref a] ∧ SqL K H a (ns.map V.int) ∧ ns.length ≤ 63 ∧ ∀ H' P, Same H H' → PoolAt H' P → Q (.ref P) H'
def spMixed : Sp := fun vs H Q _ => ∃ (c p : Int), vs = [.int c, .int p] ∧ -(2 ^ 64) < c ∧ c < 2 ^ 64 ∧ ∀ v : Int, 0 ≤ v → Q (.int v) H
def spDraw : Sp := fun vs H Q _ => ∃ (P : Addr) (m : Int), vs = [.ref P, .int m] ∧ PoolAt H P ∧ 0 < m ∧ m < 1073741824 ∧ ∀ H' (v : Int), SameBut P H H' → PoolAt H' P → 0 ≤ v → v < m → Q (.int v) H'
theorem scPool : FnScope ["_law_script", "_law_cell", "_law_cells", "_law_seed"] ["_law_script"] (defScope sPool) := ⟨rfl, rfl, rfl, by decide +kernel, rfl, by decide +kernel, by decide +kernel⟩
theorem scMixed : FnScope ["_law_cell", "_law_place", "_law_one", "_law_two", "_law_three"] ["_law_cell", "_law_place"] (defScope sMixed) := ⟨rfl, rfl, rfl, by decide +kernel, rfl, by decide +kernel, by decide +kernel⟩
theorem scDraw : FnScope ["_law_pool_here", "_law_many", "_law_place", "_law_cell", "_law_rest"] ["_law_pool_here", "_law_many"] (defScope sDraw) := ⟨rfl, rfl, rfl, by decide +kernel, rfl, by decide +kernel, by decide +kernel⟩
theorem cutV_ints (ns : List Int) (lo hi : Option Int) : ∃ ms : List Int, cutV (ns.map V.int) lo hi = ms.map V.int ∧ ms.length ≤ ns.length := by
  refine ⟨(ns.drop (HT.sIx (ns.map V.int).length 0 lo)).take (HT.sIx (ns.map V.int).length (ns.map V.int).length hi - HT.sIx (ns.map V.int).length 0 lo), ?_, ?_⟩
  · unfold cutV
    rw [List.map_take, List.map_drop]
  · rw [List.length_take, List.length_drop]
    omega
theorem fmod_lt {a m : Int} (h : 0 < m) : 0 ≤ a % m ∧ a % m < m := ⟨Int.emod_nonneg a (by omega), Int.emod_lt_of_pos a h⟩
section
variable {P : Program} {w : World} {K : Frag} {mg : Str → Option Value} {base : Heap} {f fM : Addr} {fd fdM : FuncData}
theorem ok_mixed (F : Fun K "_law_mixed" "_law_mixed" sMixed f fd) (B : Bt mg) : FnOk P w K mg base CX0 1 f fd ["_law_cell", "_law_place"] spMixed := by
  refine F.ok scMixed (fun vs H Q E h => ?_) (fun cdv A outer s H vs Q E hr h => ?_)
  · obtain ⟨c, p, rfl, _⟩ := h
    rfl
  · obtain ⟨c, p, rfl, c1, c2, k⟩ := h
    refine ⟨_, pss_cons (ps_set (i := 2) scMixed.nd rfl (Or.inl rfl) (pe_op op_mod (pe_callTy call_int1 (by rfl) B.int boot_int (pa_cons (pe_op op_mul (pv 0) (pe_op op_add pe_int (pe_op op_mul pe_int (pv 1)))) pa_nil)) pe_int))
      (pss_cons (ps_set (i := 3) scMixed.nd rfl (Or.inl rfl) (pe_op op_mod (pe_callTy call_int1 (by rfl) B.int boot_int (pa_cons (pe_op op_add (pe_op op_mul (pv 2) (pv 2)) (pe_op op_mul pe_int (pv 2))) pa_nil)) pe_int))
      (pss_cons (ps_set (i := 4) scMixed.nd rfl (Or.inl rfl) (pe_op op_mod (pe_callTy call_int1 (by rfl) B.int boot_int (pa_cons (pe_op op_add (pe_op op_mul (pv 3) pe_int) (pv 2)) pa_nil)) pe_int))
      (pss_one (ps_ret (pe_op op_add (pe_op op_mul (pv 3) pe_int) (pv 4)))))), ?_⟩
    refine ⟨_, rfl, _, rfl, _, _, rfl, rfl, .inl ⟨by omega, by omega⟩, _, _, rfl, rfl, _, _, rfl, rfl, .inl ⟨by omega, by omega⟩, .inl ⟨_, rfl, _, _, rfl, rfl, (by show (0 : Int) < 2147483647; decide), ?_⟩⟩
    have e1 := fmod_lt (a := c * (48271 + 2 * p)) (m := 2147483647) (by decide)
    dsimp only
    generalize c * (48271 + 2 * p) % 2147483647 = one at e1 ⊢
    refine ⟨_, rfl, _, rfl, _, _, rfl, rfl, .inl ⟨by omega, by omega⟩, _, rfl, _, _, rfl, rfl, .inl ⟨by omega, by omega⟩, _, _, rfl, rfl, .inl ⟨_, rfl, _, _, rfl, rfl, (by show (0 : Int) < 2147483629; decide), ?_⟩⟩
    have e2 := fmod_lt (a := one * one + 16807 * one) (m := 2147483629) (by decide)
    dsimp only
    generalize (one * one + 16807 * one) % 2147483629 = two at e2 ⊢
    refine ⟨_, rfl, _, _, rfl, rfl, .inl ⟨by omega, by omega⟩, _, rfl, _, _, rfl, rfl, .inl ⟨_, rfl, _, _, rfl, rfl, (by show (0 : Int) < 2147483587; decide), ?_⟩⟩
    have e3 := fmod_lt (a := two * 69621 + one) (m := 2147483587) (by decide)
    dsimp only
    generalize (two * 69621 + one) % 2147483587 = three at e3 ⊢
    exact ⟨_, rfl, _, _, rfl, rfl, .inl ⟨by omega, by omega⟩, _, rfl, _, _, rfl, rfl, k _ (by omega)⟩
theorem ok_pool (F : Fun K "_law_pool" "_law_pool" sPool f fd) (B : Bt mg) : FnOk P w K mg base CX0 1 f fd ["_law_script"] (spPool K) := by
  refine F.ok scPool (fun vs H Q E h => ?_) (fun cdv A outer s H vs Q E hr h => ?_)
  · obtain ⟨a, ns, rfl, _⟩ := h
    rfl
  · obtain ⟨a, ns, rfl, hS, hl, k⟩ := h
    refine ⟨_, pss_cons (ps_setLc (i := 2) (own := [("_law_cell", 1)]) (g := gName 1) (tt := tYes) rfl scPool.nd rfl rfl (sw_true rfl rfl rfl (by decide +kernel)) (pi_list (pe_slice sl_list (pv 0) po_none (po_some pe_int))) (blkOk_by (N := ["_law_script", "_law_cell", "_law_cells", "_law_seed"]) (sc := defScope sPool) (by decide +kernel))
        (fun _ _ _ _ _ => pg_name (i := 1) scPool.nd rfl (Or.inl rfl)) (fun _ _ _ _ _ => pts_nil) (fun _ _ _ _ _ => pe_callTy call_int1 (by rfl) B.int boot_int (pa_cons (pv 1) pa_nil)))
      (pss_cons (ps_set (i := 3) scPool.nd rfl (Or.inl rfl) pe_int)
      (pss_cons (ps_for PassesOwn.never rfl (pi_list (pv 2)) (pg_name (i := 1) scPool.nd rfl (Or.inl rfl))
        (pss_one (ps_if (pt_cmpR op_lt (pe_callB call_abs (by rfl) B.abs boot_abs (pa_cons (pv 1) pa_nil)) pe_int (nomark _))
          (pss_one (ps_set (i := 3) scPool.nd rfl (Or.inl rfl) (pe_op op_mod (pe_callTy call_int1 (by rfl) B.int boot_int (pa_cons (pe_op op_add (pe_op op_mul (pv 3) pe_int) (pe_callB call_abs (by rfl) B.abs boot_abs (pa_cons (pv 1) pa_nil))) pa_nil)) pe_int))) pss_nil)))
      (pss_one (ps_ret (pe_lst (pa_cons (pv 2) (pa_cons pe_int (pa_cons pe_int (pa_cons (pv 3) pa_nil))))))))), ?_⟩
    obtain ⟨ms, em, lm⟩ := cutV_ints ns none (some 63)
    refine ⟨_, rfl, 63, rfl, a, _, rfl, hS, fun L hL => ⟨L, rfl, ⟨_, SqL.of upd_same⟩, fun D hD => ?_⟩⟩
    rw [em] at hD ⊢
    have sL : Same H (upd H L (.lst (ms.map V.int))) := Same.new (Same.refl H) hL
    refine lc_it walk_list (PvA (upd H L (.lst (ms.map V.int))) D fun i => (ms.map V.int).take i) (PvA.zero hD rfl) (fun i H' _ v => v.1.seq (SqL.of upd_same)) (fun i x H1 H2 hi v y => ?_) (fun H1 v => ?_)
    · obtain ⟨rfl, hx⟩ := y
      have hi' : i < ms.length := by rw [List.length_map] at hi; exact hi
      have hx' := getD_map hx
      subst hx'
      exact ⟨rfl, _, rfl, .inl ⟨_, rfl, v.next hD (Same.refl _) (take_succ_of hx) (by rw [List.length_take, List.length_map]; omega)⟩⟩
    have v2 := v.2
    dsimp only at v2
    rw [List.take_length] at v2
    have s1 : Same H H1 := sL.trans v.1
    refine ⟨_, rfl, D, rfl, ⟨_, SqL.of v2⟩, for_it walk_list (fun i σ H' => ∃ (c : Option V) (z : Int), σ = [some (.ref a), c, some (.ref D), some (.int z)] ∧ Same H1 H' ∧ 0 ≤ z ∧ z < 2147483647) ⟨none, 0, rfl, Same.refl _, by decide, by decide⟩ (fun i σ H' _ ⟨_, _, _, s5, _⟩ => s5.seq (SqL.of v2)) ?_ ?_⟩
    · rintro i x σ H2 H3 hi ⟨c, z, rfl, s5, z1, z2⟩ ⟨rfl, hx⟩
      have hx' := getD_map hx
      subst hx'
      refine ⟨_, rfl, _, rfl, _, _, rfl, rfl, _, rfl, ?_⟩
      by_cases hlt : (if ms.getD i 0 < 0 then -ms.getD i 0 else ms.getD i 0) < 1000000000000000000
      · rw [decide_eq_true hlt]
        refine iteT ⟨_, rfl, _, _, rfl, rfl, .inl ⟨by omega, by omega⟩, _, rfl, _, rfl, _, _, rfl, rfl, .inl ⟨_, rfl, _, _, rfl, rfl, (by show (0 : Int) < 2147483647; decide), ?_⟩⟩
        have e := fmod_lt (a := z * 31 + (if ms.getD i 0 < 0 then -ms.getD i 0 else ms.getD i 0)) (m := 2147483647) (by decide)
        exact ⟨_, _, rfl, s5, e.1, e.2⟩
      · rw [decide_eq_false hlt]
        exact iteF ⟨_, _, rfl, s5, z1, z2⟩
    · rintro σ H2 ⟨c, z, rfl, s5, z1, z2⟩
      refine ⟨_, rfl, _, rfl, (by show 4 ≤ sizeLine; decide), fun p hp => k _ p (Same.new (s1.trans s5) hp) ⟨D, ms, 0, 0, z, upd_same, ?_, by decide, by decide, z1, z2⟩⟩
      have := s5 _ _ v2
      rw [upd_ne (ne_of_none this hp)]
      exact this
theorem ok_draw (F : Fun K "_law_draw" "_law_draw" sDraw f fd) (kM : PySem.W.keepIn K (.ref fM) = true) (bM : Binds K fdM ["_law_cell", "_law_place"] []) (gM : mg "_law_mixed" = some (.ref fM)) (GM : FnOk P w K mg base CX0 1 fM fdM ["_law_cell", "_law_place"] spMixed) (B : Bt mg) :
    FnOk P w K mg base CX0 2 f fd ["_law_pool_here", "_law_many"] spDraw := by
  refine F.ok scDraw (fun vs H Q E h => ?_) (fun cdv A outer s H vs Q E hr h => ?_)
  · obtain ⟨p, m, rfl, _⟩ := h
    rfl
  · obtain ⟨p, m, rfl, ⟨L, ms, i, st, z, h1, h2, i0, s0, z0, z1⟩, m0, m1, k⟩ := h
    have hLp : L ≠ p := pool_ne h1 h2
    -- what is done with the state: rest = pool[2]; pool[2] = rest // many; return int(rest) % many
    have fin : ∀ (H1 : Hp) (i1 st1 : Int), SameBut p H H1 → H1 p = some (.lst [.ref L, .int i1, .int st1, .int z]) → 0 ≤ i1 → 0 ≤ st1 → ∀ H2, H2 = upd H1 p (.lst [.ref L, .int i1, .int (st1 / m), .int z]) → Q (.int (st1 % m)) H2 := fun H1 i1 st1 sb hp hi hs H2 e => by
      subst e
      have e := fmod_lt (a := st1) m0
      have sb2 : SameBut p H (upd H1 p (.lst [.ref L, .int i1, .int (st1 / m), .int z])) := fun b o hb h => by rw [upd_ne hb]; exact sb b o hb h
      exact k _ _ sb2 ⟨L, ms, i1, st1 / m, z, upd_same, sb2 _ _ hLp h2, hi, Int.ediv_nonneg hs (by omega), z0, z1⟩ e.1 e.2
    refine ⟨_, pss_cons (ps_if (pt_cmpR op_eq (pe_ix ix_list (pv 0) pe_int (fun _ _ => rfl)) pe_int (nomark _))
        (pss_cons (ps_set (i := 2) scDraw.nd rfl (Or.inl rfl) (pe_ix ix_list (pv 0) pe_int (fun _ _ => rfl)))
        (pss_cons (ps_asg (pe_op op_add (pv 2) pe_int) (pg_sub (pv 0) pe_int set_list))
        (pss_cons (ps_set (i := 3) scDraw.nd rfl (Or.inl rfl) (pe_ix ix_list (pv 0) pe_int (fun _ _ => rfl)))
        (pss_cons (ps_if (pt_cmpR op_lt (pv 2) (pe_callB call_len_seq (by rfl) B.len PySem.boot_len (pa_cons (pe_ix ix_list (pv 0) pe_int (fun _ _ => rfl)) pa_nil)) (nomark _))
          (pss_one (ps_set (i := 3) scDraw.nd rfl (Or.inl rfl) (pe_ix ix_list (pe_ix ix_list (pv 0) pe_int (fun _ _ => rfl)) (pv 2) (fun _ _ => rfl)))) pss_nil)
        (pss_one (ps_if (pt_cmpR op_lt (pe_callB call_abs (by rfl) B.abs boot_abs (pa_cons (pv 3) pa_nil)) pe_int (nomark _))
          (pss_one (ps_asg (pe_call GM hr rfl gM kM bM .nil pass0 (pa_cons (pv 3) (pa_cons (pv 2) pa_nil))) (pg_sub (pv 0) pe_int set_list)))
          (pss_one (ps_asg (pe_callB call_abs (by rfl) B.abs boot_abs (pa_cons (pv 3) pa_nil)) (pg_sub (pv 0) pe_int set_list))))))))) pss_nil)
      (pss_cons (ps_set (i := 4) scDraw.nd rfl (Or.inl rfl) (pe_ix ix_list (pv 0) pe_int (fun _ _ => rfl)))
      (pss_cons (ps_asg (pe_op op_fdiv (pv 4) (pv 1)) (pg_sub (pv 0) pe_int set_list))
      (pss_one (ps_ret (pe_op op_mod (pe_callTy call_int1 (by rfl) B.int boot_int (pa_cons (pv 4) pa_nil)) (pv 1)))))), ?_⟩
    refine ⟨_, rfl, p, _, 2, _, rfl, rfl, SqL.of h1, rfl, rfl, _, rfl, ?_⟩
    have upP : ∀ (H1 : Hp) (o : HO), SameBut p H H1 → SameBut p H (upd H1 p o) := fun H1 o sb b u hb h => by rw [upd_ne hb]; exact sb b u hb h
    have sb0 : SameBut p H H := fun b o _ h => h
    by_cases hz : st = 0
    · rw [dInt, decide_eq_true hz]
      refine iteT ?_
      refine ⟨_, rfl, p, _, 1, _, rfl, rfl, SqL.of h1, rfl, ?_⟩
      refine ⟨_, rfl, _, _, rfl, rfl, _, rfl, p, _, 1, 1, rfl, rfl, h1, rfl, ?_⟩
      have e1 : (upd H p (.lst ([V.ref L, V.int i, V.int st, V.int z].set 1 (V.int (i + 1))))) p = some (.lst [V.ref L, V.int (i + 1), V.int st, V.int z]) := upd_same
      have sb1 := upP H (.lst ([V.ref L, V.int i, V.int st, V.int z].set 1 (V.int (i + 1)))) sb0
      generalize upd H p (.lst ([V.ref L, V.int i, V.int st, V.int z].set 1 (V.int (i + 1)))) = H1 at e1 sb1 ⊢
      have h2' : H1 L = some (.lst (ms.map V.int)) := sb1 _ _ hLp h2
      refine ⟨_, rfl, p, _, 3, _, rfl, rfl, SqL.of e1, rfl, ?_⟩
      refine ⟨_, rfl, _, rfl, p, _, 0, _, rfl, rfl, SqL.of e1, rfl, L, _, rfl, .inl (SqL.of h2'), _, _, rfl, rfl, _, rfl, ?_⟩
      by_cases hlt : i < (((ms.map V.int).length : Nat) : Int)
      · rw [decide_eq_true hlt]
        refine iteT ?_
        have hi' : i.toNat < ms.length := by rw [List.length_map] at hlt; omega
        have ei : i = ((i.toNat : Nat) : Int) := by rw [Int.toNat_of_nonneg i0]
        refine ⟨_, rfl, p, _, 0, _, rfl, rfl, SqL.of e1, rfl, _, rfl, L, _, _, _, rfl, rfl, SqL.of h2', (by rw [ei]; exact atI_nat (map_at hi')), ?_⟩
        generalize ms.getD i.toNat 0 = c
        refine ⟨_, rfl, _, rfl, _, _, rfl, rfl, _, rfl, ?_⟩
        by_cases hb : (if c < 0 then -c else c) < 1000000000000000000
        · rw [decide_eq_true hb]
          refine iteT ?_
          have hc : -(2 ^ 64) < c ∧ c < 2 ^ 64 := by split at hb <;> omega
          refine ⟨_, rfl, _, rfl, c, i, rfl, hc.1, hc.2, fun v hv => ?_⟩
          refine ⟨_, rfl, p, _, 2, 2, rfl, rfl, e1, rfl, ?_⟩
          have e2 : (upd H1 p (.lst ([V.ref L, V.int (i + 1), V.int st, V.int z].set 2 (V.int v)))) p = some (.lst [V.ref L, V.int (i + 1), V.int v, V.int z]) := upd_same
          have sb2 := upP H1 (.lst ([V.ref L, V.int (i + 1), V.int st, V.int z].set 2 (V.int v))) sb1
          generalize upd H1 p (.lst ([V.ref L, V.int (i + 1), V.int st, V.int z].set 2 (V.int v))) = H2 at e2 sb2 ⊢
          refine ⟨_, rfl, p, _, 2, _, rfl, rfl, SqL.of e2, rfl, ?_⟩
          refine ⟨_, rfl, _, rfl, _, _, rfl, rfl, ⟨m0, m1⟩, _, rfl, p, _, 2, 2, rfl, rfl, e2, rfl, ?_⟩
          exact ⟨_, rfl, .inl ⟨_, rfl, _, rfl, _, _, rfl, rfl, m0, fin _ (i + 1) (v) sb2 e2 (by omega) hv _ rfl⟩⟩
        · rw [decide_eq_false hb]
          refine iteF ?_
          refine ⟨_, rfl, _, rfl, _, rfl, p, _, 2, 2, rfl, rfl, e1, rfl, ?_⟩
          have hv : 0 ≤ (if c < 0 then -c else c) := by split <;> omega
          generalize (if c < 0 then -c else c) = v at hv ⊢
          have e2 : (upd H1 p (.lst ([V.ref L, V.int (i + 1), V.int st, V.int z].set 2 (V.int v)))) p = some (.lst [V.ref L, V.int (i + 1), V.int v, V.int z]) := upd_same
          have sb2 := upP H1 (.lst ([V.ref L, V.int (i + 1), V.int st, V.int z].set 2 (V.int v))) sb1
          generalize upd H1 p (.lst ([V.ref L, V.int (i + 1), V.int st, V.int z].set 2 (V.int v))) = H2 at e2 sb2 ⊢
          refine ⟨_, rfl, p, _, 2, _, rfl, rfl, SqL.of e2, rfl, ?_⟩
          refine ⟨_, rfl, _, rfl, _, _, rfl, rfl, ⟨m0, m1⟩, _, rfl, p, _, 2, 2, rfl, rfl, e2, rfl, ?_⟩
          exact ⟨_, rfl, .inl ⟨_, rfl, _, rfl, _, _, rfl, rfl, m0, fin _ (i + 1) (v) sb2 e2 (by omega) hv _ rfl⟩⟩
      · rw [decide_eq_false hlt]
        refine iteF ?_
        refine ⟨_, rfl, _, rfl, _, _, rfl, rfl, _, rfl, ?_⟩
        by_cases hb : (if z < 0 then -z else z) < 1000000000000000000
        · rw [decide_eq_true hb]
          refine iteT ?_
          have hc : -(2 ^ 64) < z ∧ z < 2 ^ 64 := by split at hb <;> omega
          refine ⟨_, rfl, _, rfl, z, i, rfl, hc.1, hc.2, fun v hv => ?_⟩
          refine ⟨_, rfl, p, _, 2, 2, rfl, rfl, e1, rfl, ?_⟩
          have e2 : (upd H1 p (.lst ([V.ref L, V.int (i + 1), V.int st, V.int z].set 2 (V.int v)))) p = some (.lst [V.ref L, V.int (i + 1), V.int v, V.int z]) := upd_same
          have sb2 := upP H1 (.lst ([V.ref L, V.int (i + 1), V.int st, V.int z].set 2 (V.int v))) sb1
          generalize upd H1 p (.lst ([V.ref L, V.int (i + 1), V.int st, V.int z].set 2 (V.int v))) = H2 at e2 sb2 ⊢
          refine ⟨_, rfl, p, _, 2, _, rfl, rfl, SqL.of e2, rfl, ?_⟩
          refine ⟨_, rfl, _, rfl, _, _, rfl, rfl, ⟨m0, m1⟩, _, rfl, p, _, 2, 2, rfl, rfl, e2, rfl, ?_⟩
          exact ⟨_, rfl, .inl ⟨_, rfl, _, rfl, _, _, rfl, rfl, m0, fin _ (i + 1) (v) sb2 e2 (by omega) hv _ rfl⟩⟩
        · rw [decide_eq_false hb]
          refine iteF ?_
          refine ⟨_, rfl, _, rfl, _, rfl, p, _, 2, 2, rfl, rfl, e1, rfl, ?_⟩
          have hv : 0 ≤ (if z < 0 then -z else z) := by split <;> omega
          generalize (if z < 0 then -z else z) = v at hv ⊢
          have e2 : (upd H1 p (.lst ([V.ref L, V.int (i + 1), V.int st, V.int z].set 2 (V.int v)))) p = some (.lst [V.ref L, V.int (i + 1), V.int v, V.int z]) := upd_same
          have sb2 := upP H1 (.lst ([V.ref L, V.int (i + 1), V.int st, V.int z].set 2 (V.int v))) sb1
          generalize upd H1 p (.lst ([V.ref L, V.int (i + 1), V.int st, V.int z].set 2 (V.int v))) = H2 at e2 sb2 ⊢
          refine ⟨_, rfl, p, _, 2, _, rfl, rfl, SqL.of e2, rfl, ?_⟩
          refine ⟨_, rfl, _, rfl, _, _, rfl, rfl, ⟨m0, m1⟩, _, rfl, p, _, 2, 2, rfl, rfl, e2, rfl, ?_⟩
          exact ⟨_, rfl, .inl ⟨_, rfl, _, rfl, _, _, rfl, rfl, m0, fin _ (i + 1) (v) sb2 e2 (by omega) hv _ rfl⟩⟩
    · rw [dInt, decide_eq_false hz]
      refine iteF ?_
      refine ⟨_, rfl, p, _, 2, _, rfl, rfl, SqL.of h1, rfl, ?_⟩
      refine ⟨_, rfl, _, rfl, _, _, rfl, rfl, ⟨m0, m1⟩, _, rfl, p, _, 2, 2, rfl, rfl, h1, rfl, ?_⟩
      exact ⟨_, rfl, .inl ⟨_, rfl, _, rfl, _, _, rfl, rfl, m0, fin _ (i) (st) sb0 h1 i0 s0 _ rfl⟩⟩
end
end K03
namespace K03
open PySem PySem.Spec PyProof.Rows L2 Sup
open PySem.W (Frag)
abbrev sFirstsHold : Stmt := top 26
/-! ### bundles -/
/-- a def of the module, with its promise -/
structure FnT (P : Program) (w : World) (K : Frag) (mg : Str → Option Value) (base : Heap) (CX : CXT) (k : Nat) (x : Str) (f : Addr) (fd : FuncData) (ps : List Str) (sp : Sp) : Prop where
  g : mg x = some (.ref f)
  kp : PySem.W.keepIn K (.ref f) = true
  b : Binds K fd ps []
  ok : FnOk P w K mg base CX k f fd ps sp
/-- a method of the class at C, with its promise -/
structure MtT (P : Program) (w : World) (K : Frag) (mg : Str → Option Value) (base : Heap) (k : Nat) (C : Addr) (x : Str) (f : Addr) (fd : FuncData) (ps : List Str) (sp : Sp) : Prop where
  m : Meth K C x f
  b : Binds K fd ps []
  ok : FnOk P w K mg base (L2.CX P w) k f fd ps sp
/-- a class that can be made -/
structure ClT (P : Program) (w : World) (K : Frag) (mg : Str → Option Value) (base : Heap) (x : Str) (C f : Addr) (fd : FuncData) (ps : List Str) (sp : Sp) : Prop where
  g : mg x = some (.ref C)
  mkd : Mk K C f
  b : Binds K fd ps []
  ok : FnOk P w K mg base (L2.CX P w) 5 f fd ps sp
  t : ClsT K C
/-- an own error's class as the other end of isinstance -/
structure ErrN (K : Frag) (mg : Str → Option Value) (x : Str) (D : Addr) : Prop where
  g : mg x = some (.ref D)
  k : ClsOk K D
def Sb (K : Frag) (C D : Addr) (b : Bool) : Prop := PySem.W.subIn K (.ref C) (.ref D) = some b
theorem SameBut.refl (a : Addr) (H : Hp) : SameBut a H H := fun _ _ _ h => h
theorem made_same {H1 H2 : Hp} {x dx : Addr} {o1 o2 : HO} (hx : H1 x = none) (hd : H1 dx = none) (sb : SameBut x (upd (upd H1 dx o1) x o2) H2) : Same H1 H2 := fun b o h => by
  have h1 : b ≠ x := ne_of_none h hx
  have h2 : b ≠ dx := ne_of_none h hd
  refine sb b o h1 ?_
  rw [upd_ne h1, upd_ne h2]
  exact h
/-- the state that the law's helpers keep: the pool at p, the size n, the set of things at S -/
structure LawAt (H : Hp) (p S : Addr) (n : Nat) (ns : List Int) : Prop where
  pool : PoolAt H p
  set : H S = some (.tup (ns.map V.int))
  val : Valid n ns
  asc : ns.Pairwise (· < ·)
  len : ns.length ≤ n
  n16 : n ≤ 16
theorem LawAt.same {H H' : Hp} {p S : Addr} {n : Nat} {ns : List Int} (e : Same H H') (h : LawAt H p S n ns) : LawAt H' p S n ns := ⟨h.pool.same e, e _ _ h.set, h.val, h.asc, h.len, h.n16⟩
theorem pool_ne_tup {H : Hp} {p S : Addr} {xs : List V} (h : PoolAt H p) (hS : H S = some (.tup xs)) : S ≠ p := fun e => by
  obtain ⟨A, ms, i, s, z, h1, _⟩ := h
  rw [e, h1] at hS
  cases hS
theorem LawAt.draw {H H' : Hp} {p S : Addr} {n : Nat} {ns : List Int} (h : LawAt H p S n ns) (e : SameBut p H H') (hp : PoolAt H' p) : LawAt H' p S n ns := ⟨hp, e _ _ (pool_ne_tup h.pool h.set) h.set, h.val, h.asc, h.len, h.n16⟩
def spHold : Sp := fun vs H Q _ => ∃ (p S : Addr) (n : Nat) (ns : List Int), vs = [.ref p, .int (n : Nat), .ref S] ∧ LawAt H p S n ns ∧ ∀ H', SameBut p H H' → PoolAt H' p → Q (.bl true) H'
theorem nat_of {k m : Int} (h0 : 0 ≤ k) (h1 : k < m) : ∃ j : Nat, k = (j : Nat) ∧ (j : Int) < m := ⟨k.toNat, by omega, by omega⟩
theorem scFirstsHold : FnScope ["_law_pool_here", "_law_size", "_law_some", "_law_k", "_law_made", "_law_way", "_law_wrong", "_law_told", "_law_base", "e"] ["_law_pool_here", "_law_size", "_law_some"] (defScope sFirstsHold) := ⟨rfl, rfl, rfl, by decide +kernel, rfl, by decide +kernel, by decide +kernel⟩
section
variable {P : Program} {w : World} {K : Frag} {mg : Str → Option Value} {base : Heap} {f fD C fI fR fF CB fB CP CE : Addr} {fd fdD fdI fdR fdF fdB : FuncData}
theorem ok_firstsHold (F : Fun K "_law_firsts_hold" "_law_firsts_hold" sFirstsHold f fd) (D : FnT P w K mg base CX0 2 "_law_draw" fD fdD ["_law_pool_here", "_law_many"] spDraw)
    (M : ClT P w K mg base "Firsts" C fI fdI ["self", "size", "k"] (spFirstsInit C CB)) (nN : NoAttr K C "number") (R : MtT P w K mg base 5 C "rank" fR fdR ["self", "things"] (spRank K C (FirstsPre C))) (Fr : MtT P w K mg base 5 C "is_free" fF fdF ["self", "things"] (spIsFree K C (FirstsPre C)))
    (TB : ErrT K mg "BadNumber" "name" CB fB) (NP : ErrN K mg "PricesError" CP) (NE : ErrN K mg "BadEntry" CE) (s1 : Sb K CB CP true) (s2 : Sb K CB CE false) (s3 : Sb K CB CB true) (B : Bt mg) :
    FnOk P w K mg base CX0 7 f fd ["_law_pool_here", "_law_size", "_law_some"] spHold := by
  refine F.ok scFirstsHold (fun vs H Q E h => ?_) (fun cdv A outer s H vs Q E hr h => ?_)
  · obtain ⟨p, S, n, ns, rfl, _⟩ := h
    rfl
  · obtain ⟨p, S, n, ns, rfl, hL, kQ⟩ := h
    have hr2 : Room 2 _ := hr.mono (by decide)
    have hr5 : Room 5 _ := hr.mono (by decide)
    refine ⟨_, pss_cons (ps_set (i := 3) scFirstsHold.nd rfl (Or.inl rfl) (pe_call D.ok hr2 rfl D.g D.kp D.b .nil pass0 (pa_cons (pv 0) (pa_cons pe_int pa_nil))))
      (pss_cons (ps_set (i := 4) scFirstsHold.nd rfl (Or.inl rfl) (pe_make M.mkd M.ok hr rfl M.g M.b .nil passL (pa_cons (pv 1) (pa_cons (pv 3) pa_nil))))
      (pss_cons (ps_if (PW.pt (pw_or (pt_cmpR op_ne (pe_fld (pv 4) rfl) (pv 3) (nomark _)) (pw_or (pt_cmpR op_ne (pe_fld (pv 4) rfl) (pv 1) (nomark _))
          (pw_or1 (pt_cmpR op_ne (pe_meth (pv 4) M.t.cl R.m R.ok hr5 R.b .nil passL (pa_cons (pe_callTy call_list_of (by rfl) B.lst boot_list (pa_cons (pv 2) pa_nil)) pa_nil))
            (pe_callB (call_min2 rfl) (by rfl) B.mn boot_min (pa_cons (pv 3) (pa_cons (pe_callB call_len_seq (by rfl) B.len PySem.boot_len (pa_cons (pv 2) pa_nil)) pa_nil))) (nomark _)))))) (pss_one (ps_ret pe_bl)) pss_nil)
      (pss_cons (ps_if (pt_cmpR op_ne (pe_meth (pv 4) M.t.cl Fr.m Fr.ok hr5 Fr.b .nil passL (pa_cons (pv 2) pa_nil)) (pe_cmpR op_le (pe_callB call_len_seq (by rfl) B.len PySem.boot_len (pa_cons (pv 2) pa_nil)) (pv 3) (nomark _)) (nomark _)) (pss_one (ps_ret pe_bl)) pss_nil)
      (pss_cons (ps_set (i := 5) scFirstsHold.nd rfl (Or.inl rfl) (pe_call D.ok hr2 rfl D.g D.kp D.b .nil pass0 (pa_cons (pv 0) (pa_cons pe_int pa_nil))))
      (pss_cons (ps_set (i := 6) scFirstsHold.nd rfl (Or.inl rfl) (pe_ix ix_list (pe_lst (pa_cons (pe_op op_sub (pe_un un_neg pe_int) (pv 3)) (pa_cons pe_non (pa_cons pe_str pa_nil)))) (pe_call D.ok hr2 rfl D.g D.kp D.b .nil pass0 (pa_cons (pv 0) (pa_cons pe_int pa_nil))) (fun _ _ => rfl)))
      (pss_cons (ps_set (i := 7) scFirstsHold.nd rfl (Or.inl rfl) pe_non)
      (pss_cons (ps_set (i := 8) scFirstsHold.nd rfl (Or.inl rfl) pe_bl)
      (pss_cons (ps_try_as (i := 9) (Wout := fun _ _ _ _ => False) rfl rfl scFirstsHold.nd rfl rfl ⟨rfl, by decide, Or.inl TB.gC⟩ takes0
        (fun W pn xe tk _ => pss_one (ps_if (pt_cmpR op_eq (pv 5) pe_int (nomark _)) (pss_one (ps_expr (pe_makeS M.mkd M.ok hr rfl M.g M.b tk (pa_cons (pv 6) (pa_cons (pe_un un_neg pe_int) pa_nil)))))
          (pss_one (ps_expr (pe_makeS M.mkd M.ok hr rfl M.g M.b tk (pa_cons (pv 1) (pa_cons (pv 6) pa_nil)))))))
        (fun a oe cls d pn hz hf => pss_cons (ps_set (i := 7) scFirstsHold.nd rfl (Or.inl rfl) (xf_at (K := K) rfl TB.xf TB.noF hz hf (pv 9)))
          (pss_one (ps_set (i := 8) scFirstsHold.nd rfl (Or.inl rfl) (pe_and (pe_callB (call_isErr (K := K) rfl TB.err hz hf) (by rfl) B.isi boot_isinstance (pa_cons (pv 9) (pa_cons (pe_glob (v := .ref CP) rfl NP.g rfl) pa_nil)))
            (pe_one (pe_not (pe_callB (call_isErr (K := K) rfl TB.err hz hf) (by rfl) B.isi boot_isinstance (pa_cons (pv 9) (pa_cons (pe_glob (v := .ref CE) rfl NE.g rfl) pa_nil))))))))))
      (pss_one (ps_ret (pe_and (pv 8) (pe_one (pe_cmpR op_eq (pv 7) (pe_ix ix_list (pe_lst (pa_cons pe_str (pa_cons pe_str pa_nil))) (pv 5) (fun _ _ => rfl)) (nomark _)))))))))))))), ?_⟩
    refine ⟨_, rfl, p, 18, rfl, hL.pool, by decide, by decide, fun H1 k sb1 hp1 k0 k1 => ?_⟩
    obtain ⟨k, rfl, k1⟩ := nat_of k0 k1
    have L1 := hL.draw sb1 hp1
    refine ⟨_, rfl, _, rfl, fun x dx hx hdx hne => ⟨x, dx, .int (n : Nat), .int (k : Nat), rfl, upd_same, trivial, trivial, fun m em => ?_, fun hc => absurd hc (by simp [cntV]), fun _ hc => absurd hc (by simp [cntV]), fun n' k' en ek H2 t h2 sb => ?_⟩⟩
    · have := V.int.inj em
      have := hL.n16
      omega
    have en : n = n' := by have := V.int.inj en; omega
    have ek : k = k' := by have := V.int.inj ek; omega
    subst en ek
    refine ⟨rfl, ?_⟩
    have s12 := made_same hx hdx sb
    have L2 := L1.same s12
    have sb02 : SameBut p H H2 := fun b o hb h => s12 b o (sb1 b o hb h)
    have hlen := hL.len
    have hn16 := hL.n16
    have pre2 : FirstsPre C H2 x (n : Nat) (fun ns => min ((k : Nat) : Int) (ns.length : Int)) := ⟨dx, t, k, h2, rfl⟩
    have nR : (fsF (n : Nat) t (k : Nat)).lookup ("rank" : Str) = none := lookNe (by decide +kernel) (lookNe (by decide +kernel) (lookNe (by decide +kernel) lookNil))
    have nF : (fsF (n : Nat) t (k : Nat)).lookup ("is_free" : Str) = none := lookNe (by decide +kernel) (lookNe (by decide +kernel) (lookNe (by decide +kernel) lookNil))
    refine ⟨_, rfl, x, C, dx, _, .int (k : Nat), rfl, h2, M.t.cl, nN, fsF_number _ _ _, _, rfl, rfl, _, rfl, iteNS rfl ?_⟩
    refine ⟨_, rfl, x, C, dx, _, .int (n : Nat), rfl, h2, M.t.cl, M.t.nSize, fsF_size _ _ _, _, rfl, rfl, _, rfl, iteNS rfl ?_⟩
    refine ⟨_, rfl, x, dx, _, rfl, h2, nR, _, rfl, S, _, rfl, .inr (SqT.of L2.set), fun l hl => ?_⟩
    have sl := Same.new (o := .lst (ns.map V.int)) (Same.refl H2) hl
    refine ⟨x, l, n, _, ns, rfl, (firstsPre C).same _ _ _ _ _ sl pre2, .inl (SqL.of upd_same), L2.val, by omega, fun H3 sm3 => ?_⟩
    have s13 := sl.trans sm3
    have L3 := L2.same s13
    refine ⟨_, rfl, _, rfl, S, _, rfl, .inr (SqT.of L3.set), _, _, rfl, rfl, _, rfl, iteNS (congrArg V.int ?_) ?_⟩
    · rw [List.length_map]
      split <;> omega
    have h3 := s13 _ _ h2
    refine ⟨_, rfl, x, dx, _, rfl, h3, nF, _, rfl, x, S, n, _, ns, rfl, (firstsPre C).same _ _ _ _ _ s13 pre2, .inr (SqT.of L3.set), L3.val, by omega, fun H4 sm4 => ?_⟩
    have L4 := L3.same sm4
    refine ⟨_, rfl, S, _, rfl, .inr (SqT.of L4.set), _, rfl, _, _, rfl, rfl, rfl, _, rfl, iteNS (congrArg V.bl ?_) ?_⟩
    · rw [List.length_map]
      exact decide_eq_decide.mpr ⟨fun z => by omega, fun z => by omega⟩
    have sb04 : SameBut p H H4 := fun b o hb h => sm4 b o (s13 b o (sb02 b o hb h))
    refine ⟨_, rfl, p, 2, rfl, L4.pool, by decide, by decide, fun H5 w sb5 hp5 w0 w1 => ?_⟩
    obtain ⟨w, rfl, w1⟩ := nat_of w0 w1
    have L5 := L4.draw sb5 hp5
    refine ⟨_, rfl, _, rfl, _, _, rfl, rfl, (by show 3 ≤ sizeLine; decide), fun l3 hl3 => ?_⟩
    have sl3 := Same.new (o := .lst [V.int (-1 - (k : Nat)), V.non, V.str "3"]) (Same.refl H5) hl3
    refine ⟨_, rfl, p, 3, rfl, hp5.same sl3, by decide, by decide, fun H6 j sb6 hp6 j0 j1 => ?_⟩
    obtain ⟨j, rfl, j1⟩ := nat_of j0 j1
    have hl3p : l3 ≠ p := fun z => by
      obtain ⟨A, ms, i, s, z0, g1, _⟩ := hp5
      rw [z, g1] at hl3
      cases hl3
    have sb06 : SameBut p H H6 := fun b o hb h => sb6 b o hb (sl3 b o (sb5 b o hb (sb04 b o hb h)))
    obtain ⟨wv, hat, hSc, hcnt⟩ : ∃ wv, atI [V.int (-1 - (k : Nat)), V.non, V.str "3"] ((j : Nat) : Int) = some wv ∧ Sc wv ∧ cntV wv = false := by
      have hj : j = 0 ∨ j = 1 ∨ j = 2 := by omega
      rcases hj with rfl | rfl | rfl
      · exact ⟨_, rfl, trivial, decide_eq_false (by omega)⟩
      · exact ⟨_, rfl, trivial, rfl⟩
      · exact ⟨_, rfl, trivial, rfl⟩
    refine ⟨l3, _, _, wv, rfl, rfl, SqL.of (sb6 _ _ hl3p upd_same), hat, ?_⟩
    have hno : ∀ m : Nat, wv = .int (m : Nat) → False := fun m e => by
      rw [e] at hcnt
      have z : decide (0 ≤ ((m : Nat) : Int)) = false := hcnt
      exact absurd (Int.natCast_nonneg m) (of_decide_eq_false z)
    refine ⟨_, rfl, rfl, _, rfl, ?_⟩
    have hw : w = 0 ∨ w = 1 := by omega
    rcases hw with rfl | rfl
    · refine iteT ?_
      refine ⟨_, rfl, _, rfl, fun x2 dx2 hx2 hdx2 hne2 => ⟨x2, dx2, wv, .int (-1), rfl, upd_same, hSc, trivial, fun m em => (hno m em).elim, fun hc H7 d sbx hd => ?_, fun hc => ?_, fun n' k' en => (hno n' en).elim⟩⟩
      refine ⟨true, TB.te, fun _ a0 ha0 => ?_, fun q => Bool.noConfusion q⟩
      have sm7 : Same H6 (upd H7 d (.xd [("name", .str "size")])) := Same.new (made_same hx2 hdx2 sbx) hd
      refine ⟨_, rfl, rfl, rfl, d, _, _, rfl, upd_same, lookEq, ?_⟩
      refine ⟨_, rfl, rfl, .ref CP, .ref CP, true, rfl, .own CP, (fun d' hd' => by cases hd'; exact ⟨_, upd_same⟩), kit_sub NP.k s1 s3, true, rfl, iteT ?_⟩
      refine ⟨_, rfl, rfl, .ref CE, .ref CE, false, rfl, .own CE, (fun d' hd' => by cases hd'; exact ⟨_, upd_same⟩), kit_sub NE.k s2 s3, false, rfl, ?_⟩
      refine ⟨_, rfl, true, rfl, iteT ?_⟩
      refine ⟨_, rfl, (by show 2 ≤ sizeLine; decide), fun l2 hl2 => ?_⟩
      refine ⟨_, rfl, l2, _, _, .str "size", rfl, rfl, SqL.of upd_same, rfl, rfl, ?_⟩
      refine Eq.mpr (congrArg (fun z => Q (V.bl z) _) (decide_eq_true rfl)) (kQ _ (fun b o hb h => Same.new sm7 hl2 b o (sb06 b o hb h)) (hp6.same (Same.new sm7 hl2)))
      · rw [hcnt] at hc
        cases hc
    · refine iteF ?_
      refine ⟨_, rfl, _, rfl, fun x2 dx2 hx2 hdx2 hne2 => ⟨x2, dx2, .int (n : Nat), wv, rfl, upd_same, trivial, hSc, fun m em => ?_, fun hc => absurd hc (by simp [cntV]), fun _ hc H7 d sbx hd => ?_, fun n' k' _ ek => (hno k' ek).elim⟩⟩
      · have := V.int.inj em
        omega
      refine ⟨true, TB.te, fun _ a0 ha0 => ?_, fun q => Bool.noConfusion q⟩
      have sm7 : Same H6 (upd H7 d (.xd [("name", .str "k")])) := Same.new (made_same hx2 hdx2 sbx) hd
      refine ⟨_, rfl, rfl, rfl, d, _, _, rfl, upd_same, lookEq, ?_⟩
      refine ⟨_, rfl, rfl, .ref CP, .ref CP, true, rfl, .own CP, (fun d' hd' => by cases hd'; exact ⟨_, upd_same⟩), kit_sub NP.k s1 s3, true, rfl, iteT ?_⟩
      refine ⟨_, rfl, rfl, .ref CE, .ref CE, false, rfl, .own CE, (fun d' hd' => by cases hd'; exact ⟨_, upd_same⟩), kit_sub NE.k s2 s3, false, rfl, ?_⟩
      refine ⟨_, rfl, true, rfl, iteT ?_⟩
      refine ⟨_, rfl, (by show 2 ≤ sizeLine; decide), fun l2 hl2 => ?_⟩
      refine ⟨_, rfl, l2, _, _, .str "k", rfl, rfl, SqL.of upd_same, rfl, rfl, ?_⟩
      refine Eq.mpr (congrArg (fun z => Q (V.bl z) _) (decide_eq_true rfl)) (kQ _ (fun b o hb h => Same.new sm7 hl2 b o (sb06 b o hb h)) (hp6.same (Same.new sm7 hl2)))
end
end K03
namespace Sup
open PySem PySem.Spec PyProof.Rows L2
/-! ### a walk over what is a list or a tuple -/
/-- the walk J goes over xs, which stands at a -/
def SeqJ (K : PySem.W.Frag) (J : It) (a : Addr) (xs : List V) (H : Hp) : Prop := J = Itl K a ∧ SqL K H a xs ∨ J = Itt K a ∧ SqT K H a xs
def iSeqT (K : PySem.W.Frag) (tl : TE) : TI := fun σ H R => tl σ H fun x H1 => ∃ a xs, x = .ref a ∧ (SqL K H1 a xs ∨ SqT K H1 a xs) ∧ ∀ J, SeqJ K J a xs H1 → R J H1
theorem walk_seq {K : PySem.W.Frag} {J : It} {a : Addr} {xs : List V} {H1 : Hp} (h : SeqJ K J a xs H1) : L2.Walk J xs.length (SeqJ K J a xs) (YAt xs) := by
  rcases h with ⟨rfl, h⟩ | ⟨rfl, h⟩
  · refine ⟨fun i H hi q => ?_, fun H q => ?_, fun i H x H' hi q y => ?_⟩
    · rcases q with ⟨_, q⟩ | ⟨e, q⟩
      · exact walk_list.goes i H hi q
      · rw [e]
        exact walk_tup.goes i H hi q
    · rcases q with ⟨_, q⟩ | ⟨e, q⟩
      · exact walk_list.stops H q
      · rw [e]
        exact walk_tup.stops H q
    · rcases q with ⟨_, q⟩ | ⟨e, q⟩
      · exact walk_list.yields i H x H' hi q y
      · rw [e] at y
        exact walk_tup.yields i H x H' hi q y
  · refine ⟨fun i H hi q => ?_, fun H q => ?_, fun i H x H' hi q y => ?_⟩
    · rcases q with ⟨e, q⟩ | ⟨_, q⟩
      · rw [e]
        exact walk_list.goes i H hi q
      · exact walk_tup.goes i H hi q
    · rcases q with ⟨e, q⟩ | ⟨_, q⟩
      · rw [e]
        exact walk_list.stops H q
      · exact walk_tup.stops H q
    · rcases q with ⟨e, q⟩ | ⟨_, q⟩
      · rw [e] at y
        exact walk_list.yields i H x H' hi q y
      · exact walk_tup.yields i H x H' hi q y
theorem pi_seq {X : Cx} (K : PySem.W.Frag) {tg l : Expr} {tl : TE} (hK : X.K = K) (hl : PE X l tl) : PI X tg l (iSeqT K tl) := by
  subst hK
  constructor
  intro pins s σ H R I h
  refine thn (hl.run pins s σ H _ I h) fun v s1 ⟨y, G, J, ry, hy⟩ => ?_
  obtain ⟨a, xs, rfl, hy, q⟩ := hy
  cases ry
  have fp : ∀ b ∈ [s1.heap.objs.size], FpOk X pins G b := fun b hb => by
    have z : b = s1.heap.objs.size := by simpa using hb
    rw [z]
    exact J.fpOk (Nat.le_refl _) (J.hok.fresh (Nat.le_refl _))
  rcases hy with hq | hq
  · obtain ⟨_, _, p, _⟩ := J.list hq
    exact wpAny_pyIter_list p.isList ⟨_, [s1.heap.objs.size], _, _, G, rfl, J.kept (t' := s1.toks) fun _ _ z => Heap.get?_push_of_some _ z, turn_list a _, ⟨_, Heap.get?_push_size _ rfl, rfl, rfl⟩, fp, q _ (.inl ⟨rfl, hq⟩)⟩
  · obtain ⟨its, _, p, _⟩ := J.tuple hq
    exact wpAny_pyIter_tuple (show s1.heap.IsTuple a its.toArray from p) ⟨_, [s1.heap.objs.size], _, _, G, rfl, J.kept (t' := s1.toks) fun _ _ z => Heap.get?_push_of_some _ z, turn_tuple a _, ⟨_, Heap.get?_push_size _ rfl, rfl, rfl⟩, fp, q _ (.inr ⟨rfl, hq⟩)⟩
def rLstQ (K : PySem.W.Frag) : List V → Hp → VK → Prop := fun xs H Q => ∃ p ys, xs = [V.ref p] ∧ (SqL K H p ys ∨ SqT K H p ys) ∧ ∀ l, H l = none → Q (.ref l) (upd H l (.lst ys))
theorem lst_at {X : Cx} (K : PySem.W.Frag) (h : X.K = K) : CallR X (.type "list") (rLstQ K) := by
  subst h
  exact call_list_of
end Sup
namespace K03
open PySem PySem.Spec PyProof.Rows L2 Sup
open PySem.W (Frag)
abbrev sTT : Stmt := top 28
abbrev sNoSet : Stmt := top 29
/-! ### the text by places -/
def lcScope : Expr → Scope
  | .ListComp _ _ s _ => s
  | _ => defScope (top 0)
def callArg : Expr → Nat → Expr
  | .Call _ as _ _, i => as.getD i (.Constant .none 0 ⟨0, 0, 0, 0⟩)
  | _, _ => .Constant .none 0 ⟨0, 0, 0, 0⟩
def asgVal : Stmt → Expr
  | .Assign _ v _ => v
  | _ => .Constant .none 0 ⟨0, 0, 0, 0⟩
def stAt (st : Stmt) (i : Nat) : Stmt := (defBody st).getD i (.Pass ⟨0, 0, 0, 0⟩)
theorem look_re (g : Str → NameKind → Bool) : ∀ {l : List (Str × NameKind)} {x : Str} {k : NameKind}, l.lookup x = some k → (l.map fun z => if g z.1 z.2 = true then (z.1, NameKind.cell) else (z.1, z.2)).lookup x = some k ∨ (l.map fun z => if g z.1 z.2 = true then (z.1, NameKind.cell) else (z.1, z.2)).lookup x = some .cell
  | [], _, _, h => by cases h
  | (n, j) :: r, x, k, h => by
    rw [List.lookup_cons] at h
    rw [List.map_cons]
    cases e : (x == n) with
    | true =>
      rw [e] at h
      have h : j = k := by simpa using h
      subst h
      by_cases c : g n j = true
      · exact .inr (by rw [if_pos c, List.lookup_cons, e])
      · exact .inl (by rw [if_neg c, List.lookup_cons, e])
    | false =>
      rw [e] at h
      have ih := look_re g (l := r) h
      by_cases c : g n j = true
      · rw [if_pos c, List.lookup_cons, e]
        exact ih
      · rw [if_neg c, List.lookup_cons, e]
        exact ih
theorem blkOk_re {N : List Str} {sc scope : Scope} {own : List (Str × Nat)} {env : Env} (h : BlkOk N sc scope own) : BlkOk N (relabel sc env) scope own := ⟨h.kind, h.uniq, h.ix, fun y hy e => by
  have q : ∀ {k : NameKind}, _ → _ := fun {k} z => look_re (fun n k => k == .free && env.scope.kind == .function && env.kindOf n == some .cell) (l := sc.names) (x := y.1) (k := k) z
  rcases h.free y hy e with z | z
  · rcases q z with w | w
    · exact .inl w
    · exact .inl w
  · rcases q z with w | w
    · exact .inr w
    · exact .inl w, h.own⟩
/-! ### what is handed on -/
theorem SeqJ.same {K : Frag} {J : It} {a : Addr} {xs : List V} {H H' : Hp} (h : SeqJ K J a xs H) (e : Same H H') : SeqJ K J a xs H' := by
  rcases h with ⟨z, h⟩ | ⟨z, h⟩
  · exact .inl ⟨z, e.seq h⟩
  · exact .inr ⟨z, Same.seqT e h⟩
theorem PvP.zero {H1 : Hp} {D : Addr} {ps : List (Int × Int)} (hD : H1 D = none) : PvP H1 D ps 0 (upd H1 D (.lst [])) := ⟨Same.new (Same.refl H1) hD, [], upd_same, rfl, fun j v h => by cases h⟩
theorem PvP.next {H2 H4 : Hp} {D u : Addr} {ps : List (Int × Int)} {i : Nat} {z : Int × Int} (hD : H2 D = none) (v : PvP H2 D ps i H4) (hz : ps[i]? = some z) (hi : i ≤ 1000) (hu : H4 u = none) :
    ∃ xs, (upd H4 u (.tup [V.int z.1, V.int z.2])) D = some (.lst xs) ∧ xs.length < sizeLine ∧ PvP H2 D ps (i + 1) (upd (upd H4 u (.tup [V.int z.1, V.int z.2])) D (.lst (xs ++ [V.ref u]))) := by
  obtain ⟨v1, vs, v2, v3, v4⟩ := v
  refine ⟨vs, by rw [upd_ne (ne_of_none v2 hu)]; exact v2, small1000 (by omega), ?_⟩
  have sm : Same H2 (upd H4 u (.tup [V.int z.1, V.int z.2])) := Same.new v1 hu
  refine ⟨fun b o h => by rw [upd_ne (ne_of_none h hD)]; exact sm b o h, vs ++ [.ref u], upd_same, by rw [List.length_append, v3]; rfl, fun j v h => ?_⟩
  by_cases hj : j < vs.length
  · rw [List.getElem?_append_left hj] at h
    obtain ⟨t', w, rfl, hw, ht⟩ := v4 j v h
    refine ⟨t', w, rfl, hw, ?_⟩
    rw [upd_ne (fun e => by rw [e, v2] at ht; cases ht), upd_ne (ne_of_none ht hu)]
    exact ht
  · have e2 : j = vs.length := by
      have := (List.getElem?_eq_some_iff.mp h).1
      rw [List.length_append] at this
      simp at this
      omega
    subst e2
    rw [List.getElem?_append_right (Nat.le_refl _)] at h
    simp at h
    subst h
    refine ⟨u, z, rfl, by rw [v3]; exact hz, ?_⟩
    rw [upd_ne (Ne.symm (ne_of_none v2 hu))]
    exact upd_same
/-- what the sort of such a list gives -/
theorem PvP.keys {H2 H3 : Hp} {D : Addr} {ps : List (Int × Int)} (v : PvP H2 D ps ps.length H3) :
    ∃ vs, H3 D = some (.lst vs) ∧ (∀ x ∈ vs, ∃ t, x = V.ref t ∧ H3 t = some (.tup [.int (pairAt H3 x).1, .int (pairAt H3 x).2])) ∧ vs.map (pairAt H3) = ps := by
  obtain ⟨v1, vs, v2, v3, v4⟩ := v
  refine ⟨vs, v2, fun x hx => ?_, ?_⟩
  · obtain ⟨j, hj⟩ := List.getElem?_of_mem hx
    obtain ⟨t', z, rfl, hz, ht⟩ := v4 j x hj
    exact ⟨t', rfl, by rw [pairAt_of ht]; exact ht⟩
  · apply List.ext_getElem?
    intro j
    rw [List.getElem?_map]
    cases hj : vs[j]? with
    | none =>
      have h1 := List.getElem?_eq_none_iff.mp hj
      rw [List.getElem?_eq_none (by omega)]
      rfl
    | some x =>
      obtain ⟨t', z, rfl, hz, ht⟩ := v4 j x hj
      rw [hz]
      show some (pairAt H3 (.ref t')) = some z
      rw [pairAt_of ht]
theorem srt_lex {H3 : Hp} {ys : List V} (h : SrtO.Srtd (ltP (pairAt H3)) ys) : (ys.map (pairAt H3)).Pairwise lexLe := by
  rw [List.pairwise_map]
  refine List.Pairwise.imp (fun {x y} h => ?_) h
  have := SrtO.lexB_no.mp h
  unfold lexLe
  omega
/-! ### lists of ints, tuples of ints, told apart by == -/
theorem dpInts {K : Frag} {H : Hp} : ∀ ns : List Int, DpAll K H (ns.map V.int) (ns.map PyData.int)
  | [] => .nil
  | n :: ns => .cons (.int n) (dpInts ns)
theorem layInts : ∀ ns : List Int, PyData.canLayAll0 (ns.map PyData.int) = true
  | [] => by simp [PyData.canLayAll0]
  | n :: ns => by simp only [List.map_cons, PyData.canLayAll0, PyData.canLay0, layInts ns, Bool.and_self]
theorem depInts : ∀ ns : List Int, PyData.depthAll (ns.map PyData.int) ≤ 1
  | [] => by simp [PyData.depthAll]
  | n :: ns => by
    have := depInts ns
    simp only [List.map_cons, PyData.depthAll, PyData.depth]
    omega
theorem shT (ns : List Int) : SeqAt.shaped (.tuple (ns.map PyData.int)) = true := by
  have h := depInts ns
  show (PyData.canLay0 (.tuple (ns.map PyData.int)) && decide (PyData.depth (.tuple (ns.map PyData.int)) ≤ 64)) = true
  rw [Bool.and_eq_true]
  exact ⟨by simp only [PyData.canLay0]; exact layInts ns, decide_eq_true (by simp only [PyData.depth]; omega)⟩
theorem shL (ns : List Int) : SeqAt.shaped (.list (ns.map PyData.int)) = true := by
  have h := depInts ns
  show (PyData.canLay0 (.list (ns.map PyData.int)) && decide (PyData.depth (.list (ns.map PyData.int)) ≤ 64)) = true
  rw [Bool.and_eq_true]
  exact ⟨by simp only [PyData.canLay0]; exact layInts ns, decide_eq_true (by simp only [PyData.depth]; omega)⟩
theorem eqSelf {d : PyData} (h : SeqAt.shaped d = true) : PyData.eqv d d = true := SeqAt.eqv_refl d (SeqAt.canLay_of_shaped h)
/-! ### _law_digits -/
def spDigits : Sp := fun vs H Q _ => ∃ (m b : Int) (n : Nat), vs = [.int m, .int b, .int (n : Nat)] ∧ 0 < b ∧ b < 1073741824 ∧ n ≤ 100 ∧ ∀ H' t (ns : List Int), Same H H' → H' t = some (.tup (ns.map V.int)) → ns.length = n → Q (.ref t) H'
theorem scDigits : FnScope ["_law_number", "_law_base", "_law_many", "_law_row", "_law_k"] ["_law_number", "_law_base", "_law_many"] (defScope sDigits) := ⟨rfl, rfl, rfl, by decide +kernel, rfl, by decide +kernel, by decide +kernel⟩
section
variable {P : Program} {w : World} {K : Frag} {mg : Str → Option Value} {base : Heap} {f : Addr} {fd : FuncData}
theorem ok_digits (F : Fun K "_law_digits" "_law_digits" sDigits f fd) (B : Bt mg) : FnOk P w K mg base CX0 1 f fd ["_law_number", "_law_base", "_law_many"] spDigits := by
  refine F.ok scDigits (fun vs H Q E h => ?_) (fun cdv A outer s H vs Q E hr h => ?_)
  · obtain ⟨m, b, n, rfl, _⟩ := h
    rfl
  · obtain ⟨m, b, n, rfl, b0, b1, hn, kQ⟩ := h
    refine ⟨_, pss_cons (ps_set (i := 3) scDigits.nd rfl (Or.inl rfl) (pe_lst pa_nil))
      (pss_cons (ps_for PassesOwn.never rfl (pi_range1 rfl B.rng (pa_cons (pv 2) pa_nil)) (pg_name (i := 4) scDigits.nd rfl (Or.inl rfl))
        (pss_cons (ps_expr (pe_bm PySem.F.plainAttrs_list PySem.F.slot_list_append PySem.F.type_list_append mt_append (pv 3) (pa_cons (pe_op op_mod (pe_callTy call_int1 (by rfl) B.int boot_int (pa_cons (pv 0) pa_nil)) (pv 1)) pa_nil)))
          (pss_one (ps_set (i := 0) scDigits.nd rfl (Or.inl rfl) (pe_op op_fdiv (pv 0) (pv 1))))))
      (pss_one (ps_ret (pe_tupleOf rfl B.tup (pv 3))))), ?_⟩
    refine ⟨(by show 0 ≤ sizeLine; decide), fun l hl => ?_⟩
    have s0 : Same H (upd H l (.lst [])) := Same.new (Same.refl H) hl
    refine ⟨_, rfl, _, rfl, by omega, by omega, for_it walk_range (fun i σ H' => ∃ (z : Int) (k : Option V) (ns : List Int), σ = [some (.int z), some (.int b), some (.int (n : Nat)), some (.ref l), k] ∧ Same H H' ∧ H' l = some (.lst (ns.map V.int)) ∧ ns.length = i) ⟨m, none, [], rfl, s0, upd_same, rfl⟩ (fun _ _ _ _ _ => trivial) ?_ ?_⟩
    · rintro i x σ H2 H3 hi ⟨z, k, ns, rfl, s1, s2, s3⟩ ⟨rfl, rfl⟩
      rw [Int.toNat_natCast] at hi
      refine ⟨_, rfl, .inl ⟨rfl, _, SqL.of s2⟩, _, rfl, .inl ⟨_, rfl, _, rfl, _, _, rfl, rfl, b0, l, _, _, rfl, rfl, s2, small1000 (by rw [List.length_map]; omega), ?_⟩⟩
      refine ⟨_, rfl, _, rfl, _, _, rfl, rfl, ⟨b0, b1⟩, _, _, ns ++ [z % b], rfl, fun c o h => ?_, ?_, by rw [List.length_append, s3]; rfl⟩
      · rw [upd_ne (ne_of_none h hl)]
        exact s1 c o h
      · rw [List.map_append]
        exact upd_same
    · rintro σ H2 ⟨z, k, ns, rfl, s1, s2, s3⟩
      rw [Int.toNat_natCast] at s3
      exact ⟨_, rfl, .inl ⟨l, _, rfl, SqL.of s2, fun t ht => kQ _ t ns (Same.new s1 ht) upd_same s3⟩⟩
end
end K03
namespace K03
open PySem PySem.Spec PyProof.Rows L2 Sup
open PySem.W (Frag)
/-! ### _law_no_set_place -/
def spNoSet (K : Frag) (C : Addr) : Sp := fun vs H Q _ => ∃ (a p : Addr) (ds ns : List Int) (i : Nat), vs = [.ref a, .ref p] ∧ WorksAt C H a ds ∧ ds.length ≤ 60 ∧ Sq K H p (ns.map V.int) ∧ ns.length ≤ 100 ∧ i < ns.length ∧ Bad ds.length ns i ∧ (∀ j, j < i → ¬ Bad ds.length ns j) ∧
  ∀ H', Same H H' → Q (.int (i : Nat)) H'
theorem scNoSet : FnScope ["_law_made", "_law_row", "_law_place", "e"] ["_law_made", "_law_row"] (defScope sNoSet) := ⟨rfl, rfl, rfl, by decide +kernel, rfl, by decide +kernel, by decide +kernel⟩
section
variable {P : Program} {w : World} {K : Frag} {mg : Str → Option Value} {base : Heap} {f fT C CS fS CN : Addr} {fd fdT : FuncData}
theorem ok_noSet (F : Fun K "_law_no_set_place" "_law_no_set_place" sNoSet f fd) (T : FnT P w K mg base (L2.CX P w) 6 "timetable" fT fdT ["works", "things"] (spTimetable K C CS CN)) (TS : ErrT K mg "BadSet" "place" CS fS) :
    FnOk P w K mg base CX0 7 f fd ["_law_made", "_law_row"] (spNoSet K C) := by
  refine F.ok scNoSet (fun vs H Q E h => ?_) (fun cdv A outer s H vs Q E hr h => ?_)
  · obtain ⟨a, p, ds, ns, i, rfl, _⟩ := h
    rfl
  · obtain ⟨a, p, ds, ns, i, rfl, hA, ld, hS, ln, hi, hb, hj, kQ⟩ := h
    refine ⟨_, pss_cons (ps_set (i := 2) scNoSet.nd rfl (Or.inl rfl) pe_non)
      (pss_cons (ps_try_as (i := 3) (Wout := fun _ _ _ _ => False) rfl rfl scNoSet.nd rfl rfl ⟨rfl, by decide, Or.inl TS.gC⟩ takes0
        (fun W pn xe tk _ => pss_one (ps_expr (pe_callS T.ok hr rfl T.g T.kp T.b (fun σ => passAt tk σ) (pa_cons (pv 0) (pa_cons (pv 1) pa_nil)))))
        (fun a oe cls d pn hz hf => pss_one (ps_set (i := 2) scNoSet.nd rfl (Or.inl rfl) (xf_at (K := K) rfl TS.xf TS.noF hz hf (pv 3)))))
      (pss_one (ps_ret (pv 2)))), ?_⟩
    refine ⟨_, rfl, _, rfl, a, p, ds, ns, rfl, hA, ld, hS, ln, fun k hk bk jk H' d sm hd => ?_, fun hv => (hv i hi hb).elim, fun hv => (hv i hi hb).elim⟩
    have e : k = i := by
      rcases Nat.lt_trichotomy k i with z | z | z
      · exact (hj k z bk).elim
      · exact z
      · exact (jk i z hb).elim
    subst e
    refine ⟨true, TS.te, fun _ a0 ha0 => ?_, fun q => Bool.noConfusion q⟩
    exact ⟨_, rfl, rfl, rfl, d, _, _, rfl, upd_same, lookEq, _, rfl, kQ _ (Same.new sm hd)⟩
end
/-! ### _law_timetable_holds -/
theorem day_at {ds ns : List Int} (hv : Valid ds.length ns) {i : Nat} {x : Int} (h : ns[i]? = some x) : atI (ds.map V.int) x = some (.int (ds.getD x.toNat 0)) := by
  have hb := valid_at hv i x h
  obtain ⟨k, rfl⟩ : ∃ k : Nat, x = (k : Nat) := ⟨x.toNat, by rw [Int.toNat_of_nonneg hb.1]⟩
  rw [Int.toNat_natCast]
  exact atI_nat (map_at (by omega))
/-- the works of the set whose day is at most t -/
def early (ds ns : List Int) (t : Int) : List Int := ns.filter fun x => decide (ds.getD x.toNat 0 ≤ t)
theorem early_len (ds ns : List Int) (t : Int) : (((early ds ns t).length : Nat) : Int) = upto t (daysOf ds ns) := by
  unfold early upto daysOf
  rw [List.countP_map, List.countP_eq_length_filter]
  rfl
theorem filter_yes {α : Type} {p : α → Bool} {l : List α} {i : Nat} {x : α} (h : l[i]? = some x) (e : p x = true) : (l.take (i + 1)).filter p = (l.take i).filter p ++ [x] := by
  rw [take_succ_of h, List.filter_append, List.filter_cons, e] <;> rfl
theorem filter_no {α : Type} {p : α → Bool} {l : List α} {i : Nat} {x : α} (h : l[i]? = some x) (e : p x = false) : (l.take (i + 1)).filter p = (l.take i).filter p := by
  rw [take_succ_of h, List.filter_append, List.filter_cons, e]
  simp
/-- a list of Trues and Falses by a range -/
def bitsTo (n : Nat) (g : Nat → Bool) : List V := (List.range n).map fun t => V.bl (g t)
theorem bitsTo_next {n i : Nat} {g : Nat → Bool} (h : i < n) : (bitsTo n g).take (i + 1) = (bitsTo n g).take i ++ [V.bl (g i)] := takeMap _ _ i (by rw [List.getElem?_range h])
theorem bitsTo_all {n m : Nat} {g : Nat → Bool} (h : n ≤ m) : (bitsTo n g).take m = ((List.range n).map g).map V.bl := by
  rw [List.take_of_length_le (by unfold bitsTo; rw [List.length_map, List.length_range]; exact h), List.map_map]
  rfl
theorem bits_id {n : Nat} {g : Nat → Bool} : ((List.range n).map g).all id = true ↔ ∀ t, t < n → g t = true := by
  rw [List.all_map, List.all_eq_true]
  exact ⟨fun h t ht => h t (List.mem_range.mpr ht), fun h t ht => h t (List.mem_range.mp ht)⟩
theorem freeAll {ds ns : List Int} (ln : ns.length ≤ ds.length) : ((List.range (ds.length + 1)).map fun t => decide ((((early ds ns (t : Nat)).map V.int).length : Int) ≤ (t : Nat))).all id = true ↔ workRank (daysOf ds ns) = (ns.length : Int) := by
  have e : (daysOf ds ns).length = ns.length := by unfold daysOf; rw [List.length_map]
  have w := workRank_full (l := daysOf ds ns) (n := ds.length) (by omega)
  rw [e] at w
  rw [w, bits_id]
  constructor
  · intro h t ht
    have z := of_decide_eq_true (h t (by omega))
    rw [List.length_map, early_len] at z
    exact z
  · intro h t ht
    refine decide_eq_true ?_
    rw [List.length_map, early_len]
    exact h t (by omega)
def spTTHolds (K : Frag) (C : Addr) : Sp := fun vs H Q _ => ∃ (a q p : Addr) (ds ns : List Int), vs = [.ref a, .ref q, .ref p] ∧ WorksAt C H a ds ∧ ds.length ≤ 60 ∧ SqL K H q (ds.map V.int) ∧ Sq K H p (ns.map V.int) ∧ Valid ds.length ns ∧ ns.length ≤ ds.length ∧ ∀ H', Same H H' → Q (.bl true) H'
def nTT : List Str := ["_law_made", "_law_days", "_law_things", "_law_free", "_law_told", "_law_refused", "_law_base", "e", "_law_due", "_law_x", "_law_t", "_law_key", "_law_k"]
theorem scTT : FnScope ["_law_made", "_law_days", "_law_things", "_law_free", "_law_told", "_law_refused", "_law_base", "e", "_law_due", "_law_x", "_law_t", "_law_key", "_law_k"] ["_law_made", "_law_days", "_law_things"] (defScope sTT) := ⟨rfl, rfl, rfl, by decide +kernel, rfl, by decide +kernel, by decide +kernel⟩
/-- the block of the outer list -/
abbrev scFree : Scope := lcScope (callArg (asgVal (stAt sTT 0)) 0)
section
variable {P : Program} {w : World} {K : Frag} {mg : Str → Option Value} {base : Heap} {f fT C CS CN fN CP CE CL : Addr} {fd fdT : FuncData}
theorem ok_ttHolds (F : Fun K "_law_timetable_holds" "_law_timetable_holds" sTT f fd) (T : FnT P w K mg base (L2.CX P w) 6 "timetable" fT fdT ["works", "things"] (spTimetable K C CS CN)) (TN : ErrT K mg "NotFree" "things" CN fN)
    (NP : ErrN K mg "PricesError" CP) (NE : ErrN K mg "BadEntry" CE) (NS : ErrN K mg "BadSet" CS) (NL : ErrN K mg "NotALot" CL) (s1 : Sb K CN CP true) (s2 : Sb K CN CE false) (s3 : Sb K CN CS false) (s4 : Sb K CN CL false) (s5 : Sb K CN CN true) (B : Bt mg) :
    FnOk P w K mg base CX0 7 f fd ["_law_made", "_law_days", "_law_things"] (spTTHolds K C) := by
  refine F.ok scTT (fun vs H Q E h => ?_) (fun cdv A outer s H vs Q E hr h => ?_)
  · obtain ⟨a, q, p, ds, ns, rfl, _⟩ := h
    rfl
  · obtain ⟨a, q, p, ds, ns, rfl, hA, ld, hD, hS, hv, ln, kQ⟩ := h
    refine ⟨_, pss_cons (ps_set (i := 3) scTT.nd rfl (Or.inl rfl) (pe_callB (cr_all rfl) (by rfl) B.all boot_all (pa_cons (pe_lc (own := [("_law_t", 10)]) (g := gName 10) (tt := tYes) rfl scTT.nd
        (pi_range1 rfl B.rng (pa_cons (pe_op op_add (pe_callB call_len_seq (by rfl) B.len PySem.boot_len (pa_cons (pv 1) pa_nil)) pe_int) pa_nil)) (blkOk_by (N := nTT) (sc := defScope sTT) (by decide +kernel)) (fun _ _ _ _ _ => pg_name (i := 10) scTT.nd rfl (Or.inr rfl)) (fun _ _ _ _ _ => pts_nil)
        (fun _ _ _ _ _ => pe_cmpR op_le (pe_callB (len_at K rfl) (by rfl) B.len PySem.boot_len (pa_cons (pe_lc (own := [("_law_x", 9)]) (g := gName 9) rfl scTT.nd (pi_seq K rfl (pv 2)) (blkOk_re (blkOk_by (N := nTT) (sc := scFree) (by decide +kernel))) (fun _ _ _ _ _ => pg_name (i := 9) scTT.nd rfl (Or.inl rfl))
            (fun _ _ _ _ _ => pts_one (pt_cmpR op_le (pe_ix (ixl_at K rfl) (pv 1) (pv 9) (fun _ _ => rfl)) (pv 10) (nomark _))) (fun _ _ _ _ _ => pv 9)) pa_nil)) (pv 10) (nomark _))) pa_nil)))
      (pss_cons (ps_set (i := 4) scTT.nd rfl (Or.inr rfl) pe_non)
      (pss_cons (ps_set (i := 5) scTT.nd rfl (Or.inl rfl) pe_non)
      (pss_cons (ps_set (i := 6) scTT.nd rfl (Or.inl rfl) pe_bl)
      (pss_cons (ps_try_as (i := 7) (Wout := fun _ _ _ _ => False) rfl rfl scTT.nd rfl rfl ⟨rfl, by decide, Or.inl TN.gC⟩ takes0
        (fun W pn xe tk _ => pss_one (ps_set (i := 4) scTT.nd rfl (Or.inr rfl) (pe_callS T.ok hr rfl T.g T.kp T.b (fun σ => passAt tk σ) (pa_cons (pv 0) (pa_cons (pe_callTy (lst_at K rfl) (by rfl) B.lst boot_list (pa_cons (pv 2) pa_nil)) pa_nil)))))
        (fun a oe cls d pn hz hf => pss_cons (ps_set (i := 5) scTT.nd rfl (Or.inl rfl) (xf_at (K := K) rfl TN.xf TN.noF hz hf (pv 7)))
          (pss_one (ps_set (i := 6) scTT.nd rfl (Or.inl rfl) (pe_and (pe_callB (call_isErr (K := K) rfl TN.err hz hf) (by rfl) B.isi boot_isinstance (pa_cons (pv 7) (pa_cons (pe_glob (v := .ref CP) rfl NP.g rfl) pa_nil)))
            (pe_one (pe_not (pe_callB (call_isErrT (K := K) rfl TN.err hz hf) (by rfl) B.isi boot_isinstance (pa_cons (pv 7) (pa_cons (pe_tup (pa_cons (pe_glob (v := .ref CE) rfl NE.g rfl) (pa_cons (pe_glob (v := .ref CS) rfl NS.g rfl) (pa_cons (pe_glob (v := .ref CL) rfl NL.g rfl) pa_nil)))) pa_nil))))))))))
      (pss_cons (ps_if (pt_not (pt_val (pv 3))) (pss_one (ps_ret (pe_and (pv 6) (pe_and (pe_cmpR op_isN (pv 4) pe_non (nomark _)) (pe_one (pe_cmpR (op_eqD hr.units) (pv 5) (pe_tupleOf rfl B.tup (pv 2)) (nomark _))))))) pss_nil)
      (pss_cons (ps_setLc (i := 8) (own := [("_law_key", 11)]) (g := gName 11) (tt := tYes) rfl scTT.nd rfl rfl (sw_true rfl rfl rfl (by decide +kernel))
        (pi_list (pe_callB cr_sortedPO (by rfl) B.srt boot_sorted (pa_cons (pe_lc (own := [("_law_x", 9)]) (g := gName 9) (tt := tYes) rfl scTT.nd (pi_seq K rfl (pv 2)) (blkOk_by (N := nTT) (sc := defScope sTT) (by decide +kernel)) (fun _ _ _ _ _ => pg_name (i := 9) scTT.nd rfl (Or.inl rfl)) (fun _ _ _ _ _ => pts_nil)
          (fun _ _ _ _ _ => pe_tup (pa_cons (pe_ix (ixl_at K rfl) (pv 1) (pv 9) (fun _ _ => rfl)) (pa_cons (pv 9) pa_nil)))) pa_nil)))
        (blkOk_by (N := nTT) (sc := defScope sTT) (by decide +kernel)) (fun _ _ _ _ _ => pg_name (i := 11) scTT.nd rfl (Or.inl rfl)) (fun _ _ _ _ _ => pts_nil) (fun _ _ _ _ _ => pe_ix (ixt_at K rfl) (pv 11) pe_int (fun _ _ => rfl)))
      (pss_cons (ps_if (PW.pt (pw_or (pt_cmpR op_notN (pv 5) pe_non (nomark _)) (pw_or (pt_not (pt_val (pe_callB call_isi rfl B.isi boot_isinstance (pa_cons (pv 4) (pa_cons (pe_bltn (v := .ty "list") (by rfl) B.lst boot_list rfl) pa_nil)))))
          (pw_or1 (pt_cmpR (op_neD hr.units) (pv 4) (pv 8) (nomark _)))))) (pss_one (ps_ret pe_bl)) pss_nil)
      (pss_one (ps_ret (pe_callB (cr_all rfl) (by rfl) B.all boot_all (pa_cons (pe_lc (own := [("_law_k", 12)]) (g := gName 12) (tt := tYes) rfl scTT.nd
        (pi_range1 rfl B.rng (pa_cons (pe_callB call_len_seq (by rfl) B.len PySem.boot_len (pa_cons (pv 4) pa_nil)) pa_nil)) (blkOk_by (N := nTT) (sc := defScope sTT) (by decide +kernel)) (fun _ _ _ _ _ => pg_name (i := 12) scTT.nd rfl (Or.inl rfl)) (fun _ _ _ _ _ => pts_nil)
        (fun _ _ _ _ _ => pe_cmpR op_gt (pe_ix (ixl_at K rfl) (pv 1) (pe_ix (ixl_at K rfl) (pv 4) (pv 12) (fun _ _ => rfl)) (fun _ _ => rfl)) (pv 12) (nomark _))) pa_nil))))))))))), ?_⟩
    have e1 : (ds.map V.int).length = ds.length := List.length_map _
    refine ⟨_, rfl, q, _, rfl, .inl hD, _, _, rfl, rfl, _, rfl, (by simp only [List.length_map]; omega), (by simp only [List.length_map]; omega), fun D1 hD1 => ?_⟩
    refine lc_it walk_range (PvA H D1 fun i => (bitsTo (ds.length + 1) fun t => decide ((((early ds ns (t : Nat)).map V.int).length : Int) ≤ (t : Nat))).take i) (PvA.zero hD1 rfl) (fun _ _ _ _ => trivial) (fun i x H1 H2 hi v y => ?_) (fun H1 v => ?_)
    · obtain ⟨rfl, hx⟩ := y
      have hx : x = V.int (i : Nat) := hx.trans (congrArg V.int (Int.zero_add _))
      subst hx
      have hi : i < ds.length + 1 := by simp only [List.length_map] at hi; omega
      refine ⟨rfl, _, rfl, p, _, rfl, Same.sq v.1 hS, fun J hJ D2 hD2 => lc_it (walk_seq hJ) (PvA H2 D2 fun j => ((ns.take j).filter fun x => decide (ds.getD x.toNat 0 ≤ ((i : Nat) : Int))).map V.int) (PvA.zero hD2 rfl) (fun _ _ _ u => SeqJ.same hJ u.1) (fun j x H3 H4 hj u y => ?_) (fun H3 u => ?_)⟩
      · obtain ⟨rfl, hx⟩ := y
        have hj' : j < ns.length := by rw [List.length_map] at hj; exact hj
        have hx := getD_map hx
        subst hx
        have hg := getD_some hj'
        refine ⟨rfl, _, rfl, _, rfl, q, _, _, _, rfl, rfl, u.1.seq (v.1.seq hD), day_at hv hg, _, rfl, _, _, rfl, rfl, _, rfl, ?_⟩
        by_cases hle : ds.getD (ns.getD j 0).toNat 0 ≤ ((i : Nat) : Int)
        · rw [decide_eq_true hle]
          refine iteT ⟨_, rfl, u.next hD2 (Same.refl _) (by rw [filter_yes hg (decide_eq_true hle), List.map_append]; rfl) ?_⟩
          rw [List.length_map]
          have := List.length_filter_le (fun x => decide (ds.getD x.toNat 0 ≤ ((i : Nat) : Int))) (ns.take j)
          rw [List.length_take] at this
          omega
        · rw [decide_eq_false hle]
          exact iteF (u.skip (Same.refl _) (by rw [filter_no hg (decide_eq_false hle)]))
      have u2 : H3 D2 = some (.lst ((early ds ns (i : Nat)).map V.int)) := by
        have z := u.2
        dsimp only at z
        rw [List.length_map, List.take_length] at z
        exact z
      exact ⟨D2, _, rfl, .inl (SqL.of u2), _, rfl, _, _, rfl, rfl, v.next hD1 u.1 (bitsTo_next hi) (by rw [List.length_take]; omega)⟩
    have v2 := v.2
    dsimp only at v2
    rw [bitsTo_all (by simp only [List.length_map]; omega)] at v2
    refine ⟨D1, _, rfl, SqL.of v2, ?_⟩
    have hfr := freeAll ln
    generalize ((List.range (ds.length + 1)).map fun t => decide ((((early ds ns (t : Nat)).map V.int).length : Int) ≤ (t : Nat))).all id = fr at hfr ⊢
    refine ⟨_, rfl, _, rfl, p, _, rfl, Same.sq v.1 hS, fun l hl => ?_⟩
    have sl : Same H (upd H1 l (.lst (ns.map V.int))) := Same.new v.1 hl
    refine ⟨a, l, ds, ns, rfl, hA.same sl, ld, .inl (SqL.of upd_same), by omega, fun i hi hb => (hv i hi hb).elim, fun _ hne H2 d q2 sm hq2 hd => ?_, fun _ hfull H2 q2 L sm perm pw hq2 => ?_⟩
    · have hf : fr = false := by
        cases fr with
        | true => exact (hne (hfr.mp rfl)).elim
        | false => rfl
      subst hf
      refine ⟨true, TN.te, fun _ a0 ha0 => ?_, fun z => Bool.noConfusion z⟩
      have sm2 : Same H2 (upd H2 d (.xd [("things", .ref q2)])) := Same.new (Same.refl H2) hd
      refine ⟨_, rfl, rfl, rfl, d, _, _, rfl, upd_same, lookEq, ?_⟩
      refine ⟨_, rfl, rfl, .ref CP, .ref CP, true, rfl, .own CP, (fun d' hd' => by cases hd'; exact ⟨_, upd_same⟩), kit_sub NP.k s1 s5, true, rfl, iteT ?_⟩
      refine ⟨_, rfl, (by show 3 ≤ sizeLine; decide), fun tp htp => ?_⟩
      have hdt : d ≠ tp := ne_of_none upd_same htp
      refine ⟨rfl, tp, _, [.ref CE, .ref CS, .ref CL], false, rfl, upd_same, .cons (.own CE) (.cons (.own CS) (.cons (.own CL) .nil)), (fun d' hd' => by cases hd'; exact ⟨_, (upd_ne hdt).trans upd_same⟩), ?_, false, rfl, ?_⟩
      · unfold PySem.W.kitAny
        rw [kit_sub NE.k s2 s5]
        dsimp only
        unfold PySem.W.kitAny
        rw [kit_sub NS.k s3 s5]
        dsimp only
        unfold PySem.W.kitAny
        rw [kit_sub NL.k s4 s5]
        rfl
      have sm3 : Same H (upd (upd H2 d (.xd [("things", .ref q2)])) tp (.tup [.ref CE, .ref CS, .ref CL])) := (sl.trans (sm.trans sm2)).trans (Same.new (Same.refl _) htp)
      have sm4 : Same H2 (upd (upd H2 d (.xd [("things", .ref q2)])) tp (.tup [.ref CE, .ref CS, .ref CL])) := sm2.trans (Same.new (Same.refl _) htp)
      refine ⟨_, rfl, _, rfl, iteT ?_⟩
      refine ⟨_, rfl, true, rfl, iteT ?_⟩
      refine ⟨_, rfl, rfl, true, rfl, iteT ?_⟩
      refine ⟨_, rfl, _, rfl, ?_⟩
      rcases Same.sq sm3 hS with z | z
      · refine .inl ⟨p, _, rfl, z, fun c hc => ⟨_, _, .tup (Same.seqT (Same.new (Same.refl _) hc) (Same.seqT sm4 hq2)) (dpInts ns), .tup (SqT.of upd_same) (dpInts ns), shT ns, shT ns, ?_⟩⟩
        rw [eqSelf (shT ns)]
        exact kQ _ (sm3.trans (Same.new (Same.refl _) hc))
      · refine .inr ⟨p, _, rfl, z, _, _, .tup (Same.seqT sm4 hq2) (dpInts ns), .tup z (dpInts ns), shT ns, shT ns, ?_⟩
        rw [eqSelf (shT ns)]
        exact kQ _ sm3
    · have hf : fr = true := hfr.mpr hfull
      subst hf
      have s02 : Same H H2 := sl.trans sm
      refine ⟨_, rfl, _, rfl, iteF ?_⟩
      refine ⟨_, rfl, p, _, rfl, Same.sq s02 hS, fun J hJ D2 hD2 => lc_it (walk_seq hJ) (PvP H2 D2 (pairsOf ds ns)) (PvP.zero hD2) (fun _ _ _ u => SeqJ.same hJ u.1) (fun j x H3 H4 hj u y => ?_) (fun H3 u => ?_)⟩
      · obtain ⟨rfl, hx⟩ := y
        have hj' : j < ns.length := by rw [List.length_map] at hj; exact hj
        have hx := getD_map hx
        subst hx
        have hg := getD_some hj'
        refine ⟨rfl, _, rfl, _, rfl, q, _, _, _, rfl, rfl, u.1.seq (s02.seq hD), day_at hv hg, _, rfl, (by show 2 ≤ sizeLine; decide), fun t ht => ?_⟩
        refine PvP.next (z := (ds.getD (ns.getD j 0).toNat 0, ns.getD j 0)) hD2 u ?_ (by omega) ht
        unfold pairsOf
        rw [List.getElem?_map, hg]
        rfl
      have elen : (ns.map V.int).length = (pairsOf ds ns).length := by unfold pairsOf; rw [List.length_map, List.length_map]
      rw [elen] at u
      obtain ⟨vs, v3, hks, hmap⟩ := PvP.keys u
      refine ⟨D2, vs, pairAt H3, rfl, SqL.of v3, hks, fun ys S hsr hst hSn => ⟨S, rfl, ⟨_, SqL.of upd_same⟩, fun D3 hD3 => lc_it walk_list (PvA (upd H3 S (.lst ys)) D3 fun i => (ys.map fun v => V.int (pairAt H3 v).2).take i) (PvA.zero hD3 rfl) (fun i H' _ u => u.1.seq (SqL.of upd_same)) (fun i x H4 H5 hi u y => ?_) (fun H4 u2 => ?_)⟩⟩
      · obtain ⟨rfl, hx⟩ := y
        obtain ⟨t', rfl, ht⟩ := hks x (hst.perm.mem_iff.mp (List.mem_of_getElem? hx))
        have ht4 : H5 t' = some (.tup [.int (pairAt H3 (.ref t')).1, .int (pairAt H3 (.ref t')).2]) := u.1 _ _ (by rw [upd_ne (ne_of_none ht hSn)]; exact ht)
        refine ⟨rfl, _, rfl, t', _, _, _, rfl, rfl, SqT.of ht4, rfl, ?_⟩
        exact u.next hD3 (Same.refl _) (takeMap _ ys i hx) (by
          rw [List.length_take]
          have := hst.perm.length_eq
          have z : vs.length = ns.length := by
            have := congrArg List.length hmap
            rw [List.length_map, ← elen, List.length_map] at this
            exact this
          omega)
      have s24 : Same H2 H4 := u.1.trans ((Same.new (Same.refl H3) hSn).trans u2.1)
      have s04 : Same H H4 := s02.trans s24
      have hdue := u2.2
      dsimp only at hdue
      rw [takeAll] at hdue
      have esame : ys.map (pairAt H3) = L := lex_same ((hst.perm.map _).trans (by rw [hmap]; exact perm.symm)) (srt_lex hsr) pw
      have hdue2 : H4 D3 = some (.lst ((L.map fun z => z.2).map V.int)) := by
        rw [hdue, ← esame, List.map_map, List.map_map]
        rfl
      have hq4 : H4 q2 = some (.lst ((L.map fun z => z.2).map V.int)) := by
        rw [s24 _ _ hq2, List.map_map]
        rfl
      refine ⟨_, rfl, rfl, _, rfl, iteF ?_⟩
      refine ⟨_, rfl, .ref q2, .ty "list", .type "list", .type "list", true, rfl, .ty "list", .base (.lst hq4), kit_ty (by decide +kernel), _, rfl, iteF ?_⟩
      refine ⟨_, rfl, _, rfl, _, _, .lst (SqL.of hq4) (dpInts _), .lst (SqL.of hdue2) (dpInts _), shL _, shL _, _, rfl, ?_⟩
      rw [eqSelf (shL _)]
      refine iteF ?_
      have hLlen : L.length = ns.length := by
        have := perm.length_eq
        unfold pairsOf at this
        rw [List.length_map] at this
        exact this
      have hgre : greedy (L.map fun z => z.1) = ns.length := by
        rw [workRank_of (l := daysOf ds ns) ?_ ?_]
        · exact hfull
        · have := perm.map (fun z => z.1)
          unfold pairsOf at this
          rw [List.map_map] at this
          exact this
        · rw [List.pairwise_map]
          refine List.Pairwise.imp (fun {x y} h => ?_) pw
          unfold lexLe at h
          omega
      have hlate := greedy_full (L.map fun z => z.1) (by rw [hgre, List.length_map, hLlen])
      have hL : ∀ (k : Nat) z, L[k]? = some z → z.1 = ds.getD z.2.toNat 0 ∧ 0 ≤ z.2 ∧ z.2 < ds.length := fun k z hz => by
        have hm := perm.mem_iff.mp (List.mem_of_getElem? hz)
        unfold pairsOf at hm
        obtain ⟨x, hx, rfl⟩ := List.mem_map.mp hm
        obtain ⟨i, hi⟩ := List.getElem?_of_mem hx
        exact ⟨rfl, valid_at hv i x hi⟩
      refine ⟨_, rfl, q2, _, rfl, .inl (SqL.of hq4), _, rfl, (by simp only [List.length_map]; omega), (by simp only [List.length_map]; omega), fun D4 hD4 => ?_⟩
      refine lc_it walk_range (PvA H4 D4 fun i => List.replicate i (V.bl true)) (PvA.zero hD4 rfl) (fun _ _ _ _ => trivial) (fun i x H5 H6 hi u y => ?_) (fun H5 u => ?_)
      · obtain ⟨rfl, hx⟩ := y
        have hx : x = V.int (i : Nat) := hx.trans (congrArg V.int (Int.zero_add _))
        subst hx
        have hi : i < L.length := by simp only [List.length_map] at hi; omega
        have hz : L[i]? = some L[i] := List.getElem?_eq_getElem hi
        obtain ⟨z1, z2, z3⟩ := hL i _ hz
        have zk := hlate i L[i].1 (by rw [List.getElem?_map, hz]; rfl)
        have a1 : atI ((L.map fun z => z.2).map V.int) ((i : Nat) : Int) = some (.int L[i].2) := atI_nat (by rw [List.getElem?_map, List.getElem?_map, hz]; rfl)
        have a2 : atI (ds.map V.int) L[i].2 = some (.int (ds.getD L[i].2.toNat 0)) := by
          obtain ⟨k, hk⟩ : ∃ k : Nat, L[i].2 = (k : Nat) := ⟨L[i].2.toNat, by rw [Int.toNat_of_nonneg z2]⟩
          rw [hk] at z3 ⊢
          rw [Int.toNat_natCast]
          exact atI_nat (map_at (by omega))
        have s6 : Same H H6 := s04.trans u.1
        refine ⟨rfl, _, rfl, _, rfl, _, rfl, q2, _, _, _, rfl, rfl, u.1.seq (SqL.of hq4), a1, q, _, _, _, rfl, rfl, s6.seq hD, a2, _, rfl, _, _, rfl, rfl, ?_⟩
        have e : decide (((i : Nat) : Int) < ds.getD L[i].2.toNat 0) = true := decide_eq_true (by omega)
        dsimp only
        rw [e]
        exact u.next hD4 (Same.refl _) List.replicate_succ' (by rw [List.length_replicate]; omega)
      · refine ⟨D4, List.replicate _ true, rfl, SqL.of (u.2.trans (by rw [List.map_replicate])), ?_⟩
        rw [show (List.replicate _ true).all id = true by simp]
        exact kQ _ (s04.trans u.1)
end
end K03
namespace Sup
open PySem PySem.Spec PyProof.Rows L2
theorem isi_at {X : Cx} (K : PySem.W.Frag) (h : X.K = K) : CallR X (.builtin "isinstance") (rIsi K) := by
  subst h
  exact call_isi
theorem sll_at {X : Cx} (K : PySem.W.Frag) (h : X.K = K) : SlR X (rSlL K) := by
  subst h
  exact sl_list
end Sup
namespace K03
open PySem PySem.Spec PyProof.Rows L2 Sup
open PySem.W (Frag)
/-! ### sums over classes -/
theorem count_split (x : Int) (m : Nat) : ∀ l : List Int, ((l.countP fun y => decide (0 ≤ y ∧ y < ((m + 1 : Nat) : Int)) : Nat) : Int) = ((l.countP fun y => decide (0 ≤ y ∧ y < (m : Int)) : Nat) : Int) + ((l.count (m : Int) : Nat) : Int)
  | [] => rfl
  | y :: l => by
    have ih := count_split x m l
    rw [List.countP_cons, List.countP_cons, List.count_cons]
    by_cases h1 : 0 ≤ y ∧ y < (m : Int)
    · have h2 : 0 ≤ y ∧ y < ((m + 1 : Nat) : Int) := by omega
      have h3 : (y == (m : Int)) = false := by simp; omega
      rw [decide_eq_true h1, decide_eq_true h2, h3]
      simp only [if_true, Bool.false_eq_true, if_false]
      omega
    · by_cases h4 : y = (m : Int)
      · have h2 : 0 ≤ y ∧ y < ((m + 1 : Nat) : Int) := by omega
        have h3 : (y == (m : Int)) = true := by simp [h4]
        rw [decide_eq_false h1, decide_eq_true h2, h3]
        simp only [if_true, Bool.false_eq_true, if_false]
        omega
      · have h2 : ¬ (0 ≤ y ∧ y < ((m + 1 : Nat) : Int)) := by omega
        have h3 : (y == (m : Int)) = false := by simp [h4]
        rw [decide_eq_false h1, decide_eq_false h2, h3]
        simp only [Bool.false_eq_true, if_false]
        omega
theorem count_sum (l : List Int) : ∀ m : Nat, ((List.range m).map fun j => ((l.count ((j : Nat) : Int) : Nat) : Int)).sum = ((l.countP fun y => decide (0 ≤ y ∧ y < (m : Int)) : Nat) : Int)
  | 0 => by
    have : (l.countP fun y => decide (0 ≤ y ∧ y < ((0 : Nat) : Int))) = 0 := List.countP_eq_zero.mpr fun y _ => by simp <;> omega
    rw [this]
    rfl
  | m + 1 => by
    rw [List.range_succ, List.map_append, List.sum_append, count_sum l m, count_split 0 m l]
    simp
theorem sum_min (f g : Nat → Int) : ∀ m : Nat, ((List.range m).map fun j => min (f j) (g j)).sum ≤ ((List.range m).map g).sum ∧ (((List.range m).map fun j => min (f j) (g j)).sum = ((List.range m).map g).sum ↔ ∀ j, j < m → g j ≤ f j)
  | 0 => ⟨Int.le_refl _, fun _ j h => absurd h (Nat.not_lt_zero j), fun _ => rfl⟩
  | m + 1 => by
    obtain ⟨h1, h2⟩ := sum_min f g m
    have e1 : ((List.range (m + 1)).map fun j => min (f j) (g j)).sum = ((List.range m).map fun j => min (f j) (g j)).sum + min (f m) (g m) := by
      rw [List.range_succ, List.map_append, List.sum_append]
      simp
    have e2 : ((List.range (m + 1)).map g).sum = ((List.range m).map g).sum + g m := by
      rw [List.range_succ, List.map_append, List.sum_append]
      simp
    rw [e1, e2]
    refine ⟨by omega, fun h j hj => ?_, fun h => ?_⟩
    · rcases Nat.lt_or_ge j m with z | z
      · exact (h2.mp (by omega)) j z
      · have : j = m := by omega
        subst this
        omega
    · have a := h2.mpr fun j hj => h j (by omega)
      have b := h m (by omega)
      omega
/-- the things of the set that are in class c -/
def inCls (cs ns : List Int) (c : Int) : List Int := ns.filter fun x => decide (cs.getD x.toNat 0 = c)
theorem inCls_len (cs ns : List Int) (c : Int) : (inCls cs ns c).length = (ns.map fun x => cs.getD x.toNat 0).count c := by
  unfold inCls
  rw [List.count_eq_countP, List.countP_map, List.countP_eq_length_filter]
  congr 1
def cntsOf (cs ns : List Int) (m : Nat) : List Int := (List.range m).map fun j => ((((inCls cs ns ((j : Nat) : Int)).map V.int).length : Nat) : Int)
theorem teamFull {cs ps ns : List Int} (hc : ∀ (i : Nat) x, ns[i]? = some x → 0 ≤ cs.getD x.toNat 0 ∧ cs.getD x.toNat 0 < ps.length) :
    teamRank cs ps ns = ns.length ↔ ∀ j, j < ps.length → ((((inCls cs ns ((j : Nat) : Int)).map V.int).length : Nat) : Int) ≤ ps.getD j 0 := by
  have h1 := count_sum (ns.map fun x => cs.getD x.toNat 0) ps.length
  have h2 : ((ns.map fun x => cs.getD x.toNat 0).countP fun y => decide (0 ≤ y ∧ y < (ps.length : Int))) = ns.length := by
    have z := List.countP_eq_length (l := ns.map fun x => cs.getD x.toNat 0) (p := fun y => decide (0 ≤ y ∧ y < (ps.length : Int)))
    rw [List.length_map] at z
    refine z.mpr fun y hy => decide_eq_true ?_
    obtain ⟨x, hx, rfl⟩ := List.mem_map.mp hy
    obtain ⟨i, hi⟩ := List.getElem?_of_mem hx
    exact hc i x hi
  rw [h2] at h1
  obtain ⟨_, h3⟩ := sum_min (fun j => ps.getD j 0) (fun j => (((ns.map fun x => cs.getD x.toNat 0).count ((j : Nat) : Int) : Nat) : Int)) ps.length
  rw [h1] at h3
  unfold teamRank
  rw [h3]
  constructor
  · intro h j hj
    rw [List.length_map, inCls_len]
    exact h j hj
  · intro h j hj
    have := h j hj
    rw [List.length_map, inCls_len] at this
    exact this
/-! ### slices at a place -/
theorem cut_lo {xs : List V} (k : Nat) : cutV xs none (some (k : Int)) = xs.take k := by
  unfold cutV
  rw [HT.sIx_nat, HT.sIx_none, List.drop_zero, Nat.sub_zero]
  rcases Nat.le_total k xs.length with h | h
  · rw [Nat.min_eq_left h]
  · rw [Nat.min_eq_right h, List.take_of_length_le h, List.take_length]
theorem cut_hi {xs : List V} (k : Nat) : cutV xs (some (k : Int)) none = xs.drop k := by
  unfold cutV
  rw [HT.sIx_nat, HT.sIx_none]
  rcases Nat.le_total k xs.length with h | h
  · rw [Nat.min_eq_left h]
    exact List.take_of_length_le (by rw [List.length_drop]; omega)
  · rw [Nat.min_eq_right h, List.drop_length, List.drop_of_length_le h]
    simp
/-! ### the first False -/
theorem allT_of {α : Type} {g : α → Bool} {l : List α} (h : ∀ x ∈ l, g x = true) : AllT (l.map g) := fun j hj => by
  rw [List.length_map] at hj
  rw [List.getElem?_map, List.getElem?_eq_getElem hj]
  exact congrArg some (h _ (List.getElem_mem hj))
theorem firstF_no {bs : List Bool} (h : AllT bs) {i : Nat} (f : FirstF bs i) : False := by
  have hi := (List.getElem?_eq_some_iff.mp f.1).1
  have := h i hi
  rw [f.1] at this
  cases this
theorem firstF_at {bs : List Bool} {k i : Nat} (h : ∀ j, j < k → bs[j]? = some true) (hk : bs[k]? = some false) (f : FirstF bs i) : i = k := by
  rcases Nat.lt_trichotomy i k with z | z | z
  · have := h i z
    rw [f.1] at this
    cases this
  · exact z
  · have := f.2 k z
    rw [hk] at this
    cases this
theorem allT_at {bs : List Bool} {k : Nat} (hk : bs[k]? = some false) (f : AllT bs) : False := by
  have hi := (List.getElem?_eq_some_iff.mp hk).1
  have := f k hi
  rw [hk] at this
  cases this
/-- xs with x put in (or in the place of another) at k -/
theorem put_at {g : V → Bool} {xs ys : List V} {x : V} {k : Nat} (hk : k ≤ xs.length) (h : ∀ y ∈ xs, g y = true) (hx : g x = false) : (∀ j, j < k → ((xs.take k ++ [x] ++ ys).map g)[j]? = some true) ∧ ((xs.take k ++ [x] ++ ys).map g)[k]? = some false := by
  have e : (xs.take k).length = k := by rw [List.length_take]; omega
  refine ⟨fun j hj => ?_, ?_⟩
  · rw [List.getElem?_map, List.append_assoc, List.getElem?_append_left (by omega), List.getElem?_take_of_lt hj, List.getElem?_eq_getElem (by omega)]
    exact congrArg some (h _ (List.getElem_mem _))
  · rw [List.getElem?_map, List.append_assoc, List.getElem?_append_right (by omega), e, Nat.sub_self]
    exact congrArg some hx
/-- what is wrong is told at its place -/
theorem teams_wrong {cs ps : List Int} {at_ b way : Nat} {wv lv : V} (hc : ∀ x ∈ cs, 0 ≤ x ∧ x < (ps.length : Int)) (hp : ∀ x ∈ ps, 0 ≤ x) (h0 : ps.length = 0 → cs.length = 0) (ha : at_ ≤ cs.length) (hb : b < max 1 ps.length) (hw : belowV wv ps.length = false) (hl : cntV lv = false) {sp pl : List V}
    (esp : sp = if way = 0 then (cs.map V.int).take at_ ++ [wv] ++ (cs.map V.int).drop at_ else cs.map V.int) (epl : pl = (ps.map V.int).take b ++ [lv] ++ (ps.map V.int).drop (b + 1)) :
    (∀ i, FirstF (sp.map fun c => belowV c pl.length) i → i = if way = 0 then at_ else b) ∧ (AllT (sp.map fun c => belowV c pl.length) → (∀ i, FirstF (pl.map cntV) i → i = if way = 0 then at_ else b) ∧ ¬ AllT (pl.map cntV)) := by
  have hpl : ∀ y ∈ ps.map V.int, cntV y = true := fun y hy => by
    obtain ⟨x, hx, rfl⟩ := List.mem_map.mp hy
    exact decide_eq_true (hp x hx)
  have hbl : b ≤ (ps.map V.int).length := by rw [List.length_map]; omega
  obtain ⟨q1, q2⟩ := put_at (g := cntV) (ys := (ps.map V.int).drop (b + 1)) hbl hpl hl
  rw [← epl] at q1 q2
  have elen : pl.length = max 1 ps.length := by
    rw [epl]
    simp only [List.length_append, List.length_take, List.length_drop, List.length_map, List.length_cons, List.length_nil]
    omega
  have hcl : ∀ m : Nat, ps.length ≤ m → ∀ y ∈ cs.map V.int, belowV y (m : Nat) = true := fun m hm y hy => by
    obtain ⟨x, hx, rfl⟩ := List.mem_map.mp hy
    obtain ⟨z1, z2⟩ := hc x hx
    unfold belowV
    show (decide (0 ≤ x) && decide (x < (m : Int))) = true
    rw [decide_eq_true z1, decide_eq_true (by omega)]
    rfl
  by_cases hz : ps.length = 0
  · have hn := h0 hz
    have ea : at_ = 0 := by omega
    have eb : b = 0 := by omega
    have e0 : (if way = 0 then at_ else b) = 0 := by split <;> omega
    rw [e0]
    have ecs : cs = [] := List.length_eq_zero_iff.mp hn
    subst ecs
    have hsl : sp.length ≤ 1 := by
      rw [esp]
      split
      · simp
      · simp
    refine ⟨fun i f => ?_, fun _ => ⟨fun i f => ?_, fun f => allT_at q2 f⟩⟩
    · have := (List.getElem?_eq_some_iff.mp f.1).1
      rw [List.length_map] at this
      omega
    · have := firstF_at q1 q2 f
      omega
  · have em : pl.length = ps.length := by omega
    rw [em]
    by_cases hw0 : way = 0
    · rw [if_pos hw0] at esp ⊢
      obtain ⟨r1, r2⟩ := put_at (g := fun c => belowV c ps.length) (ys := (cs.map V.int).drop at_) (by rw [List.length_map]; exact ha) (hcl _ (Nat.le_refl _)) hw
      rw [← esp] at r1 r2
      exact ⟨fun i f => firstF_at r1 r2 f, fun f => (allT_at r2 f).elim⟩
    · rw [if_neg hw0] at esp ⊢
      subst esp
      exact ⟨fun i f => (firstF_no (allT_of (hcl _ (Nat.le_refl _))) f).elim, fun _ => ⟨fun i f => firstF_at q1 q2 f, fun f => allT_at q2 f⟩⟩
/-! ### lists of drawn numbers -/
theorem pool_some {H : Hp} {p D : Addr} (h : PoolAt H p) (hD : H D = none) : D ≠ p := fun e => by
  obtain ⟨A, ms, i, s, z, h1, _⟩ := h
  rw [e, h1] at hD
  cases hD
theorem pool_ints {H : Hp} {p a : Addr} {xs : List Int} (h : PoolAt H p) (ha : H a = some (.lst (xs.map V.int))) : a ≠ p := fun e => by
  obtain ⟨A, ms, i, s, z, h1, _⟩ := h
  rw [e, h1] at ha
  cases xs with
  | nil => cases ha
  | cons x xs => cases ha
/-- behind i turns: the pool went on, the new list at D holds i numbers -/
def PvD (p : Addr) (H1 : Hp) (D : Addr) (ok : Int → Prop) (i : Nat) (H : Hp) : Prop := SameBut p H1 H ∧ PoolAt H p ∧ ∃ xs : List Int, xs.length = i ∧ (∀ x ∈ xs, ok x) ∧ H D = some (.lst (xs.map V.int))
theorem PvD.zero {p D : Addr} {H1 : Hp} {ok : Int → Prop} (hD : H1 D = none) (h : PoolAt H1 p) : PvD p H1 D ok 0 (upd H1 D (.lst [])) :=
  ⟨SameBut.of (Same.new (Same.refl H1) hD), h.same (Same.new (Same.refl H1) hD), [], rfl, fun x hx => absurd hx (by simp), upd_same⟩
theorem PvD.next {p D : Addr} {H1 H H4 : Hp} {ok : Int → Prop} {i : Nat} {y : V} {x : Int} (hD : H1 D = none) (hp : PoolAt H1 p) (v : PvD p H1 D ok i H) (e : SameBut p H H4) (hp4 : PoolAt H4 p) (hy : y = .int x) (hx : ok x) (hi : i ≤ 1000) :
    ∃ acc, H4 D = some (.lst acc) ∧ acc.length < sizeLine ∧ PvD p H1 D ok (i + 1) (upd H4 D (.lst (acc ++ [y]))) := by
  subst hy
  obtain ⟨v1, v2, xs, v3, v4, v5⟩ := v
  have hDp := pool_some hp hD
  have h4 := e _ _ hDp v5
  refine ⟨_, h4, small1000 (by rw [List.length_map]; omega), fun b o hb h => ?_, ?_, xs ++ [x], by rw [List.length_append, v3]; rfl, fun z hz => ?_, ?_⟩
  · rw [upd_ne (ne_of_none h hD)]
    exact e b o hb (v1 b o hb h)
  · obtain ⟨A, ms, i, s, z, h1, h2, h3⟩ := hp4
    by_cases hA : A = D
    · exact ⟨A, xs ++ [x], i, s, z, by rw [upd_ne (Ne.symm hDp)]; exact h1, by rw [hA, List.map_append]; exact upd_same, h3⟩
    · exact ⟨A, ms, i, s, z, by rw [upd_ne (Ne.symm hDp)]; exact h1, by rw [upd_ne hA]; exact h2, h3⟩
  · rcases List.mem_append.mp hz with q | q
    · exact v4 z q
    · have : z = x := by simpa using q
      rw [this]
      exact hx
  · rw [List.map_append]
    exact upd_same
theorem fitsN {n : Nat} (h : n ≤ 1000) : n ≤ sizeLine := by
  rw [sizeLine_eq]
  omega
/-- two ways that go on alike -/
theorem join1 {α : Type} {G : α → Prop} {ok : α → Prop} {T : Prop} (h1 : (∀ z, ok z → G z) → T) (h2 : ∀ z, ok z → G z) : T := h1 h2
theorem join2 {α β : Type} {G : α → β → Prop} {ok : α → β → Prop} {T : Prop} (h1 : (∀ a b, ok a b → G a b) → T) (h2 : ∀ a b, ok a b → G a b) : T := h1 h2
/-- what teams_hold keeps from its drawn lists on -/
structure TAt (H : Hp) (p S Pl Cl : Addr) (n : Nat) (ns cs ps : List Int) : Prop where
  L : LawAt H p S n ns
  pl : H Pl = some (.lst (ps.map V.int))
  cl : H Cl = some (.lst (cs.map V.int))
  cn : cs.length = n
  pm : ps.length ≤ 4
  cin : ∀ x ∈ cs, 0 ≤ x ∧ x < (ps.length : Int)
  pin : ∀ x ∈ ps, 0 ≤ x
  z : ps.length = 0 → n = 0
theorem TAt.same {H H' : Hp} {p S Pl Cl : Addr} {n : Nat} {ns cs ps : List Int} (e : Same H H') (h : TAt H p S Pl Cl n ns cs ps) : TAt H' p S Pl Cl n ns cs ps := ⟨h.L.same e, e _ _ h.pl, e _ _ h.cl, h.cn, h.pm, h.cin, h.pin, h.z⟩
theorem TAt.draw {H H' : Hp} {p S Pl Cl : Addr} {n : Nat} {ns cs ps : List Int} (h : TAt H p S Pl Cl n ns cs ps) (e : SameBut p H H') (hp : PoolAt H' p) : TAt H' p S Pl Cl n ns cs ps :=
  ⟨h.L.draw e hp, e _ _ (pool_ints h.L.pool h.pl) h.pl, e _ _ (pool_ints h.L.pool h.cl) h.cl, h.cn, h.pm, h.cin, h.pin, h.z⟩
theorem sc_ints {ns : List Int} : ∀ x ∈ ns.map V.int, Sc x := fun x hx => by
  obtain ⟨i, _, rfl⟩ := List.mem_map.mp hx
  trivial
theorem below_ints {cs : List Int} {m : Int} (h : ∀ x ∈ cs, 0 ≤ x ∧ x < m) : ∀ y ∈ cs.map V.int, belowV y m = true := fun y hy => by
  obtain ⟨x, hx, rfl⟩ := List.mem_map.mp hy
  obtain ⟨z1, z2⟩ := h x hx
  show (decide (0 ≤ x) && decide (x < m)) = true
  rw [decide_eq_true z1, decide_eq_true z2]
  rfl
theorem cnt_ints {ps : List Int} (h : ∀ x ∈ ps, 0 ≤ x) : ∀ y ∈ ps.map V.int, cntV y = true := fun y hy => by
  obtain ⟨x, hx, rfl⟩ := List.mem_map.mp hy
  exact decide_eq_true (h x hx)
end K03
namespace K03
open PySem PySem.Spec PyProof.Rows L2 Sup
open PySem.W (Frag)
abbrev sTeamsHold : Stmt := top 27
abbrev scCounts : Scope := lcScope (asgVal (stAt sTeamsHold 10))
/-! ### _law_teams_hold -/
def nTe : List Str := ["_law_pool_here", "_law_size", "_law_some", "_law_count", "_law_places", "_law_classes", "_law_handed", "_law_given", "_law_made", "_law_counts", "_law_at", "_law_below", "_law_wrong", "_law_less", "_law_way", "_law_spoilt", "_law_told", "_law_base", "e", "_law_c", "_law_x"]
theorem scTeamsHold : FnScope ["_law_pool_here", "_law_size", "_law_some", "_law_count", "_law_places", "_law_classes", "_law_handed", "_law_given", "_law_made", "_law_counts", "_law_at", "_law_below", "_law_wrong", "_law_less", "_law_way", "_law_spoilt", "_law_told", "_law_base", "e", "_law_c", "_law_x"] ["_law_pool_here", "_law_size", "_law_some"] (defScope sTeamsHold) := ⟨rfl, rfl, rfl, by decide +kernel, rfl, by decide +kernel, by decide +kernel⟩
abbrev xTe (P : Program) (w : World) (K : Frag) (mg : Str → Option Value) (base : Heap) (f : Addr) (cdv : Value) (A : Around) (outer : List Env) (s : Shared) (H : Hp) (E : XK) : Cx :=
  (cxOf CX0 P w K mg base ["_law_pool_here", "_law_size", "_law_some", "_law_count", "_law_places", "_law_classes", "_law_handed", "_law_given", "_law_made", "_law_counts", "_law_at", "_law_below", "_law_wrong", "_law_less", "_law_way", "_law_spoilt", "_law_told", "_law_base", "e", "_law_c", "_law_x"] "_law_teams_hold" (defScope sTeamsHold) f cdv A outer s H E).nox
abbrev rTe (A : Around) (s : Shared) (f : Addr) (cdv : Value) : Prop := Room 6 (A.deeper (envOfC "_law_teams_hold" (defScope sTeamsHold) s.heap.objs.size f cdv))
abbrev endR (Q : VK) : Ends := { nx := fun _ H' => Q .non H', rt := Q }
section
variable {P : Program} {w : World} {K : Frag} {mg : Str → Option Value} {base : Heap} {f fD C fI fR fF CE fE CP : Addr} {fd fdD fdI fdR fdF : FuncData} {cdv : Value} {A : Around} {outer : List Env} {s : Shared} {H0 : Hp} {E : XK}
theorem te3 (hr : rTe A s f cdv) (M : ClT P w K mg base "Teams" C fI fdI ["self", "classes", "places"] (spTeamsInit K C CE)) (TE : ErrT K mg "BadEntry" "place" CE fE) (NP : ErrN K mg "PricesError" CP) (s1 : Sb K CE CP true) (s2 : Sb K CE CE true) (B : Bt mg) :
    ∃ t, PSs (xTe P w K mg base f cdv A outer s H0 E) ((defBody sTeamsHold).drop 20) t ∧ ∀ (p S D1 D2 a : Addr) (n at_ b way : Nat) (ns cs ps : List Int) (sp : List V) (wv lv : V) (c3 c6 c7 c8 c9 : Option V) (Q : VK) (H : Hp), TAt H p S D1 D2 n ns cs ps → H a = some (.lst sp) →
      sp = (if way = 0 then (cs.map V.int).take at_ ++ [wv] ++ (cs.map V.int).drop at_ else cs.map V.int) → at_ ≤ cs.length → b < max 1 ps.length → Sc wv → Sc lv → belowV wv ps.length = false → cntV lv = false → way < 2 → (∀ H', SameBut p H H' → PoolAt H' p → Q (.bl true) H') →
      t (endR Q) [some (.ref p), some (.int (n : Nat)), some (.ref S), c3, some (.ref D1), some (.ref D2), c6, c7, c8, c9, some (.int (at_ : Nat)), some (.int (b : Nat)), some wv, some lv, some (.int (way : Nat)), some (.ref a), none, none, none, none, none] H := by
  refine ⟨_, pss_cons (ps_set (i := 16) scTeamsHold.nd rfl (Or.inl rfl) pe_non)
      (pss_cons (ps_set (i := 17) scTeamsHold.nd rfl (Or.inl rfl) pe_bl)
      (pss_cons (ps_try_as (i := 18) (Wout := fun _ _ _ _ => False) rfl rfl scTeamsHold.nd rfl rfl ⟨rfl, by decide, Or.inl TE.gC⟩ takes0
        (fun W pn xe tk _ => pss_one (ps_expr (pe_makeS M.mkd M.ok hr rfl M.g M.b tk (pa_cons (pv 15) (pa_cons (pe_op op_cat (pe_op op_cat (pe_slice (sll_at K rfl) (pv 4) po_none (po_some (pv 11))) (pe_lst (pa_cons (pv 13) pa_nil))) (pe_slice (sll_at K rfl) (pv 4) (po_some (pe_op op_add (pv 11) pe_int)) po_none)) pa_nil)))))
        (fun a oe cls d pn hz hf => pss_cons (ps_set (i := 16) scTeamsHold.nd rfl (Or.inl rfl) (xf_at (K := K) rfl TE.xf TE.noF hz hf (pv 18)))
        (pss_one (ps_set (i := 17) scTeamsHold.nd rfl (Or.inl rfl) (pe_and (pe_callB (call_isErr (K := K) rfl TE.err hz hf) (by rfl) B.isi boot_isinstance (pa_cons (pv 18) (pa_cons (pe_glob (v := .ref CP) rfl NP.g rfl) pa_nil)))
        (pe_and (pe_callB (isi_at K rfl) (by rfl) B.isi boot_isinstance (pa_cons (xf_at (K := K) rfl TE.xf TE.noF hz hf (pv 18)) (pa_cons (pe_bltn (v := .ty "int") (by rfl) B.int boot_int rfl) pa_nil)))
        (pe_one (pe_not (pe_callB (isi_at K rfl) (by rfl) B.isi boot_isinstance (pa_cons (xf_at (K := K) rfl TE.xf TE.noF hz hf (pv 18)) (pa_cons (pe_bltn (v := .ty "bool") (by rfl) B.bool boot_bool rfl) pa_nil)))))))))))
      (pss_one (ps_ret (pe_and (pv 17) (pe_one (pe_cmpR op_eq (pv 16) (pe_ix ix_list (pe_lst (pa_cons (pv 10) (pa_cons (pv 11) pa_nil))) (pv 14) (fun _ _ => rfl)) (nomark _)))))))), ?_⟩
  intro p S D1 D2 a n at_ b way ns cs ps sp wv lv c3 c6 c7 c8 c9 Q H T ha esp hat hb hwv hlv hbw hcl hway kQ
  have hn16 := T.L.n16
  have hpm := T.pm
  have hcn := T.cn
  have esp' : sp.length ≤ 60 := by
    rw [esp]
    split
    · simp only [List.length_append, List.length_take, List.length_drop, List.length_map, List.length_cons, List.length_nil]
      omega
    · rw [List.length_map]
      omega
  have scsp : ∀ x ∈ sp, Sc x := fun x hx => by
    rw [esp] at hx
    split at hx
    · rcases List.mem_append.mp hx with hx | hx
      · rcases List.mem_append.mp hx with hx | hx
        · exact sc_ints x (List.mem_of_mem_take hx)
        · have : x = wv := by simpa using hx
          rw [this]
          exact hwv
      · exact sc_ints x (List.mem_of_mem_drop hx)
    · exact sc_ints x hx
  have cl1 := cutV_length (ps.map V.int) none (some ((b : Nat) : Int))
  have cl2 := cutV_length (ps.map V.int) (some (((b : Nat) : Int) + 1)) none
  rw [List.length_map] at cl1 cl2
  refine ⟨_, rfl, _, rfl, _, rfl, _, rfl, D1, _, rfl, SqL.of T.pl, fun a1 ha1 => ?_⟩
  have e1 := Same.new (o := .lst (cutV (ps.map V.int) none (some ((b : Nat) : Int)))) (Same.refl _) ha1
  refine ⟨_, rfl, (by show 1 ≤ sizeLine; decide), fun a2 ha2 => ?_⟩
  have e2 := Same.new (o := .lst [lv]) (Same.refl _) ha2
  refine ⟨a1, a2, _, _, rfl, rfl, e2 _ _ upd_same, upd_same, fitsN (by simp only [List.length_cons, List.length_nil]; omega), fun a3 ha3 => ?_⟩
  have e3 := Same.new (o := .lst (cutV (ps.map V.int) none (some ((b : Nat) : Int)) ++ [lv])) (Same.refl _) ha3
  refine ⟨_, rfl, _, rfl, _, _, rfl, rfl, _, rfl, D1, _, rfl, SqL.of (e3 _ _ (e2 _ _ (e1 _ _ T.pl))), fun a4 ha4 => ?_⟩
  have e4 := Same.new (o := .lst (cutV (ps.map V.int) (some (((b : Nat) : Int) + 1)) none)) (Same.refl _) ha4
  refine ⟨a3, a4, _, _, rfl, rfl, e4 _ _ upd_same, upd_same, fitsN (by simp only [List.length_append, List.length_cons, List.length_nil]; omega), fun a5 ha5 => ?_⟩
  have e5 := Same.new (o := .lst (cutV (ps.map V.int) none (some ((b : Nat) : Int)) ++ [lv] ++ cutV (ps.map V.int) (some (((b : Nat) : Int) + 1)) none)) (Same.refl _) ha5
  have sAll := ((e1.trans e2).trans e3).trans (e4.trans e5)
  obtain ⟨pl, epl⟩ : ∃ pl, pl = cutV (ps.map V.int) none (some ((b : Nat) : Int)) ++ [lv] ++ cutV (ps.map V.int) (some (((b : Nat) : Int) + 1)) none := ⟨_, rfl⟩
  have hpl := upd_same (H := upd (upd (upd (upd H a1 (.lst (cutV (ps.map V.int) none (some ((b : Nat) : Int))))) a2 (.lst [lv])) a3 (.lst (cutV (ps.map V.int) none (some ((b : Nat) : Int)) ++ [lv]))) a4 (.lst (cutV (ps.map V.int) (some (((b : Nat) : Int) + 1)) none))) (a := a5) (o := .lst (cutV (ps.map V.int) none (some ((b : Nat) : Int)) ++ [lv] ++ cutV (ps.map V.int) (some (((b : Nat) : Int) + 1)) none))
  rw [← epl] at hpl sAll ⊢
  have scpl : ∀ x ∈ pl, Sc x := fun x hx => by
    rw [epl] at hx
    have mem : ∀ lo hi, x ∈ cutV (ps.map V.int) lo hi → Sc x := fun lo hi h => by
      unfold cutV at h
      exact sc_ints x (List.mem_of_mem_drop (List.mem_of_mem_take h))
    rcases List.mem_append.mp hx with hx | hx
    · rcases List.mem_append.mp hx with hx | hx
      · exact mem _ _ hx
      · have : x = lv := by simpa using hx
        rw [this]
        exact hlv
    · exact mem _ _ hx
  have epl' : pl.length ≤ 60 := by
    rw [epl]
    simp only [List.length_append, List.length_cons, List.length_nil]
    omega
  have wrong := teams_wrong (way := way) T.cin T.pin (fun h => by have := T.z h; omega) hat hb hbw hcl esp (epl.trans (by rw [cut_lo, show (((b : Nat) : Int) + 1) = ((b + 1 : Nat) : Int) by omega, cut_hi]))
  generalize upd (upd (upd (upd (upd H a1 (.lst (cutV (ps.map V.int) none (some ((b : Nat) : Int))))) a2 (.lst [lv])) a3 (.lst (cutV (ps.map V.int) none (some ((b : Nat) : Int)) ++ [lv]))) a4 (.lst (cutV (ps.map V.int) (some (((b : Nat) : Int) + 1)) none))) a5 (.lst pl) = H5 at hpl sAll ⊢
  have ha5' := sAll _ _ ha
  have T5 := T.same sAll
  have hatv : atI [V.int (at_ : Nat), V.int (b : Nat)] ((way : Nat) : Int) = some (.int ((if way = 0 then at_ else b : Nat) : Int)) := by
    have hw : way = 0 ∨ way = 1 := by omega
    rcases hw with rfl | rfl
    · rfl
    · rfl
  refine fun x2 dx2 hx2 hdx2 hne2 => ?_
  have t3 := made_same (o1 := .own x2) (o2 := .ins C dx2 []) hx2 hdx2 (SameBut.refl x2 _)
  refine ⟨x2, dx2, a, a5, sp, pl, rfl, upd_same, SqL.of (t3 _ _ ha5'), SqL.of (t3 _ _ hpl), scsp, scpl, by omega, by omega, fun i hi H7 d sbx hd => ?_, fun hall => ⟨fun i hi H7 d sbx hd => ?_, fun hall2 => ((wrong.2 hall).2 hall2).elim⟩⟩
  all_goals
    have ei : i = (if way = 0 then at_ else b) := by first | exact wrong.1 i hi | exact (wrong.2 hall).1 i hi
    have sm7 : Same H5 (upd H7 d (.xd [("place", .int (i : Nat))])) := Same.new (made_same hx2 hdx2 sbx) hd
    refine ⟨true, TE.te, fun _ a0 ha0 => ?_, fun q => Bool.noConfusion q⟩
    refine ⟨_, rfl, rfl, rfl, d, _, _, rfl, upd_same, lookEq, ?_⟩
    refine ⟨_, rfl, rfl, .ref CP, .ref CP, true, rfl, .own CP, (fun d' hd' => by cases hd'; exact ⟨_, upd_same⟩), kit_sub NP.k s1 s2, true, rfl, iteT ?_⟩
    refine ⟨_, rfl, rfl, rfl, d, _, _, rfl, upd_same, lookEq, .int (i : Nat), .ty "int", .type "int", .type "int", true, rfl, .ty "int", .base (.int _), kit_ty (by decide +kernel), true, rfl, iteT ?_⟩
    refine ⟨_, rfl, rfl, rfl, d, _, _, rfl, upd_same, lookEq, .int (i : Nat), .ty "bool", .type "int", .type "bool", false, rfl, .ty "bool", .base (.int _), kit_ty (by decide +kernel), false, rfl, ?_⟩
    refine ⟨_, rfl, true, rfl, iteT ?_⟩
    refine ⟨_, rfl, _, rfl, _, rfl, (by show 2 ≤ sizeLine; decide), fun l2 hl2 => ?_⟩
    refine ⟨_, rfl, l2, _, _, _, rfl, rfl, SqL.of upd_same, hatv, rfl, ?_⟩
    have sm8 : Same H (upd (upd H7 d (.xd [("place", .int (i : Nat))])) l2 (.lst [V.int (at_ : Nat), V.int (b : Nat)])) := Same.new (sAll.trans sm7) hl2
    refine Eq.mpr (congrArg (fun z => Q (V.bl z) _) (decide_eq_true (by rw [ei]))) (kQ _ (SameBut.of sm8) (T.L.pool.same sm8))
end
end K03
namespace K03
open PySem PySem.Spec PyProof.Rows L2 Sup
open PySem.W (Frag)
section
variable {P : Program} {w : World} {K : Frag} {mg : Str → Option Value} {base : Heap} {f fD C fI fR fF CE fE CP : Addr} {fd fdD fdI fdR fdF : FuncData} {cdv : Value} {A : Around} {outer : List Env} {s : Shared} {H0 : Hp} {E : XK}
theorem te2 (hr : rTe A s f cdv) (D : FnT P w K mg base CX0 2 "_law_draw" fD fdD ["_law_pool_here", "_law_many"] spDraw) (M : ClT P w K mg base "Teams" C fI fdI ["self", "classes", "places"] (spTeamsInit K C CE)) (TE : ErrT K mg "BadEntry" "place" CE fE) (NP : ErrN K mg "PricesError" CP) (s1 : Sb K CE CP true) (s2 : Sb K CE CE true) (B : Bt mg) :
    ∃ t, PSs (xTe P w K mg base f cdv A outer s H0 E) ((defBody sTeamsHold).drop 13) t ∧ ∀ (p S D1 D2 : Addr) (n : Nat) (ns cs ps : List Int) (c3 c6 c7 c8 c9 : Option V) (Q : VK) (H : Hp), TAt H p S D1 D2 n ns cs ps → (∀ H', SameBut p H H' → PoolAt H' p → Q (.bl true) H') →
      t (endR Q) [some (.ref p), some (.int (n : Nat)), some (.ref S), c3, some (.ref D1), some (.ref D2), c6, c7, c8, c9, none, none, none, none, none, none, none, none, none, none, none] H := by
  obtain ⟨t3, h3, q3⟩ := te3 (H0 := H0) (outer := outer) (E := E) hr M TE NP s1 s2 B
  have hr2 : Room 2 _ := hr.mono (by decide)
  refine ⟨_, pss_cons (ps_set (i := 10) scTeamsHold.nd rfl (Or.inl rfl) (pe_call D.ok hr2 rfl D.g D.kp D.b .nil pass0 (pa_cons (pv 0) (pa_cons (pe_op op_add (pv 1) pe_int) pa_nil))))
      (pss_cons (ps_set (i := 11) scTeamsHold.nd rfl (Or.inl rfl) (pe_call D.ok hr2 rfl D.g D.kp D.b .nil pass0 (pa_cons (pv 0) (pa_cons (pe_callB (call_max2 rfl) (by rfl) B.mx boot_max (pa_cons pe_int (pa_cons (pe_callB call_len_seq (by rfl) B.len PySem.boot_len (pa_cons (pv 4) pa_nil)) pa_nil))) pa_nil))))
      (pss_cons (ps_set (i := 12) scTeamsHold.nd rfl (Or.inl rfl) (pe_ix ix_list (pe_lst (pa_cons (pe_callB call_len_seq (by rfl) B.len PySem.boot_len (pa_cons (pv 4) pa_nil)) (pa_cons (pe_un un_neg pe_int) (pa_cons pe_non (pa_cons pe_str pa_nil))))) (pe_call D.ok hr2 rfl D.g D.kp D.b .nil pass0 (pa_cons (pv 0) (pa_cons pe_int pa_nil))) (fun _ _ => rfl)))
      (pss_cons (ps_set (i := 13) scTeamsHold.nd rfl (Or.inl rfl) (pe_ix ix_list (pe_lst (pa_cons (pe_un un_neg pe_int) (pa_cons pe_non pa_nil))) (pe_call D.ok hr2 rfl D.g D.kp D.b .nil pass0 (pa_cons (pv 0) (pa_cons pe_int pa_nil))) (fun _ _ => rfl)))
      (pss_cons (ps_set (i := 14) scTeamsHold.nd rfl (Or.inl rfl) (pe_call D.ok hr2 rfl D.g D.kp D.b .nil pass0 (pa_cons (pv 0) (pa_cons pe_int pa_nil))))
      (pss_cons (ps_set (i := 15) scTeamsHold.nd rfl (Or.inl rfl) (pe_callTy call_list_of (by rfl) B.lst boot_list (pa_cons (pv 5) pa_nil)))
      (pss_cons (ps_if (pt_cmpR op_eq (pv 14) pe_int (nomark _)) (pss_one (ps_set (i := 15) scTeamsHold.nd rfl (Or.inl rfl) (pe_op op_cat (pe_op op_cat (pe_slice sl_list (pv 5) po_none (po_some (pv 10))) (pe_lst (pa_cons (pv 12) pa_nil))) (pe_slice sl_list (pv 5) (po_some (pv 10)) po_none)))) pss_nil)
      h3)))))), ?_⟩
  intro p S D1 D2 n ns cs ps c3 c6 c7 c8 c9 Q H T kQ
  have hn16 := T.L.n16
  have hpm := T.pm
  have hcn := T.cn
  have epl : (ps.map V.int).length = ps.length := List.length_map _
  refine ⟨_, rfl, _, rfl, _, _, rfl, rfl, p, _, rfl, T.L.pool, (by show (0 : Int) < ((n : Nat) : Int) + 1; omega), (by show ((n : Nat) : Int) + 1 < 1073741824; omega), fun H1 i1 sb1 hp1 g0 g1 => ?_⟩
  obtain ⟨at_, rfl, g1⟩ := nat_of g0 g1
  have hat : at_ ≤ cs.length := by
    have : ((at_ : Nat) : Int) < ((n : Nat) : Int) + 1 := g1
    omega
  have T1 := T.draw sb1 hp1
  refine ⟨_, rfl, _, rfl, D1, _, rfl, .inl (SqL.of T1.pl), _, _, rfl, p, _, rfl, T1.L.pool, (by split <;> omega), (by split <;> omega), fun H2 i2 sb2 hp2 g0 g1 => ?_⟩
  obtain ⟨b, rfl, g1⟩ := nat_of g0 g1
  have hb : b < max 1 ps.length := by split at g1 <;> omega
  have T2 := T1.draw sb2 hp2
  refine ⟨_, rfl, D1, _, rfl, .inl (SqL.of T2.pl), _, rfl, (by show 4 ≤ sizeLine; decide), fun l3 hl3 => ?_⟩
  have sl3 := Same.new (o := .lst [V.int (((ps.map V.int).length : Nat) : Int), V.int (-1), V.non, V.str "0"]) (Same.refl H2) hl3
  refine ⟨_, rfl, p, 4, rfl, T2.L.pool.same sl3, by decide, by decide, fun H3 j sb3 hp3 j0 j1 => ?_⟩
  obtain ⟨j, rfl, j1⟩ := nat_of j0 j1
  have hl3p := pool_some T2.L.pool hl3
  obtain ⟨wv, hatw, hwv, hbw⟩ : ∃ wv, atI [V.int (((ps.map V.int).length : Nat) : Int), V.int (-1), V.non, V.str "0"] ((j : Nat) : Int) = some wv ∧ Sc wv ∧ belowV wv ps.length = false := by
    have hj : j = 0 ∨ j = 1 ∨ j = 2 ∨ j = 3 := by omega
    rcases hj with rfl | rfl | rfl | rfl
    · refine ⟨_, rfl, trivial, ?_⟩
      show (decide (0 ≤ (((ps.map V.int).length : Nat) : Int)) && decide ((((ps.map V.int).length : Nat) : Int) < (ps.length : Int))) = false
      rw [decide_eq_false (show ¬ (((ps.map V.int).length : Nat) : Int) < (ps.length : Int) by omega), Bool.and_false]
    · exact ⟨_, rfl, trivial, rfl⟩
    · exact ⟨_, rfl, trivial, rfl⟩
    · exact ⟨_, rfl, trivial, rfl⟩
  have sb3' : SameBut p H2 H3 := (SameBut.of sl3).trans sb3
  have T3 := T2.draw sb3' hp3
  refine ⟨l3, _, _, wv, rfl, rfl, SqL.of (sb3 _ _ hl3p upd_same), hatw, ?_⟩
  refine ⟨_, rfl, (by show 2 ≤ sizeLine; decide), fun l4 hl4 => ?_⟩
  have sl4 := Same.new (o := .lst [V.int (-1), V.non]) (Same.refl H3) hl4
  refine ⟨_, rfl, p, 2, rfl, T3.L.pool.same sl4, by decide, by decide, fun H4 j sb4 hp4 j0 j1 => ?_⟩
  obtain ⟨j, rfl, j1⟩ := nat_of j0 j1
  have hl4p := pool_some T3.L.pool hl4
  obtain ⟨lv, hatl, hlv, hcl⟩ : ∃ lv, atI [V.int (-1), V.non] ((j : Nat) : Int) = some lv ∧ Sc lv ∧ cntV lv = false := by
    have hj : j = 0 ∨ j = 1 := by omega
    rcases hj with rfl | rfl
    · exact ⟨_, rfl, trivial, rfl⟩
    · exact ⟨_, rfl, trivial, rfl⟩
  have sb4' : SameBut p H3 H4 := (SameBut.of sl4).trans sb4
  have T4 := T3.draw sb4' hp4
  refine ⟨l4, _, _, lv, rfl, rfl, SqL.of (sb4 _ _ hl4p upd_same), hatl, ?_⟩
  refine ⟨_, rfl, p, 2, rfl, T4.L.pool, by decide, by decide, fun H5 way sb5 hp5 w0 w1 => ?_⟩
  obtain ⟨way, rfl, w1⟩ := nat_of w0 w1
  have T5 := T4.draw sb5 hp5
  have sbAll : SameBut p H H5 := sb1.trans (sb2.trans (sb3'.trans (sb4'.trans sb5)))
  have hway : way < 2 := by omega
  refine ⟨_, rfl, D2, _, rfl, .inl (SqL.of T5.cl), fun l5 hl5 => ?_⟩
  have s5 := Same.new (o := .lst (cs.map V.int)) (Same.refl H5) hl5
  refine ⟨_, rfl, rfl, _, rfl, ?_⟩
  rw [dInt]
  by_cases hw0 : ((way : Nat) : Int) = 0
  · rw [decide_eq_true hw0]
    have hw0' : way = 0 := by omega
    refine iteT ?_
    have T6 := T5.same s5
    refine ⟨_, rfl, _, rfl, _, rfl, D2, _, rfl, SqL.of T6.cl, fun a1 ha1 => ?_⟩
    have e1 := Same.new (o := .lst (cutV (cs.map V.int) none (some ((at_ : Nat) : Int)))) (Same.refl _) ha1
    refine ⟨_, rfl, (by show 1 ≤ sizeLine; decide), fun a2 ha2 => ?_⟩
    have e2 := Same.new (o := .lst [wv]) (Same.refl _) ha2
    have cl1 := cutV_length (cs.map V.int) none (some ((at_ : Nat) : Int))
    have cl2 := cutV_length (cs.map V.int) (some ((at_ : Nat) : Int)) none
    rw [List.length_map] at cl1 cl2
    refine ⟨a1, a2, _, _, rfl, rfl, e2 _ _ upd_same, upd_same, fitsN (by simp only [List.length_cons, List.length_nil]; omega), fun a3 ha3 => ?_⟩
    have e3 := Same.new (o := .lst (cutV (cs.map V.int) none (some ((at_ : Nat) : Int)) ++ [wv])) (Same.refl _) ha3
    refine ⟨_, rfl, _, rfl, _, rfl, D2, _, rfl, SqL.of (e3 _ _ (e2 _ _ (e1 _ _ T6.cl))), fun a4 ha4 => ?_⟩
    have e4 := Same.new (o := .lst (cutV (cs.map V.int) (some ((at_ : Nat) : Int)) none)) (Same.refl _) ha4
    refine ⟨a3, a4, _, _, rfl, rfl, e4 _ _ upd_same, upd_same, fitsN (by simp only [List.length_append, List.length_cons, List.length_nil]; omega), fun a5 ha5 => ?_⟩
    have e5 := Same.new (o := .lst (cutV (cs.map V.int) none (some ((at_ : Nat) : Int)) ++ [wv] ++ cutV (cs.map V.int) (some ((at_ : Nat) : Int)) none)) (Same.refl _) ha5
    have sAll := (((s5.trans e1).trans e2).trans e3).trans (e4.trans e5)
    refine q3 p S D1 D2 a5 n at_ b way ns cs ps _ wv lv _ _ _ _ _ Q _ (T5.same sAll) upd_same ?_ hat hb hwv hlv hbw hcl hway fun H' e hp => kQ H' (sbAll.trans ((SameBut.of sAll).trans e)) hp
    rw [if_pos hw0', cut_lo, cut_hi]
  · rw [decide_eq_false hw0]
    refine iteF ?_
    exact q3 p S D1 D2 l5 n at_ b way ns cs ps _ wv lv _ _ _ _ _ Q _ (T5.same s5) upd_same (by rw [if_neg (by omega)]) hat hb hwv hlv hbw hcl hway fun H' e hp => kQ H' (sbAll.trans ((SameBut.of s5).trans e)) hp
end
end K03
namespace K03
open PySem PySem.Spec PyProof.Rows L2 Sup
open PySem.W (Frag)
section
variable {P : Program} {w : World} {K : Frag} {mg : Str → Option Value} {base : Heap} {f fD C fI fR fF CE fE CP : Addr} {fd fdD fdI fdR fdF : FuncData} {cdv : Value} {A : Around} {outer : List Env} {s : Shared} {H0 : Hp} {E : XK}
theorem te1 (hr : rTe A s f cdv) (D : FnT P w K mg base CX0 2 "_law_draw" fD fdD ["_law_pool_here", "_law_many"] spDraw) (M : ClT P w K mg base "Teams" C fI fdI ["self", "classes", "places"] (spTeamsInit K C CE)) (nC : NoAttr K C "classes") (nP : NoAttr K C "places") (R : MtT P w K mg base 5 C "rank" fR fdR ["self", "things"] (spRank K C (TeamsPre C))) (Fr : MtT P w K mg base 5 C "is_free" fF fdF ["self", "things"] (spIsFree K C (TeamsPre C)))
    (TE : ErrT K mg "BadEntry" "place" CE fE) (NP : ErrN K mg "PricesError" CP) (s1 : Sb K CE CP true) (s2 : Sb K CE CE true) (B : Bt mg) :
    ∃ t, PSs (xTe P w K mg base f cdv A outer s H0 E) ((defBody sTeamsHold).drop 2) t ∧ ∀ (p S : Addr) (n : Nat) (ns : List Int) (z : Int) (Q : VK) (H1 : Hp), LawAt H1 p S n ns → 0 ≤ z → z ≤ 4 → (z = 0 → n = 0) → (∀ H', SameBut p H1 H' → PoolAt H' p → Q (.bl true) H') →
      t (endR Q) [some (.ref p), some (.int (n : Nat)), some (.ref S), some (.int z), none, none, none, none, none, none, none, none, none, none, none, none, none, none, none, none, none] H1 := by
  obtain ⟨t2, h2, q2⟩ := te2 (H0 := H0) (outer := outer) (E := E) hr D M TE NP s1 s2 B
  have hr2 : Room 2 _ := hr.mono (by decide)
  have hr5 : Room 5 _ := hr.mono (by decide)
  refine ⟨_, pss_cons (ps_set (i := 4) scTeamsHold.nd rfl (Or.inr rfl) (pe_lc (own := [("_law_c", 19)]) (g := gName 19) (tt := tYes) rfl scTeamsHold.nd (pi_range1 rfl B.rng (pa_cons (pv 3) pa_nil)) (blkOk_by (N := nTe) (sc := defScope sTeamsHold) (by decide +kernel)) (fun _ _ _ _ _ => pg_name (i := 19) scTeamsHold.nd rfl (Or.inl rfl)) (fun _ _ _ _ _ => pts_nil)
        (fun _ _ _ _ _ => pe_ix (ixl_at K rfl) (pe_lst (pa_cons pe_int (pa_cons pe_int (pa_cons pe_int (pa_cons pe_int (pa_cons pe_int pa_nil)))))) (pe_call D.ok hr2 rfl D.g D.kp D.b .nil pass0 (pa_cons (pv 0) (pa_cons pe_int pa_nil))) (fun _ _ => rfl))))
      (pss_cons (ps_set (i := 5) scTeamsHold.nd rfl (Or.inr rfl) (pe_lc (own := [("_law_x", 20)]) (g := gName 20) (tt := tYes) rfl scTeamsHold.nd (pi_range1 rfl B.rng (pa_cons (pv 1) pa_nil)) (blkOk_by (N := nTe) (sc := defScope sTeamsHold) (by decide +kernel)) (fun _ _ _ _ _ => pg_name (i := 20) scTeamsHold.nd rfl (Or.inl rfl)) (fun _ _ _ _ _ => pts_nil)
        (fun _ _ _ _ _ => pe_call D.ok hr2 rfl D.g D.kp D.b .nil pass0 (pa_cons (pv 0) (pa_cons (pe_callB (len_at K rfl) (by rfl) B.len PySem.boot_len (pa_cons (pv 4) pa_nil)) pa_nil)))))
      (pss_cons (ps_set (i := 6) scTeamsHold.nd rfl (Or.inl rfl) (pe_callTy call_list_of (by rfl) B.lst boot_list (pa_cons (pv 5) pa_nil)))
      (pss_cons (ps_set (i := 7) scTeamsHold.nd rfl (Or.inl rfl) (pe_callTy call_list_of (by rfl) B.lst boot_list (pa_cons (pv 4) pa_nil)))
      (pss_cons (ps_set (i := 8) scTeamsHold.nd rfl (Or.inl rfl) (pe_make M.mkd M.ok hr rfl M.g M.b .nil passL (pa_cons (pv 6) (pa_cons (pv 7) pa_nil))))
      (pss_cons (ps_expr (pe_bm0 PySem.F.plainAttrs_list PySem.F.slot_list_clear PySem.F.type_list_clear mt_clear (pv 6)))
      (pss_cons (ps_expr (pe_bm0 PySem.F.plainAttrs_list PySem.F.slot_list_clear PySem.F.type_list_clear mt_clear (pv 7)))
      (pss_cons (ps_if (PW.pt (pw_or (pt_cmpR (op_neD hr.units) (pe_fld (pv 8) rfl) (pe_tupleOf rfl B.tup (pv 5)) (nomark _)) (pw_or (pt_cmpR (op_neD hr.units) (pe_fld (pv 8) rfl) (pe_tupleOf rfl B.tup (pv 4)) (nomark _))
        (pw_or1 (pt_cmpR op_ne (pe_fld (pv 8) rfl) (pv 1) (nomark _)))))) (pss_one (ps_ret pe_bl)) pss_nil)
      (pss_cons (ps_set (i := 9) scTeamsHold.nd rfl (Or.inr rfl) (pe_lc (own := [("_law_c", 19)]) (g := gName 19) (tt := tYes) rfl scTeamsHold.nd (pi_range1 rfl B.rng (pa_cons (pe_callB call_len_seq (by rfl) B.len PySem.boot_len (pa_cons (pv 4) pa_nil)) pa_nil)) (blkOk_by (N := nTe) (sc := defScope sTeamsHold) (by decide +kernel)) (fun _ _ _ _ _ => pg_name (i := 19) scTeamsHold.nd rfl (Or.inr rfl)) (fun _ _ _ _ _ => pts_nil)
        (fun _ _ _ _ _ => pe_callB (len_at K rfl) (by rfl) B.len PySem.boot_len (pa_cons (pe_lc (own := [("_law_x", 20)]) (g := gName 20) rfl scTeamsHold.nd (pit_at K rfl (pv 2)) (blkOk_re (blkOk_by (N := nTe) (sc := scCounts) (by decide +kernel))) (fun _ _ _ _ _ => pg_name (i := 20) scTeamsHold.nd rfl (Or.inl rfl))
        (fun _ _ _ _ _ => pts_one (pt_cmpR op_eq (pe_ix (ixl_at K rfl) (pv 5) (pv 20) (fun _ _ => rfl)) (pv 19) (nomark _))) (fun _ _ _ _ _ => pv 20)) pa_nil))))
      (pss_cons (ps_if (pt_cmpR op_ne (pe_meth (pv 8) M.t.cl R.m R.ok hr5 R.b .nil passL (pa_cons (pv 2) pa_nil)) (pe_callB (cr_sum rfl) (by rfl) B.sum boot_sum (pa_cons (pe_lc (own := [("_law_c", 19)]) (g := gName 19) (tt := tYes) rfl scTeamsHold.nd
        (pi_range1 rfl B.rng (pa_cons (pe_callB call_len_seq (by rfl) B.len PySem.boot_len (pa_cons (pv 4) pa_nil)) pa_nil)) (blkOk_by (N := nTe) (sc := defScope sTeamsHold) (by decide +kernel)) (fun _ _ _ _ _ => pg_name (i := 19) scTeamsHold.nd rfl (Or.inl rfl)) (fun _ _ _ _ _ => pts_nil)
        (fun _ _ _ _ _ => pe_callB (call_min2 rfl) (by rfl) B.mn boot_min (pa_cons (pe_ix (ixl_at K rfl) (pv 9) (pv 19) (fun _ _ => rfl)) (pa_cons (pe_ix (ixl_at K rfl) (pv 4) (pv 19) (fun _ _ => rfl)) pa_nil)))) pa_nil)) (nomark _)) (pss_one (ps_ret pe_bl)) pss_nil)
      (pss_cons (ps_if (pt_cmpR op_ne (pe_meth (pv 8) M.t.cl Fr.m Fr.ok hr5 Fr.b .nil passL (pa_cons (pe_callTy call_list_of (by rfl) B.lst boot_list (pa_cons (pv 2) pa_nil)) pa_nil)) (pe_callB (cr_all rfl) (by rfl) B.all boot_all (pa_cons (pe_lc (own := [("_law_c", 19)]) (g := gName 19) (tt := tYes) rfl scTeamsHold.nd
        (pi_range1 rfl B.rng (pa_cons (pe_callB call_len_seq (by rfl) B.len PySem.boot_len (pa_cons (pv 4) pa_nil)) pa_nil)) (blkOk_by (N := nTe) (sc := defScope sTeamsHold) (by decide +kernel)) (fun _ _ _ _ _ => pg_name (i := 19) scTeamsHold.nd rfl (Or.inl rfl)) (fun _ _ _ _ _ => pts_nil)
        (fun _ _ _ _ _ => pe_cmpR op_le (pe_ix (ixl_at K rfl) (pv 9) (pv 19) (fun _ _ => rfl)) (pe_ix (ixl_at K rfl) (pv 4) (pv 19) (fun _ _ => rfl)) (nomark _))) pa_nil)) (nomark _)) (pss_one (ps_ret pe_bl)) pss_nil)
      h2)))))))))), ?_⟩
  intro p S n ns z Q H1 L1 z0 z1 hz kQ
  have hn16 := L1.n16
  have hlen := L1.len
  refine ⟨_, rfl, _, rfl, by omega, by omega, fun D1 hD1 => lc_it walk_range (PvD p H1 D1 fun x => 0 ≤ x) (PvD.zero hD1 L1.pool) (fun _ _ _ _ => trivial) (fun i x H2 H3 hi v y => ?_) (fun H5 v => ?_)⟩
  · obtain ⟨rfl, _⟩ := y
    refine ⟨rfl, (by show 5 ≤ sizeLine; decide), fun l hl => ?_⟩
    have sl := Same.new (o := .lst [V.int 1, V.int 2, V.int 0, V.int 3, V.int 5]) (Same.refl H3) hl
    refine ⟨_, rfl, p, 5, rfl, v.2.1.same sl, by decide, by decide, fun H4 j sb4 hp4 j0 j1 => ?_⟩
    obtain ⟨j, rfl, j1⟩ := nat_of j0 j1
    obtain ⟨wv, hat, hw⟩ : ∃ wv : Int, atI [V.int 1, V.int 2, V.int 0, V.int 3, V.int 5] ((j : Nat) : Int) = some (.int wv) ∧ 0 ≤ wv := by
      have hj : j = 0 ∨ j = 1 ∨ j = 2 ∨ j = 3 ∨ j = 4 := by omega
      rcases hj with rfl | rfl | rfl | rfl | rfl
      · exact ⟨_, rfl, by decide⟩
      · exact ⟨_, rfl, by decide⟩
      · exact ⟨_, rfl, by decide⟩
      · exact ⟨_, rfl, by decide⟩
      · exact ⟨_, rfl, by decide⟩
    exact ⟨l, _, _, _, rfl, rfl, SqL.of (sb4 _ _ (pool_some v.2.1 hl) upd_same), hat, PvD.next hD1 L1.pool v ((SameBut.of sl).trans sb4) hp4 rfl hw (by omega)⟩
  obtain ⟨v1, v2, ps, v3, v4, v5⟩ := v
  have L5 := L1.draw v1 v2
  have hpl : ps.length ≤ 4 := by omega
  refine ⟨_, rfl, _, rfl, by omega, by omega, fun D2 hD2 => lc_it walk_range (PvD p H5 D2 fun x => 0 ≤ x ∧ x < (ps.length : Int)) (PvD.zero hD2 L5.pool) (fun _ _ _ _ => trivial) (fun i x H6 H7 hi v y => ?_) (fun H9 v => ?_)⟩
  · obtain ⟨rfl, _⟩ := y
    have e1 : (ps.map V.int).length = ps.length := List.length_map _
    refine ⟨rfl, _, rfl, _, rfl, D1, _, rfl, .inl (SqL.of (v.1 _ _ (pool_ints L5.pool v5) v5)), p, _, rfl, v.2.1, by omega, by omega, fun H8 c sb8 hp8 c0 c1 => ?_⟩
    exact PvD.next hD2 L5.pool v sb8 hp8 rfl ⟨c0, by omega⟩ (by omega)
  obtain ⟨u1, u2, cs, u3, u4, u5⟩ := v
  have T : TAt H9 p S D1 D2 n ns cs ps := ⟨L5.draw u1 u2, u1 _ _ (pool_ints L5.pool v5) v5, u5, by omega, hpl, u4, v4, by omega⟩
  have sb09 : SameBut p H1 H9 := v1.trans u1
  clear u1 u2 u3 u4 u5 v1 v2 v3 v4 v5 L5 L1
  have hv : Valid cs.length ns := by rw [T.cn]; exact T.L.val
  have hcn := T.cn
  refine ⟨_, rfl, D2, _, rfl, .inl (SqL.of T.cl), fun l1 hl1 => ?_⟩
  have t1 : Same H9 (upd H9 l1 (.lst (cs.map V.int))) := Same.new (Same.refl _) hl1
  refine ⟨_, rfl, D1, _, rfl, .inl (SqL.of (t1 _ _ T.pl)), fun l2 hl2 => ?_⟩
  have t2 : Same (upd H9 l1 (.lst (cs.map V.int))) (upd (upd H9 l1 (.lst (cs.map V.int))) l2 (.lst (ps.map V.int))) := Same.new (Same.refl _) hl2
  have hl12 : l1 ≠ l2 := ne_of_none upd_same hl2
  refine ⟨_, rfl, _, rfl, fun x dx hx hdx hne => ?_⟩
  have t3 := made_same (o1 := .own x) (o2 := .ins C dx []) hx hdx (SameBut.refl x _)
  refine ⟨x, dx, l1, l2, cs.map V.int, ps.map V.int, rfl, upd_same, SqL.of (t3 _ _ (t2 _ _ upd_same)), SqL.of (t3 _ _ upd_same), sc_ints, sc_ints, by rw [List.length_map]; omega, by rw [List.length_map]; omega, fun i fi => ?_, fun _ => ⟨fun i fi => ?_, fun _ H' t c r h1 h2 h3 sb => ⟨rfl, ?_⟩⟩⟩
  · exact (firstF_no (allT_of (by rw [List.length_map]; exact below_ints T.cin)) fi).elim
  · exact (firstF_no (allT_of (cnt_ints T.pin)) fi).elim
  have t4 := made_same hx hdx sb
  have k1 : H' l1 = some (.lst (cs.map V.int)) := t4 _ _ (t2 _ _ upd_same)
  have k2 : H' l2 = some (.lst (ps.map V.int)) := t4 _ _ upd_same
  refine ⟨_, rfl, .inl ⟨rfl, _, SqL.of k1⟩, l1, _, rfl, rfl, k1, ?_⟩
  have k3 : (upd H' l1 (.lst [])) l2 = some (.lst (ps.map V.int)) := by rw [upd_ne (Ne.symm hl12)]; exact k2
  refine ⟨_, rfl, .inl ⟨rfl, _, SqL.of k3⟩, l2, _, rfl, rfl, k3, ?_⟩
  have far : ∀ b o, H' b = some o → (∀ xs, o ≠ .lst xs) → (upd (upd H' l1 (.lst [])) l2 (.lst [])) b = some o := fun b o h hn => by
    rw [upd_ne (fun e => by rw [e, k2] at h; exact hn _ (Option.some.inj h).symm), upd_ne (fun e => by rw [e, k1] at h; exact hn _ (Option.some.inj h).symm)]
    exact h
  have s08 : Same H9 (upd (upd H' l1 (.lst [])) l2 (.lst [])) := fun b o h => by
    have n1 := ne_of_none h hl1
    have n2 : b ≠ l2 := ne_of_none (t1 _ _ h) hl2
    rw [upd_ne n2, upd_ne n1]
    exact t4 _ _ (t2 _ _ (t1 _ _ h))
  rw [List.length_map] at h1
  have hA8 : TeamsAt C (upd (upd H' l1 (.lst [])) l2 (.lst [])) x cs ps := ⟨dx, t, c, r, far _ _ h1 (fun _ z => by cases z), far _ _ h2 (fun _ z => by cases z), far _ _ h3 (fun _ z => by cases z)⟩
  generalize upd (upd H' l1 (.lst [])) l2 (.lst []) = H8 at s08 hA8 ⊢
  clear far k1 k2 k3 t4 h1 h2 h3 sb t3 t2 t1 hl12
  have T8 := T.same s08
  obtain ⟨dx8, t8, c8, r8, a1, a2, a3⟩ := id hA8
  refine ⟨_, rfl, x, C, dx8, _, .ref c8, rfl, a1, M.t.cl, nC, lookNe (by decide +kernel) (lookNe (by decide +kernel) lookEq), _, rfl, .inl ⟨D2, _, rfl, SqL.of T8.cl, fun u hu => ?_⟩⟩
  have w1 : Same H8 (upd H8 u (.tup (cs.map V.int))) := Same.new (Same.refl _) hu
  refine ⟨_, _, .tup (SqT.of (w1 _ _ a2)) (dpInts cs), .tup (SqT.of upd_same) (dpInts cs), shT _, shT _, _, rfl, ?_⟩
  rw [eqSelf (shT _)]
  refine iteF ?_
  refine ⟨_, rfl, x, C, dx8, _, .ref r8, rfl, w1 _ _ a1, M.t.cl, nP, lookNe (by decide +kernel) (lookNe (by decide +kernel) (lookNe (by decide +kernel) lookEq)), _, rfl, .inl ⟨D1, _, rfl, SqL.of (w1 _ _ T8.pl), fun u' hu' => ?_⟩⟩
  have w2 : Same H8 (upd (upd H8 u (.tup (cs.map V.int))) u' (.tup (ps.map V.int))) := Same.new w1 hu'
  refine ⟨_, _, .tup (SqT.of (w2 _ _ a3)) (dpInts ps), .tup (SqT.of upd_same) (dpInts ps), shT _, shT _, _, rfl, ?_⟩
  rw [eqSelf (shT _)]
  refine iteF ?_
  refine ⟨_, rfl, x, C, dx8, _, .int _, rfl, w2 _ _ a1, M.t.cl, M.t.nSize, lookEq, _, rfl, rfl, _, rfl, iteNS (congrArg V.int (by omega)) ?_⟩
  generalize upd (upd H8 u (.tup (cs.map V.int))) u' (.tup (ps.map V.int)) = H10 at w2 ⊢
  have T10 := T8.same w2
  have hA10 := TeamsAt.same w2 hA8
  have sb10 : SameBut p H1 H10 := sb09.trans (SameBut.of (s08.trans w2))
  clear w1 w2 hA8 T8 T s08 a1 a2 a3 sb09
  have epl : (ps.map V.int).length = ps.length := List.length_map _
  have hpm := T10.pm
  -- how many there are of each class
  refine ⟨_, rfl, D1, _, rfl, .inl (SqL.of T10.pl), _, rfl, by omega, by omega, fun D3 hD3 => lc_it walk_range (PvA H10 D3 fun i => ((List.range ps.length).map fun j => V.int ((((inCls cs ns ((j : Nat) : Int)).map V.int).length : Nat) : Int)).take i) (PvA.zero hD3 rfl) (fun _ _ _ _ => trivial) (fun i x' H11 H12 hi v y => ?_) (fun H11 v => ?_)⟩
  · obtain ⟨rfl, hx'⟩ := y
    have hx' : x' = V.int (i : Nat) := hx'.trans (congrArg V.int (Int.zero_add _))
    subst hx'
    have hi : i < ps.length := by omega
    have T12 := T10.same v.1
    refine ⟨rfl, _, rfl, S, rfl, ⟨_, SqT.of T12.L.set⟩, fun D4 hD4 => lc_it walk_tup (PvA H12 D4 fun j => ((ns.take j).filter fun x => decide (cs.getD x.toNat 0 = ((i : Nat) : Int))).map V.int) (PvA.zero hD4 rfl) (fun _ _ _ u => Same.seqT u.1 (SqT.of T12.L.set)) (fun j y H13 H14 hj u z => ?_) (fun H13 u => ?_)⟩
    · obtain ⟨rfl, hy⟩ := z
      have hj' : j < ns.length := by rw [List.length_map] at hj; exact hj
      have hy := getD_map hy
      subst hy
      have hg := getD_some hj'
      refine ⟨rfl, _, rfl, _, rfl, D2, _, _, _, rfl, rfl, u.1.seq (SqL.of T12.cl), day_at hv hg, _, rfl, rfl, _, rfl, ?_⟩
      rw [dInt]
      by_cases hle : cs.getD (ns.getD j 0).toNat 0 = ((i : Nat) : Int)
      · rw [decide_eq_true hle]
        refine iteT ⟨_, rfl, u.next hD4 (Same.refl _) (by rw [filter_yes hg (decide_eq_true hle), List.map_append]; rfl) ?_⟩
        rw [List.length_map]
        have := List.length_filter_le (fun x => decide (cs.getD x.toNat 0 = ((i : Nat) : Int))) (ns.take j)
        rw [List.length_take] at this
        omega
      · rw [decide_eq_false hle]
        exact iteF (u.skip (Same.refl _) (by rw [filter_no hg (decide_eq_false hle)]))
    have u2 : H13 D4 = some (.lst ((inCls cs ns (i : Nat)).map V.int)) := by
      have z := u.2
      dsimp only at z
      rw [List.length_map, List.take_length] at z
      exact z
    exact ⟨D4, _, rfl, .inl (SqL.of u2), v.next hD3 u.1 (takeMap _ _ i (by rw [List.getElem?_range hi])) (by rw [List.length_take]; omega)⟩
  have hcn2 : H11 D3 = some (.lst ((cntsOf cs ns ps.length).map V.int)) := by
    have z := v.2
    dsimp only at z
    rw [List.take_of_length_le (by rw [List.length_map, List.length_range]; omega)] at z
    rw [z]
    unfold cntsOf
    rw [List.map_map]
    rfl
  have T11 := T10.same v.1
  have hA11 := TeamsAt.same v.1 hA10
  have sb11 : SameBut p H1 H11 := sb10.trans (SameBut.of v.1)
  clear T10 hA10 sb10 v
  have cntAt : ∀ i, i < ps.length → atI ((cntsOf cs ns ps.length).map V.int) ((i : Nat) : Int) = some (.int ((((inCls cs ns ((i : Nat) : Int)).map V.int).length : Nat) : Int)) := fun i hi => atI_nat (by
    unfold cntsOf
    rw [List.getElem?_map, List.getElem?_map, List.getElem?_range hi]
    rfl)
  have plAt : ∀ i, i < ps.length → atI (ps.map V.int) ((i : Nat) : Int) = some (.int (ps.getD i 0)) := fun i hi => atI_nat (map_at hi)
  obtain ⟨dx11, t11, c11, r11, a1, a2, a3⟩ := id hA11
  have nR : (fsT cs.length t11 c11 r11).lookup ("rank" : Str) = none := lookNe (by decide +kernel) (lookNe (by decide +kernel) (lookNe (by decide +kernel) (lookNe (by decide +kernel) lookNil)))
  have nF : (fsT cs.length t11 c11 r11).lookup ("is_free" : Str) = none := lookNe (by decide +kernel) (lookNe (by decide +kernel) (lookNe (by decide +kernel) (lookNe (by decide +kernel) lookNil)))
  have pre11 : TeamsPre C H11 x cs.length (teamRank cs ps) := ⟨cs, ps, hA11, rfl, by omega, by omega, rfl⟩
  -- rank
  refine ⟨_, rfl, x, dx11, _, rfl, a1, nR, _, rfl, x, S, cs.length, _, ns, rfl, pre11, .inr (SqT.of T11.L.set), hv, by omega, fun H12 sm12 => ?_⟩
  have T12 := T11.same sm12
  refine ⟨_, rfl, D1, _, rfl, .inl (SqL.of T12.pl), _, rfl, by omega, by omega, fun D5 hD5 => lc_it walk_range (PvA H12 D5 fun i => ((List.range ps.length).map fun j => V.int (min (ps.getD j 0) ((((inCls cs ns ((j : Nat) : Int)).map V.int).length : Nat) : Int))).take i) (PvA.zero hD5 rfl) (fun _ _ _ _ => trivial) (fun i x' H13 H14 hi v y => ?_) (fun H13 v => ?_)⟩
  · obtain ⟨rfl, hx'⟩ := y
    have hx' : x' = V.int (i : Nat) := hx'.trans (congrArg V.int (Int.zero_add _))
    subst hx'
    have hi : i < ps.length := by omega
    refine ⟨rfl, _, rfl, _, rfl, D3, _, _, _, rfl, rfl, SqL.of (v.1 _ _ (sm12 _ _ hcn2)), cntAt i hi, _, rfl, _, rfl, D1, _, _, _, rfl, rfl, SqL.of (v.1 _ _ T12.pl), plAt i hi, _, _, rfl, ?_⟩
    have e2 : (if ps.getD i 0 < ((((inCls cs ns ((i : Nat) : Int)).map V.int).length : Nat) : Int) then ps.getD i 0 else ((((inCls cs ns ((i : Nat) : Int)).map V.int).length : Nat) : Int)) = min (ps.getD i 0) ((((inCls cs ns ((i : Nat) : Int)).map V.int).length : Nat) : Int) := by
      split <;> omega
    rw [e2]
    exact v.next hD5 (Same.refl _) (takeMap _ _ i (by rw [List.getElem?_range hi])) (by rw [List.length_take]; omega)
  have v2 := v.2
  dsimp only at v2
  rw [List.take_of_length_le (by rw [List.length_map, List.length_range]; omega)] at v2
  refine ⟨D5, (List.range ps.length).map fun j => min (ps.getD j 0) ((((inCls cs ns ((j : Nat) : Int)).map V.int).length : Nat) : Int), rfl, SqL.of (by rw [v2, List.map_map]; rfl), rfl, _, rfl, iteNS (congrArg V.int ?_) ?_⟩
  · unfold teamRank
    refine congrArg List.sum (List.map_congr_left fun j _ => ?_)
    rw [List.length_map, inCls_len]
  have s13 : Same H11 H13 := sm12.trans v.1
  have T13 := T11.same s13
  have a13 := s13 _ _ a1
  -- is_free
  refine ⟨_, rfl, x, dx11, _, rfl, a13, nF, _, rfl, S, _, rfl, .inr (SqT.of T13.L.set), fun l hl => ?_⟩
  have sl := Same.new (o := .lst (ns.map V.int)) (Same.refl H13) hl
  refine ⟨x, l, cs.length, _, ns, rfl, (teamsPre C).same _ _ _ _ _ (s13.trans sl) pre11, .inl (SqL.of upd_same), hv, by omega, fun H14 sm14 => ?_⟩
  have s14 : Same H11 H14 := s13.trans (sl.trans sm14)
  have T14 := T11.same s14
  refine ⟨_, rfl, D1, _, rfl, .inl (SqL.of T14.pl), _, rfl, by omega, by omega, fun D6 hD6 => lc_it walk_range (PvA H14 D6 fun i => (bitsTo ps.length fun j => decide (((((inCls cs ns ((j : Nat) : Int)).map V.int).length : Nat) : Int) ≤ ps.getD j 0)).take i) (PvA.zero hD6 rfl) (fun _ _ _ _ => trivial) (fun i x' H15 H16 hi v y => ?_) (fun H15 v => ?_)⟩
  · obtain ⟨rfl, hx'⟩ := y
    have hx' : x' = V.int (i : Nat) := hx'.trans (congrArg V.int (Int.zero_add _))
    subst hx'
    have hi : i < ps.length := by omega
    exact ⟨rfl, _, rfl, _, rfl, D3, _, _, _, rfl, rfl, SqL.of (v.1 _ _ (s14 _ _ hcn2)), cntAt i hi, _, rfl, _, rfl, D1, _, _, _, rfl, rfl, SqL.of (v.1 _ _ T14.pl), plAt i hi, _, _, rfl, rfl, v.next hD6 (Same.refl _) (bitsTo_next hi) (by rw [List.length_take]; omega)⟩
  have v2 := v.2
  dsimp only at v2
  rw [bitsTo_all (by omega)] at v2
  refine ⟨D6, _, rfl, SqL.of v2, rfl, _, rfl, iteNS (congrArg V.bl ?_) ?_⟩
  · rw [Bool.eq_iff_iff, decide_eq_true_iff, bits_id, teamFull (fun i x h => ?_)]
    · constructor
      · intro h j hj
        exact decide_eq_true (h j hj)
      · intro h j hj
        exact of_decide_eq_true (h j hj)
    · have hb := valid_at hv i x h
      have : cs.getD x.toNat 0 ∈ cs := by
        rw [List.getD_eq_getElem?_getD, List.getElem?_eq_getElem (by omega)]
        exact List.getElem_mem _
      exact T14.cin _ this
  have s15 : Same H11 H15 := s14.trans v.1
  exact q2 p S D1 D2 n ns cs ps _ _ _ _ _ Q H15 (T11.same s15) fun H' e hp => kQ H' (sb11.trans ((SameBut.of s15).trans e)) hp
end
end K03
namespace K03
open PySem PySem.Spec PyProof.Rows L2 Sup
open PySem.W (Frag)
section
variable {P : Program} {w : World} {K : Frag} {mg : Str → Option Value} {base : Heap} {f fD C fI fR fF CE fE CP : Addr} {fd fdD fdI fdR fdF : FuncData} {cdv : Value} {A : Around} {outer : List Env} {s : Shared} {H0 : Hp} {E : XK}
theorem ok_teamsHold (F : Fun K "_law_teams_hold" "_law_teams_hold" sTeamsHold f fd) (D : FnT P w K mg base CX0 2 "_law_draw" fD fdD ["_law_pool_here", "_law_many"] spDraw) (M : ClT P w K mg base "Teams" C fI fdI ["self", "classes", "places"] (spTeamsInit K C CE)) (nC : NoAttr K C "classes") (nP : NoAttr K C "places") (R : MtT P w K mg base 5 C "rank" fR fdR ["self", "things"] (spRank K C (TeamsPre C))) (Fr : MtT P w K mg base 5 C "is_free" fF fdF ["self", "things"] (spIsFree K C (TeamsPre C)))
    (TE : ErrT K mg "BadEntry" "place" CE fE) (NP : ErrN K mg "PricesError" CP) (s1 : Sb K CE CP true) (s2 : Sb K CE CE true) (B : Bt mg) :
    FnOk P w K mg base CX0 7 f fd ["_law_pool_here", "_law_size", "_law_some"] spHold := by
  refine F.ok scTeamsHold (fun vs H Q E h => ?_) (fun cdv A outer s H vs Q E hr h => ?_)
  · obtain ⟨p, S, n, ns, rfl, _⟩ := h
    rfl
  obtain ⟨p, S, n, ns, rfl, hL, kQ⟩ := h
  obtain ⟨t1, h1, q1⟩ := te1 (H0 := H) (outer := outer) (E := E) hr D M nC nP R Fr TE NP s1 s2 B
  have hr2 : Room 2 _ := hr.mono (by decide)
  refine ⟨_, pss_cons (ps_set (i := 3) scTeamsHold.nd rfl (Or.inl rfl) (pe_op op_add pe_int (pe_call D.ok hr2 rfl D.g D.kp D.b .nil pass0 (pa_cons (pv 0) (pa_cons pe_int pa_nil)))))
      (pss_cons (ps_if (PW.pt (pw_and (pt_cmpR op_eq (pv 1) pe_int (nomark _)) (pw_and1 (pt_cmpR op_eq (pv 3) pe_int (nomark _))))) (pss_one (ps_set (i := 3) scTeamsHold.nd rfl (Or.inl rfl) pe_int)) pss_nil)
      h1), ?_⟩
  refine ⟨_, rfl, p, 4, rfl, hL.pool, by decide, by decide, fun H1 k0 sb1 hp1 g0 g1 => ?_⟩
  have L1 := hL.draw sb1 hp1
  have kQ1 : ∀ H', SameBut p H1 H' → PoolAt H' p → Q (.bl true) H' := fun H' e hp => kQ H' (sb1.trans e) hp
  refine ⟨_, _, rfl, rfl, ?_⟩
  refine ⟨_, rfl, rfl, _, rfl, ?_⟩
  by_cases hz : ¬ n = 0
  · rw [dInt, decide_eq_false (show ¬ ((n : Nat) : Int) = 0 by omega)]
    refine iteF ?_
    exact q1 p S n ns (1 + k0) Q H1 L1 (by omega) (by omega) (by omega) kQ1
  · rw [dInt, decide_eq_true (show ((n : Nat) : Int) = 0 by omega)]
    refine iteT ⟨_, rfl, rfl, _, rfl, ?_⟩
    by_cases h4 : ¬ 1 + k0 = 4
    · rw [dInt, decide_eq_false h4]
      refine iteF ?_
      exact q1 p S n ns (1 + k0) Q H1 L1 (by omega) (by omega) (by omega) kQ1
    · rw [dInt, decide_eq_true (Classical.not_not.mp h4)]
      refine iteT ?_
      exact q1 p S n ns 0 Q H1 L1 (by omega) (by omega) (by omega) kQ1
end
end K03
namespace K03
open PySem PySem.Spec PyProof.Rows L2 Sup
open PySem.W (Frag)
abbrev sWo : Stmt := top 30
def ifTest : Stmt → Expr
  | .If t _ _ _ => t
  | _ => .Constant .none 0 ⟨0, 0, 0, 0⟩
def cmpTo : Expr → Expr
  | .Compare _ _ cs _ => cs.getD 0 (.Constant .none 0 ⟨0, 0, 0, 0⟩)
  | _ => .Constant .none 0 ⟨0, 0, 0, 0⟩
abbrev scDue : Scope := lcScope (callArg (asgVal (stAt sWo 7)) 0)
abbrev scAll : Scope := lcScope (callArg (cmpTo (ifTest (stAt sWo 10))) 0)
/-! ### _law_works_hold -/
def nWo : List Str := ["_law_pool_here", "_law_size", "_law_some", "_law_limit", "_law_shift", "_law_x", "_law_days", "_law_handed", "_law_made", "_law_due", "_law_rank", "_law_part", "_law_early", "_law_at", "_law_wrong", "_law_told", "_law_base", "e", "_law_t", "_law_y", "_law_k"]
theorem scWo : FnScope ["_law_pool_here", "_law_size", "_law_some", "_law_limit", "_law_shift", "_law_x", "_law_days", "_law_handed", "_law_made", "_law_due", "_law_rank", "_law_part", "_law_early", "_law_at", "_law_wrong", "_law_told", "_law_base", "e", "_law_t", "_law_y", "_law_k"] ["_law_pool_here", "_law_size", "_law_some"] (defScope sWo) := ⟨rfl, rfl, rfl, by decide +kernel, rfl, by decide +kernel, by decide +kernel⟩
abbrev xWo (P : Program) (w : World) (K : Frag) (mg : Str → Option Value) (base : Heap) (f : Addr) (cdv : Value) (A : Around) (outer : List Env) (s : Shared) (H : Hp) (E : XK) : Cx :=
  (cxOf CX0 P w K mg base ["_law_pool_here", "_law_size", "_law_some", "_law_limit", "_law_shift", "_law_x", "_law_days", "_law_handed", "_law_made", "_law_due", "_law_rank", "_law_part", "_law_early", "_law_at", "_law_wrong", "_law_told", "_law_base", "e", "_law_t", "_law_y", "_law_k"] "_law_works_hold" (defScope sWo) f cdv A outer s H E).nox
abbrev rWo (A : Around) (s : Shared) (f : Addr) (cdv : Value) : Prop := Room 7 (A.deeper (envOfC "_law_works_hold" (defScope sWo) s.heap.objs.size f cdv))
/-- what works_hold keeps from its drawn days on -/
structure WAt (H : Hp) (p S Dd : Addr) (n : Nat) (ns ds : List Int) : Prop where
  L : LawAt H p S n ns
  dl : H Dd = some (.lst (ds.map V.int))
  dn : ds.length = n
  din : ∀ x ∈ ds, 0 ≤ x
theorem WAt.same {H H' : Hp} {p S Dd : Addr} {n : Nat} {ns ds : List Int} (e : Same H H') (h : WAt H p S Dd n ns ds) : WAt H' p S Dd n ns ds := ⟨h.L.same e, e _ _ h.dl, h.dn, h.din⟩
theorem WAt.draw {H H' : Hp} {p S Dd : Addr} {n : Nat} {ns ds : List Int} (h : WAt H p S Dd n ns ds) (e : SameBut p H H') (hp : PoolAt H' p) : WAt H' p S Dd n ns ds := ⟨h.L.draw e hp, e _ _ (pool_ints h.L.pool h.dl) h.dl, h.dn, h.din⟩
theorem valid_of {l : List Int} {n : Int} (h : ∀ x ∈ l, 0 ≤ x ∧ x < n) (a : l.Pairwise (· < ·)) : Valid n l := fun j hj b => by
  have e : ∀ k, k < l.length → l.getD k 0 ∈ l ∧ ∀ (_ : k < l.length), l.getD k 0 = l[k] := fun k hk => by
    rw [List.getD_eq_getElem?_getD, List.getElem?_eq_getElem hk]
    exact ⟨List.getElem_mem hk, fun _ => rfl⟩
  rcases b with b | ⟨b1, b2⟩
  · exact b (h _ (e j hj).1)
  · have q := List.pairwise_iff_getElem.mp a (j - 1) j (by omega) hj (by omega)
    rw [(e j hj).2 hj, (e (j - 1) (by omega)).2 (by omega)] at b2
    omega
theorem later_len (ds ns : List Int) (t : Int) : (((ns.filter fun x => decide (t < ds.getD x.toNat 0)).length : Nat) : Int) = over t (daysOf ds ns) := by
  unfold over daysOf
  rw [List.countP_map, List.countP_eq_length_filter]
  rfl
theorem works_wrong {ds : List Int} {at_ : Nat} {wv : V} (hd : ∀ x ∈ ds, 0 ≤ x) (ha : at_ ≤ ds.length) (hw : cntV wv = false) {sp : List V} (esp : sp = (ds.map V.int).take at_ ++ [wv] ++ (ds.map V.int).drop at_) :
    (∀ i, FirstF (sp.map cntV) i → i = at_) ∧ ¬ AllT (sp.map cntV) := by
  obtain ⟨r1, r2⟩ := put_at (g := cntV) (ys := (ds.map V.int).drop at_) (by rw [List.length_map]; exact ha) (cnt_ints hd) hw
  rw [← esp] at r1 r2
  exact ⟨fun i f => firstF_at r1 r2 f, fun f => allT_at r2 f⟩
section
variable {P : Program} {w : World} {K : Frag} {mg : Str → Option Value} {base : Heap} {f fD C fI fR fF CE fE CP fT fN : Addr} {fd fdD fdI fdR fdF fdT fdN : FuncData} {cdv : Value} {A : Around} {outer : List Env} {s : Shared} {H0 : Hp} {E : XK}
theorem wo3 (hr : rWo A s f cdv) (D : FnT P w K mg base CX0 2 "_law_draw" fD fdD ["_law_pool_here", "_law_many"] spDraw) (M : ClT P w K mg base "Works" C fI fdI ["self", "days"] (spWorksInit K C CE)) (TE : ErrT K mg "BadEntry" "place" CE fE) (NP : ErrN K mg "PricesError" CP) (s1 : Sb K CE CP true) (s2 : Sb K CE CE true) (B : Bt mg) :
    ∃ t, PSs (xWo P w K mg base f cdv A outer s H0 E) ((defBody sWo).drop 15) t ∧ ∀ (p S Dd : Addr) (n : Nat) (ns ds : List Int) (c3 c4 c5 c7 c8 c9 c10 c11 c12 : Option V) (Q : VK) (H : Hp), WAt H p S Dd n ns ds → (∀ H', SameBut p H H' → PoolAt H' p → Q (.bl true) H') →
      t (endR Q) [some (.ref p), some (.int (n : Nat)), some (.ref S), c3, c4, c5, some (.ref Dd), c7, c8, c9, c10, c11, c12, none, none, none, none, none, none, none, none] H := by
  have hr2 : Room 2 _ := hr.mono (by decide)
  have hr5 : Room 6 _ := hr.mono (by decide)
  have hr5' : Room 5 _ := hr.mono (by decide)
  refine ⟨_, pss_cons (ps_set (i := 13) scWo.nd rfl (Or.inl rfl) (pe_call D.ok hr2 rfl D.g D.kp D.b .nil pass0 (pa_cons (pv 0) (pa_cons (pe_op op_add (pv 1) pe_int) pa_nil))))
      (pss_cons (ps_set (i := 14) scWo.nd rfl (Or.inl rfl) (pe_ix ix_list (pe_lst (pa_cons (pe_un un_neg pe_int) (pa_cons pe_non (pa_cons pe_str pa_nil)))) (pe_call D.ok hr2 rfl D.g D.kp D.b .nil pass0 (pa_cons (pv 0) (pa_cons pe_int pa_nil))) (fun _ _ => rfl)))
      (pss_cons (ps_set (i := 15) scWo.nd rfl (Or.inl rfl) pe_non)
      (pss_cons (ps_set (i := 16) scWo.nd rfl (Or.inl rfl) pe_bl)
      (pss_cons (ps_try_as (i := 17) (Wout := fun _ _ _ _ => False) rfl rfl scWo.nd rfl rfl ⟨rfl, by decide, Or.inl TE.gC⟩ takes0
        (fun W pn xe tk _ => pss_one (ps_expr (pe_makeS M.mkd M.ok hr5 rfl M.g M.b tk (pa_cons (pe_op op_cat (pe_op op_cat (pe_slice (sll_at K rfl) (pv 6) po_none (po_some (pv 13))) (pe_lst (pa_cons (pv 14) pa_nil))) (pe_slice (sll_at K rfl) (pv 6) (po_some (pv 13)) po_none)) pa_nil))))
        (fun a oe cls d pn hz hf => pss_cons (ps_set (i := 15) scWo.nd rfl (Or.inl rfl) (xf_at (K := K) rfl TE.xf TE.noF hz hf (pv 17))) (pss_one (ps_set (i := 16) scWo.nd rfl (Or.inl rfl) (pe_and (pe_callB (call_isErr (K := K) rfl TE.err hz hf) (by rfl) B.isi boot_isinstance (pa_cons (pv 17) (pa_cons (pe_glob (v := .ref CP) rfl NP.g rfl) pa_nil))) (pe_and (pe_callB (isi_at K rfl) (by rfl) B.isi boot_isinstance (pa_cons (xf_at (K := K) rfl TE.xf TE.noF hz hf (pv 17)) (pa_cons (pe_bltn (v := .ty "int") (by rfl) B.int boot_int rfl) pa_nil))) (pe_one (pe_not (pe_callB (isi_at K rfl) (by rfl) B.isi boot_isinstance (pa_cons (xf_at (K := K) rfl TE.xf TE.noF hz hf (pv 17)) (pa_cons (pe_bltn (v := .ty "bool") (by rfl) B.bool boot_bool rfl) pa_nil)))))))))))
      (pss_one (ps_ret (pe_and (pv 16) (pe_one (pe_cmpR op_eq (pv 15) (pv 13) (nomark _)))))))))), ?_⟩
  intro p S Dd n ns ds c3 c4 c5 c7 c8 c9 c10 c11 c12 Q H T kQ
  have hn16 := T.L.n16
  have hdn := T.dn
  refine ⟨_, rfl, _, rfl, _, _, rfl, rfl, p, _, rfl, T.L.pool, (by show (0 : Int) < ((n : Nat) : Int) + 1; omega), (by show ((n : Nat) : Int) + 1 < 1073741824; omega), fun H1 i1 sb1 hp1 g0 g1 => ?_⟩
  obtain ⟨at_, rfl, g1⟩ := nat_of g0 g1
  have hat : at_ ≤ ds.length := by
    have : ((at_ : Nat) : Int) < ((n : Nat) : Int) + 1 := g1
    omega
  have T1 := T.draw sb1 hp1
  refine ⟨_, rfl, (by show 3 ≤ sizeLine; decide), fun l3 hl3 => ?_⟩
  have sl3 := Same.new (o := .lst [V.int (-1), V.non, V.str "1"]) (Same.refl H1) hl3
  refine ⟨_, rfl, p, 3, rfl, T1.L.pool.same sl3, by decide, by decide, fun H2 j sb2 hp2 j0 j1 => ?_⟩
  obtain ⟨j, rfl, j1⟩ := nat_of j0 j1
  obtain ⟨wv, hatw, hwv, hbw⟩ : ∃ wv, atI [V.int (-1), V.non, V.str "1"] ((j : Nat) : Int) = some wv ∧ Sc wv ∧ cntV wv = false := by
    have hj : j = 0 ∨ j = 1 ∨ j = 2 := by omega
    rcases hj with rfl | rfl | rfl
    · exact ⟨_, rfl, trivial, rfl⟩
    · exact ⟨_, rfl, trivial, rfl⟩
    · exact ⟨_, rfl, trivial, rfl⟩
  have sb2' : SameBut p H1 H2 := (SameBut.of sl3).trans sb2
  have T2 := T1.draw sb2' hp2
  refine ⟨l3, _, _, wv, rfl, rfl, SqL.of (sb2 _ _ (pool_some T1.L.pool hl3) upd_same), hatw, ?_⟩
  have sbAll : SameBut p H H2 := sb1.trans sb2'
  have cl1 := cutV_length (ds.map V.int) none (some ((at_ : Nat) : Int))
  have cl2 := cutV_length (ds.map V.int) (some ((at_ : Nat) : Int)) none
  rw [List.length_map] at cl1 cl2
  refine ⟨_, rfl, _, rfl, _, rfl, Dd, _, rfl, SqL.of T2.dl, fun a1 ha1 => ?_⟩
  have e1 := Same.new (o := .lst (cutV (ds.map V.int) none (some ((at_ : Nat) : Int)))) (Same.refl _) ha1
  refine ⟨_, rfl, (by show 1 ≤ sizeLine; decide), fun a2 ha2 => ?_⟩
  have e2 := Same.new (o := .lst [wv]) (Same.refl _) ha2
  refine ⟨a1, a2, _, _, rfl, rfl, e2 _ _ upd_same, upd_same, fitsN (by simp only [List.length_cons, List.length_nil]; omega), fun a3 ha3 => ?_⟩
  have e3 := Same.new (o := .lst (cutV (ds.map V.int) none (some ((at_ : Nat) : Int)) ++ [wv])) (Same.refl _) ha3
  refine ⟨_, rfl, _, rfl, _, rfl, Dd, _, rfl, SqL.of (e3 _ _ (e2 _ _ (e1 _ _ T2.dl))), fun a4 ha4 => ?_⟩
  have e4 := Same.new (o := .lst (cutV (ds.map V.int) (some ((at_ : Nat) : Int)) none)) (Same.refl _) ha4
  refine ⟨a3, a4, _, _, rfl, rfl, e4 _ _ upd_same, upd_same, fitsN (by simp only [List.length_append, List.length_cons, List.length_nil]; omega), fun a5 ha5 => ?_⟩
  have e5 := Same.new (o := .lst (cutV (ds.map V.int) none (some ((at_ : Nat) : Int)) ++ [wv] ++ cutV (ds.map V.int) (some ((at_ : Nat) : Int)) none)) (Same.refl _) ha5
  have sAll := ((e1.trans e2).trans e3).trans (e4.trans e5)
  obtain ⟨sp, esp⟩ : ∃ sp, sp = cutV (ds.map V.int) none (some ((at_ : Nat) : Int)) ++ [wv] ++ cutV (ds.map V.int) (some ((at_ : Nat) : Int)) none := ⟨_, rfl⟩
  have hsp := upd_same (H := upd (upd (upd (upd H2 a1 (.lst (cutV (ds.map V.int) none (some ((at_ : Nat) : Int))))) a2 (.lst [wv])) a3 (.lst (cutV (ds.map V.int) none (some ((at_ : Nat) : Int)) ++ [wv]))) a4 (.lst (cutV (ds.map V.int) (some ((at_ : Nat) : Int)) none))) (a := a5) (o := .lst (cutV (ds.map V.int) none (some ((at_ : Nat) : Int)) ++ [wv] ++ cutV (ds.map V.int) (some ((at_ : Nat) : Int)) none))
  rw [← esp] at hsp sAll ⊢
  have scsp : ∀ x ∈ sp, Sc x := fun x hx => by
    rw [esp] at hx
    have mem : ∀ lo hi, x ∈ cutV (ds.map V.int) lo hi → Sc x := fun lo hi h => by
      unfold cutV at h
      exact sc_ints x (List.mem_of_mem_drop (List.mem_of_mem_take h))
    rcases List.mem_append.mp hx with hx | hx
    · rcases List.mem_append.mp hx with hx | hx
      · exact mem _ _ hx
      · have : x = wv := by simpa using hx
        rw [this]
        exact hwv
    · exact mem _ _ hx
  have esp' : sp.length ≤ 60 := by
    rw [esp]
    simp only [List.length_append, List.length_cons, List.length_nil]
    omega
  have wrong := works_wrong T.din hat hbw (esp.trans (by rw [cut_lo, cut_hi]))
  generalize upd (upd (upd (upd (upd H2 a1 (.lst (cutV (ds.map V.int) none (some ((at_ : Nat) : Int))))) a2 (.lst [wv])) a3 (.lst (cutV (ds.map V.int) none (some ((at_ : Nat) : Int)) ++ [wv]))) a4 (.lst (cutV (ds.map V.int) (some ((at_ : Nat) : Int)) none))) a5 (.lst sp) = H5 at hsp sAll ⊢
  refine fun x2 dx2 hx2 hdx2 hne2 => ?_
  have t3 := made_same (o1 := .own x2) (o2 := .ins C dx2 []) hx2 hdx2 (SameBut.refl x2 _)
  refine ⟨x2, dx2, a5, sp, rfl, upd_same, SqL.of (t3 _ _ hsp), scsp, by omega, fun i hi H7 d sbx hd => ?_, fun hall => (wrong.2 hall).elim⟩
  have ei : i = at_ := wrong.1 i hi
  have sm7 : Same H5 (upd H7 d (.xd [("place", .int (i : Nat))])) := Same.new (made_same hx2 hdx2 sbx) hd
  refine ⟨true, TE.te, fun _ a0 ha0 => ?_, fun q => Bool.noConfusion q⟩
  refine ⟨_, rfl, rfl, rfl, d, _, _, rfl, upd_same, lookEq, ?_⟩
  refine ⟨_, rfl, rfl, .ref CP, .ref CP, true, rfl, .own CP, (fun d' hd' => by cases hd'; exact ⟨_, upd_same⟩), kit_sub NP.k s1 s2, true, rfl, iteT ?_⟩
  refine ⟨_, rfl, rfl, rfl, d, _, _, rfl, upd_same, lookEq, .int (i : Nat), .ty "int", .type "int", .type "int", true, rfl, .ty "int", .base (.int _), kit_ty (by decide +kernel), true, rfl, iteT ?_⟩
  refine ⟨_, rfl, rfl, rfl, d, _, _, rfl, upd_same, lookEq, .int (i : Nat), .ty "bool", .type "int", .type "bool", false, rfl, .ty "bool", .base (.int _), kit_ty (by decide +kernel), false, rfl, ?_⟩
  refine ⟨_, rfl, true, rfl, iteT ?_⟩
  refine ⟨_, rfl, _, rfl, rfl, ?_⟩
  have sm8 : Same H2 (upd H7 d (.xd [("place", .int (i : Nat))])) := sAll.trans sm7
  refine Eq.mpr (congrArg (fun z => Q (V.bl z) _) (decide_eq_true (by rw [ei]))) (kQ _ (sbAll.trans (SameBut.of sm8)) (T2.L.pool.same sm8))
end
end K03
namespace K03
open PySem PySem.Spec PyProof.Rows L2 Sup
open PySem.W (Frag)
section
variable {P : Program} {w : World} {K : Frag} {mg : Str → Option Value} {base : Heap} {f fD C fI fR fF CE fE CP fT fN : Addr} {fd fdD fdI fdR fdF fdT fdN : FuncData} {cdv : Value} {A : Around} {outer : List Env} {s : Shared} {H0 : Hp} {E : XK}
theorem wo2 (hr : rWo A s f cdv) (D : FnT P w K mg base CX0 2 "_law_draw" fD fdD ["_law_pool_here", "_law_many"] spDraw) (M : ClT P w K mg base "Works" C fI fdI ["self", "days"] (spWorksInit K C CE)) (TT : FnT P w K mg base CX0 7 "_law_timetable_holds" fT fdT ["_law_made", "_law_days", "_law_things"] (spTTHolds K C)) (NS : FnT P w K mg base CX0 7 "_law_no_set_place" fN fdN ["_law_made", "_law_row"] (spNoSet K C)) (TE : ErrT K mg "BadEntry" "place" CE fE) (NP : ErrN K mg "PricesError" CP) (s1 : Sb K CE CP true) (s2 : Sb K CE CE true) (B : Bt mg) :
    ∃ t, PSs (xWo P w K mg base f cdv A outer s H0 E) ((defBody sWo).drop 11) t ∧ ∀ (p S Dd x : Addr) (n : Nat) (ns ds : List Int) (c3 c4 c7 c9 c10 : Option V) (Q : VK) (H : Hp), WAt H p S Dd n ns ds → WorksAt C H x ds → (∀ H', SameBut p H H' → PoolAt H' p → Q (.bl true) H') →
      t (endR Q) [some (.ref p), some (.int (n : Nat)), some (.ref S), c3, c4, none, some (.ref Dd), c7, some (.ref x), c9, c10, none, none, none, none, none, none, none, none, none, none] H := by
  obtain ⟨t3, h, q3⟩ := wo3 (H0 := H0) (outer := outer) (E := E) hr D M TE NP s1 s2 B
  have hr2 : Room 2 _ := hr.mono (by decide)
  have hr5 : Room 6 _ := hr.mono (by decide)
  have hr5' : Room 5 _ := hr.mono (by decide)
  refine ⟨_, pss_cons (ps_set (i := 11) scWo.nd rfl (Or.inl rfl) (pe_lst pa_nil))
      (pss_cons (ps_for PassesOwn.never rfl (pi_tup (pv 2)) (pg_name (i := 5) scWo.nd rfl (Or.inl rfl)) (pss_cons (ps_set (i := 12) scWo.nd rfl (Or.inr rfl) (pe_callB cr_sortedI (by rfl) B.srt boot_sorted (pa_cons (pe_lc (own := [("_law_y", 19)]) (g := gName 19) (tt := tYes) rfl scWo.nd (pi_list (pe_op op_cat (pv 11) (pe_lst (pa_cons (pv 5) pa_nil)))) (blkOk_by (N := nWo) (sc := defScope sWo) (by decide +kernel)) (fun _ _ _ _ _ => pg_name (i := 19) scWo.nd rfl (Or.inl rfl)) (fun _ _ _ _ _ => pts_nil) (fun _ _ _ _ _ => pe_ix (ixl_at K rfl) (pv 6) (pv 19) (fun _ _ => rfl))) pa_nil))) (pss_one (ps_if (pt_val (pe_callB (cr_all rfl) (by rfl) B.all boot_all (pa_cons (pe_lc (own := [("_law_k", 20)]) (g := gName 20) (tt := tYes) rfl scWo.nd (pi_range1 rfl B.rng (pa_cons (pe_callB call_len_seq (by rfl) B.len PySem.boot_len (pa_cons (pv 12) pa_nil)) pa_nil)) (blkOk_by (N := nWo) (sc := defScope sWo) (by decide +kernel)) (fun _ _ _ _ _ => pg_name (i := 20) scWo.nd rfl (Or.inl rfl)) (fun _ _ _ _ _ => pts_nil) (fun _ _ _ _ _ => pe_cmpR op_gt (pe_ix (ixl_at K rfl) (pv 12) (pv 20) (fun _ _ => rfl)) (pv 20) (nomark _))) pa_nil))) (pss_one (ps_set (i := 11) scWo.nd rfl (Or.inl rfl) (pe_op op_cat (pv 11) (pe_lst (pa_cons (pv 5) pa_nil))))) pss_nil))))
      (pss_cons (ps_if (PW.pt (pw_or (pt_not (pt_val (pe_call TT.ok hr rfl TT.g TT.kp TT.b .nil pass0 (pa_cons (pv 8) (pa_cons (pv 6) (pa_cons (pv 2) pa_nil)))))) (pw_or1 (pt_not (pt_val (pe_call TT.ok hr rfl TT.g TT.kp TT.b .nil pass0 (pa_cons (pv 8) (pa_cons (pv 6) (pa_cons (pv 11) pa_nil))))))))) (pss_one (ps_ret pe_bl)) pss_nil)
      (pss_cons (ps_if (PW.pt (pw_or (pt_cmpR op_ne (pe_call NS.ok hr rfl NS.g NS.kp NS.b .nil pass0 (pa_cons (pv 8) (pa_cons (pe_lst (pa_cons (pv 1) pa_nil)) pa_nil))) pe_int (nomark _)) (pw_or1 (PW.pt (pw_and (pt_cmpR op_gt (pe_callB call_len_seq (by rfl) B.len PySem.boot_len (pa_cons (pv 2) pa_nil)) pe_int (nomark _)) (pw_and1 (pt_cmpR op_ne (pe_call NS.ok hr rfl NS.g NS.kp NS.b .nil pass0 (pa_cons (pv 8) (pa_cons (pe_revT (pv 2)) pa_nil))) pe_int (nomark _)))))))) (pss_one (ps_ret pe_bl)) pss_nil)
      h))), ?_⟩
  intro p S Dd x n ns ds c3 c4 c7 c9 c10 Q H T hA kQ
  have hn16 := T.L.n16
  have hlen := T.L.len
  have hdn := T.dn
  have hv : Valid ds.length ns := by rw [T.dn]; exact T.L.val
  have subV : ∀ prt : List Int, prt.Sublist ns → Valid ds.length prt ∧ prt.length ≤ ns.length := fun prt sub => ⟨valid_of (fun y hy => by
    obtain ⟨i, hi⟩ := List.getElem?_of_mem (sub.subset hy)
    exact valid_at hv i y hi) (T.L.asc.sublist sub), sub.length_le⟩
  refine ⟨(by show 0 ≤ sizeLine; decide), fun P0 hP0 => ?_⟩
  have s0 : Same H (upd H P0 (.lst [])) := Same.new (Same.refl H) hP0
  refine ⟨_, rfl, S, rfl, ⟨_, SqT.of (s0 _ _ T.L.set)⟩, for_it walk_tup (fun i σ H' => ∃ (c5 c12 : Option V) (Pa : Addr) (prt : List Int), σ = [some (.ref p), some (.int (n : Nat)), some (.ref S), c3, c4, c5, some (.ref Dd), c7, some (.ref x), c9, c10, some (.ref Pa), c12, none, none, none, none, none, none, none, none] ∧ Same H H' ∧ H' Pa = some (.lst (prt.map V.int)) ∧ prt.Sublist (ns.take i)) ⟨none, none, P0, [], rfl, s0, upd_same, List.nil_sublist _⟩ (fun i σ H' _ ⟨_, _, _, _, _, s5, _⟩ => SqT.of (s5 _ _ T.L.set)) ?_ ?_⟩
  · rintro i y σ H2 H3 hi ⟨c5, c12, Pa, prt, rfl, s5, hPa, sub⟩ ⟨rfl, hy⟩
    have hi' : i < ns.length := by rw [List.length_map] at hi; exact hi
    have hy := getD_map hy
    subst hy
    have sub1 : (prt ++ [ns.getD i 0]).Sublist (ns.take (i + 1)) := by
      rw [take_succ_of (getD_some hi')]
      exact sub.append (List.Sublist.refl _)
    obtain ⟨v1, vl1⟩ := subV _ (sub1.trans (List.take_sublist _ _))
    have hpl : prt.length + 1 ≤ ns.length := by
      rw [List.length_append] at vl1
      exact vl1
    have emap : prt.map V.int ++ [V.int (ns.getD i 0)] = (prt ++ [ns.getD i 0]).map V.int := by rw [List.map_append]; rfl
    refine ⟨_, rfl, _, rfl, (by show 1 ≤ sizeLine; decide), fun a2 ha2 => ?_⟩
    have e2 := Same.new (o := .lst [V.int (ns.getD i 0)]) (Same.refl H3) ha2
    refine ⟨Pa, a2, _, _, rfl, rfl, e2 _ _ hPa, upd_same, fitsN (by simp only [List.length_map, List.length_cons, List.length_nil]; omega), fun a3 ha3 => ?_⟩
    rw [emap]
    have e3 := Same.new (o := .lst ((prt ++ [ns.getD i 0]).map V.int)) e2 ha3
    refine ⟨a3, rfl, ⟨_, SqL.of upd_same⟩, fun D2 hD2 => lc_it walk_list (PvA (upd (upd H3 a2 (.lst [V.int (ns.getD i 0)])) a3 (.lst ((prt ++ [ns.getD i 0]).map V.int))) D2 fun j => ((prt ++ [ns.getD i 0]).map fun y => V.int (ds.getD y.toNat 0)).take j) (PvA.zero hD2 rfl) (fun _ _ _ u => u.1.seq (SqL.of upd_same)) (fun j z H4 H5 hj u y => ?_) (fun H4 u => ?_)⟩
    · obtain ⟨rfl, hz⟩ := y
      have hj' : j < (prt ++ [ns.getD i 0]).length := by rw [List.length_map] at hj; exact hj
      have hz := getD_map hz
      subst hz
      have hg := getD_some hj'
      refine ⟨rfl, _, rfl, _, rfl, Dd, _, _, _, rfl, rfl, SqL.of (u.1 _ _ (e3 _ _ (s5 _ _ T.dl))), day_at v1 hg, ?_⟩
      exact u.next hD2 (Same.refl _) (takeMap _ _ j hg) (by rw [List.length_take]; omega)
    have u2 := u.2
    dsimp only at u2
    rw [List.length_map, takeAll] at u2
    refine ⟨D2, daysOf ds (prt ++ [ns.getD i 0]), rfl, SqL.of (by rw [u2]; unfold daysOf; rw [List.map_map]; rfl), fun s' S2 perm rising hS2 => ?_⟩
    have e4 : Same H3 (upd H4 S2 (.lst (s'.map V.int))) := Same.new (e3.trans u.1) hS2
    have hsl : s'.length ≤ 60 := by
      have := perm.length_eq
      unfold daysOf at this
      rw [List.length_map] at this
      omega
    refine ⟨_, rfl, S2, _, rfl, .inl (SqL.of upd_same), _, rfl, (by simp only [List.length_map]; omega), (by simp only [List.length_map]; omega), fun D3 hD3 => lc_it walk_range (PvA (upd H4 S2 (.lst (s'.map V.int))) D3 fun j => (bitsTo s'.length fun k => decide (((k : Nat) : Int) < s'.getD k 0)).take j) (PvA.zero hD3 rfl) (fun _ _ _ _ => trivial) (fun j z H5 H6 hj v y => ?_) (fun H5 v => ?_)⟩
    · obtain ⟨rfl, hz⟩ := y
      have hz : z = V.int (j : Nat) := hz.trans (congrArg V.int (Int.zero_add _))
      subst hz
      have hj : j < s'.length := by simp only [List.length_map] at hj; omega
      exact ⟨rfl, _, rfl, _, rfl, S2, _, _, _, rfl, rfl, SqL.of (v.1 _ _ upd_same), atI_nat (map_at hj), _, rfl, _, _, rfl, rfl, v.next hD3 (Same.refl _) (bitsTo_next hj) (by rw [List.length_take]; omega)⟩
    have v2 := v.2
    dsimp only at v2
    rw [bitsTo_all (by simp only [List.length_map]; omega)] at v2
    have e5 : Same H3 H5 := e4.trans v.1
    refine ⟨D3, _, rfl, SqL.of v2, _, rfl, ?_⟩
    generalize ((List.range s'.length).map fun k => decide (((k : Nat) : Int) < s'.getD k 0)).all id = ok
    cases ok with
    | true =>
      refine iteT ⟨_, rfl, _, rfl, (by show 1 ≤ sizeLine; decide), fun a5 ha5 => ?_⟩
      have e6 := Same.new (o := .lst [V.int (ns.getD i 0)]) e5 ha5
      refine ⟨Pa, a5, _, _, rfl, rfl, e6 _ _ hPa, upd_same, fitsN (by simp only [List.length_map, List.length_cons, List.length_nil]; omega), fun a6 ha6 => ?_⟩
      refine ⟨some (.int (ns.getD i 0)), some (.ref S2), a6, prt ++ [ns.getD i 0], rfl, s5.trans (Same.new e6 ha6), ?_, sub1⟩
      rw [← emap]
      exact upd_same
    | false =>
      refine iteF ⟨some (.int (ns.getD i 0)), some (.ref S2), Pa, prt, rfl, s5.trans e5, e5 _ _ hPa, ?_⟩
      exact sub.trans (by rw [take_succ_of (getD_some hi')]; exact List.sublist_append_left _ _)
  · rintro σ H2 ⟨c5, c12, Pa, prt, rfl, s5, hPa, sub⟩
    obtain ⟨v1, vl1⟩ := subV prt (sub.trans (List.take_sublist _ _))
    have T2 := T.same s5
    have hA2 := WorksAt.same s5 hA
    -- both timetables
    refine ⟨_, rfl, _, rfl, _, rfl, x, Dd, S, ds, ns, rfl, hA2, by omega, SqL.of T2.dl, .inr (SqT.of T2.L.set), hv, by omega, fun H3 sm3 => ⟨_, rfl, iteF ?_⟩⟩
    have T3 := T2.same sm3
    have hA3 := WorksAt.same sm3 hA2
    refine ⟨_, rfl, _, rfl, _, rfl, x, Dd, Pa, ds, prt, rfl, hA3, by omega, SqL.of T3.dl, .inl (SqL.of (sm3 _ _ hPa)), v1, by omega, fun H4 sm4 => ⟨_, rfl, iteF ?_⟩⟩
    have T4 := T3.same sm4
    have hA4 := WorksAt.same sm4 hA3
    -- what is no set
    refine ⟨_, rfl, _, rfl, (by show 1 ≤ sizeLine; decide), fun a1 ha1 => ?_⟩
    have e1 := Same.new (o := .lst [V.int ((n : Nat) : Int)]) (Same.refl H4) ha1
    refine ⟨x, a1, ds, [((n : Nat) : Int)], 0, rfl, hA4.same e1, by omega,   .inl (SqL.of upd_same), by simp, by simp, .inl (by show ¬ (0 ≤ ((n : Nat) : Int) ∧ ((n : Nat) : Int) < ds.length); omega), fun j hj => absurd hj (Nat.not_lt_zero j), fun H5 sm5 => ⟨rfl, _, rfl, iteNS rfl ?_⟩⟩
    have s45 : Same H4 H5 := e1.trans sm5
    have T5 := T4.same s45
    have hA5 := WorksAt.same s45 hA4
    have sH5 : Same H H5 := (s5.trans (sm3.trans sm4)).trans s45
    have go : ∀ H6, Same H5 H6 → t3 (endR Q) [some (.ref p), some (.int (n : Nat)), some (.ref S), c3, c4, c5, some (.ref Dd), c7, some (.ref x), c9, c10, some (.ref Pa), c12, none, none, none, none, none, none, none, none] H6 := fun H6 e =>
      q3 p S Dd n ns ds _ _ _ _ _ _ _ _ _ Q H6 (T5.same e) fun H' e' hp => kQ H' ((SameBut.of (sH5.trans e)).trans e') hp
    refine ⟨_, rfl, S, _, rfl, .inr (SqT.of T5.L.set), _, _, rfl, rfl, _, rfl, ?_⟩
    by_cases h1 : (1 : Int) < (((ns.map V.int).length : Nat) : Int)
    · rw [decide_eq_true h1]
      rw [List.length_map] at h1
      refine iteT ⟨_, rfl, _, rfl, S, _, rfl, SqT.of T5.L.set, fun a2 ha2 => ?_⟩
      have e2 := Same.new (o := .tup (ns.map V.int).reverse) (Same.refl H5) ha2
      have hr : (upd H5 a2 (.tup (ns.map V.int).reverse)) a2 = some (.tup (ns.reverse.map V.int)) := by rw [List.map_reverse]; exact upd_same
      have hrv : ∀ j, j < ns.length → ns.reverse.getD j 0 = ns.getD (ns.length - 1 - j) 0 := fun j hj => by
        rw [List.getD_eq_getElem?_getD, List.getD_eq_getElem?_getD, List.getElem?_reverse hj]
      have hgt : ∀ k, k < ns.length → 0 ≤ ns.getD k 0 ∧ ns.getD k 0 < ds.length := fun k hk => valid_at hv k _ (getD_some hk)
      refine ⟨x, a2, ds, ns.reverse, 1, rfl, hA5.same e2, by omega, .inr (SqT.of hr), by rw [List.length_reverse]; omega, by rw [List.length_reverse]; omega, .inr ⟨by omega, ?_⟩, fun j hj b => ?_, fun H6 sm6 => ⟨rfl, _, rfl, iteNS rfl ?_⟩⟩
      · rw [hrv 1 (by omega), hrv (1 - 1) (by omega)]
        have q := List.pairwise_iff_getElem.mp T.L.asc (ns.length - 1 - 1) (ns.length - 1 - (1 - 1)) (by omega) (by omega) (by omega)
        rw [List.getD_eq_getElem?_getD, List.getD_eq_getElem?_getD, List.getElem?_eq_getElem (by omega), List.getElem?_eq_getElem (by omega)]
        show ns[ns.length - 1 - 1] ≤ ns[ns.length - 1 - (1 - 1)]
        omega
      · have ej : j = 0 := by omega
        subst ej
        rcases b with b | ⟨b, _⟩
        · rw [hrv 0 (by omega)] at b
          exact b (hgt _ (by omega))
        · omega
      · exact go H6 (e2.trans sm6)
    · rw [decide_eq_false h1]
      refine iteF ?_
      refine iteF ?_
      exact go H5 (Same.refl _)
end
end K03
namespace K03
open PySem PySem.Spec PyProof.Rows L2 Sup
open PySem.W (Frag)
section
variable {P : Program} {w : World} {K : Frag} {mg : Str → Option Value} {base : Heap} {f fD C fI fR fF CE fE CP fT fN : Addr} {fd fdD fdI fdR fdF fdT fdN : FuncData} {cdv : Value} {A : Around} {outer : List Env} {s : Shared} {H0 : Hp} {E : XK}
theorem wo1 (hr : rWo A s f cdv) (D : FnT P w K mg base CX0 2 "_law_draw" fD fdD ["_law_pool_here", "_law_many"] spDraw) (M : ClT P w K mg base "Works" C fI fdI ["self", "days"] (spWorksInit K C CE)) (nD : NoAttr K C "days") (R : MtT P w K mg base 5 C "rank" fR fdR ["self", "things"] (spRank K C (WorksPre C))) (Fr : MtT P w K mg base 5 C "is_free" fF fdF ["self", "things"] (spIsFree K C (WorksPre C))) (TT : FnT P w K mg base CX0 7 "_law_timetable_holds" fT fdT ["_law_made", "_law_days", "_law_things"] (spTTHolds K C)) (NS : FnT P w K mg base CX0 7 "_law_no_set_place" fN fdN ["_law_made", "_law_row"] (spNoSet K C)) (TE : ErrT K mg "BadEntry" "place" CE fE) (NP : ErrN K mg "PricesError" CP) (s1 : Sb K CE CP true) (s2 : Sb K CE CE true) (B : Bt mg) :
    ∃ t, PSs (xWo P w K mg base f cdv A outer s H0 E) ((defBody sWo).drop 3) t ∧ ∀ (p S Dd : Addr) (n : Nat) (ns ds : List Int) (c3 c4 : Option V) (Q : VK) (H : Hp), WAt H p S Dd n ns ds → (∀ H', SameBut p H H' → PoolAt H' p → Q (.bl true) H') →
      t (endR Q) [some (.ref p), some (.int (n : Nat)), some (.ref S), c3, c4, none, some (.ref Dd), none, none, none, none, none, none, none, none, none, none, none, none, none, none] H := by
  obtain ⟨t2, h, q2⟩ := wo2 (H0 := H0) (outer := outer) (E := E) hr D M TT NS TE NP s1 s2 B
  have hr2 : Room 2 _ := hr.mono (by decide)
  have hr5 : Room 6 _ := hr.mono (by decide)
  have hr5' : Room 5 _ := hr.mono (by decide)
  refine ⟨_, pss_cons (ps_set (i := 7) scWo.nd rfl (Or.inl rfl) (pe_callTy call_list_of (by rfl) B.lst boot_list (pa_cons (pv 6) pa_nil)))
      (pss_cons (ps_set (i := 8) scWo.nd rfl (Or.inl rfl) (pe_make M.mkd M.ok hr5 rfl M.g M.b .nil passL (pa_cons (pv 7) pa_nil)))
      (pss_cons (ps_expr (pe_bm0 PySem.F.plainAttrs_list PySem.F.slot_list_clear PySem.F.type_list_clear mt_clear (pv 7)))
      (pss_cons (ps_if (PW.pt (pw_or (pt_cmpR (op_neD hr.units) (pe_fld (pv 8) rfl) (pe_tupleOf rfl B.tup (pv 6)) (nomark _)) (pw_or1 (pt_cmpR op_ne (pe_fld (pv 8) rfl) (pv 1) (nomark _))))) (pss_one (ps_ret pe_bl)) pss_nil)
      (pss_cons (ps_set (i := 9) scWo.nd rfl (Or.inl rfl) (pe_callB (cr_min rfl) (by rfl) B.mn boot_min (pa_cons (pe_lc (own := [("_law_t", 18)]) (g := gName 18) (tt := tYes) rfl scWo.nd (pi_range1 rfl B.rng (pa_cons (pe_op op_add (pv 1) pe_int) pa_nil)) (blkOk_by (N := nWo) (sc := defScope sWo) (by decide +kernel)) (fun _ _ _ _ _ => pg_name (i := 18) scWo.nd rfl (Or.inr rfl)) (fun _ _ _ _ _ => pts_nil) (fun _ _ _ _ _ => pe_op op_add (pv 18) (pe_callB (len_at K rfl) (by rfl) B.len PySem.boot_len (pa_cons (pe_lc (own := [("_law_x", 5)]) (g := gName 5) rfl scWo.nd (pit_at K rfl (pv 2)) (blkOk_re (blkOk_by (N := nWo) (sc := scDue) (by decide +kernel))) (fun _ _ _ _ _ => pg_name (i := 5) scWo.nd rfl (Or.inl rfl)) (fun _ _ _ _ _ => pts_one (pt_cmpR op_gt (pe_ix (ixl_at K rfl) (pv 6) (pv 5) (fun _ _ => rfl)) (pv 18) (nomark _))) (fun _ _ _ _ _ => pv 5)) pa_nil)))) pa_nil)))
      (pss_cons (ps_set (i := 10) scWo.nd rfl (Or.inl rfl) (pe_meth (pv 8) M.t.cl R.m R.ok hr5' R.b .nil passL (pa_cons (pv 2) pa_nil)))
      (pss_cons (ps_if (PW.pt (pw_or (pt_cmpR op_ne (pv 10) (pv 9) (nomark _)) (pw_or (pt_not (pt_val (pe_callB call_isi (by rfl) B.isi boot_isinstance (pa_cons (pv 10) (pa_cons (pe_bltn (v := .ty "int") (by rfl) B.int boot_int rfl) pa_nil))))) (pw_or1 (pt_val (pe_callB call_isi (by rfl) B.isi boot_isinstance (pa_cons (pv 10) (pa_cons (pe_bltn (v := .ty "bool") (by rfl) B.bool boot_bool rfl) pa_nil)))))))) (pss_one (ps_ret pe_bl)) pss_nil)
      (pss_cons (ps_if (pt_cmpR op_ne (pe_meth (pv 8) M.t.cl Fr.m Fr.ok hr5' Fr.b .nil passL (pa_cons (pe_callTy call_list_of (by rfl) B.lst boot_list (pa_cons (pv 2) pa_nil)) pa_nil)) (pe_callB (cr_all rfl) (by rfl) B.all boot_all (pa_cons (pe_lc (own := [("_law_t", 18)]) (g := gName 18) (tt := tYes) rfl scWo.nd (pi_range1 rfl B.rng (pa_cons (pe_op op_add (pv 1) pe_int) pa_nil)) (blkOk_by (N := nWo) (sc := defScope sWo) (by decide +kernel)) (fun _ _ _ _ _ => pg_name (i := 18) scWo.nd rfl (Or.inr rfl)) (fun _ _ _ _ _ => pts_nil) (fun _ _ _ _ _ => pe_cmpR op_le (pe_callB (len_at K rfl) (by rfl) B.len PySem.boot_len (pa_cons (pe_lc (own := [("_law_x", 5)]) (g := gName 5) rfl scWo.nd (pit_at K rfl (pv 2)) (blkOk_re (blkOk_by (N := nWo) (sc := scAll) (by decide +kernel))) (fun _ _ _ _ _ => pg_name (i := 5) scWo.nd rfl (Or.inl rfl)) (fun _ _ _ _ _ => pts_one (pt_cmpR op_le (pe_ix (ixl_at K rfl) (pv 6) (pv 5) (fun _ _ => rfl)) (pv 18) (nomark _))) (fun _ _ _ _ _ => pv 5)) pa_nil)) (pv 18) (nomark _))) pa_nil)) (nomark _)) (pss_one (ps_ret pe_bl)) pss_nil)
      h))))))), ?_⟩
  intro p S Dd n ns ds c3 c4 Q H T kQ
  have hn16 := T.L.n16
  have hlen := T.L.len
  have hdn := T.dn
  have hv : Valid ds.length ns := by rw [T.dn]; exact T.L.val
  refine ⟨_, rfl, Dd, _, rfl, .inl (SqL.of T.dl), fun l1 hl1 => ?_⟩
  have t1 : Same H (upd H l1 (.lst (ds.map V.int))) := Same.new (Same.refl _) hl1
  refine ⟨_, rfl, fun x dx hx hdx hne => ?_⟩
  have t3 := made_same (o1 := .own x) (o2 := .ins C dx []) hx hdx (SameBut.refl x _)
  refine ⟨x, dx, l1, ds.map V.int, rfl, upd_same, SqL.of (t3 _ _ upd_same), sc_ints, by rw [List.length_map]; omega, fun i fi => ?_, fun _ H' t c h1 h2 sb => ⟨rfl, ?_⟩⟩
  · exact (firstF_no (allT_of (cnt_ints T.din)) fi).elim
  have t4 := made_same hx hdx sb
  have k1 : H' l1 = some (.lst (ds.map V.int)) := t4 _ _ upd_same
  refine ⟨_, rfl, .inl ⟨rfl, _, SqL.of k1⟩, l1, _, rfl, rfl, k1, ?_⟩
  have far : ∀ b o, H' b = some o → (∀ xs, o ≠ .lst xs) → (upd H' l1 (.lst [])) b = some o := fun b o h hn => by
    rw [upd_ne (fun e => by rw [e, k1] at h; exact hn _ (Option.some.inj h).symm)]
    exact h
  have s08 : Same H (upd H' l1 (.lst [])) := fun b o h => by
    rw [upd_ne (ne_of_none h hl1)]
    exact t4 _ _ (t1 _ _ h)
  rw [List.length_map] at h1
  have hA8 : WorksAt C (upd H' l1 (.lst [])) x ds := ⟨dx, t, c, far _ _ h1 (fun _ z => by cases z), far _ _ h2 (fun _ z => by cases z)⟩
  generalize upd H' l1 (.lst []) = H8 at s08 hA8 ⊢
  clear far k1 t4 h1 h2 sb t3 t1
  have T8 := T.same s08
  obtain ⟨dx8, t8, c8, a1, a2⟩ := id hA8
  refine ⟨_, rfl, x, C, dx8, _, .ref c8, rfl, a1, M.t.cl, nD, lookNe (by decide +kernel) (lookNe (by decide +kernel) lookEq), _, rfl, .inl ⟨Dd, _, rfl, SqL.of T8.dl, fun u hu => ?_⟩⟩
  have w1 : Same H8 (upd H8 u (.tup (ds.map V.int))) := Same.new (Same.refl _) hu
  refine ⟨_, _, .tup (SqT.of (w1 _ _ a2)) (dpInts ds), .tup (SqT.of upd_same) (dpInts ds), shT _, shT _, _, rfl, ?_⟩
  rw [eqSelf (shT _)]
  refine iteF ?_
  refine ⟨_, rfl, x, C, dx8, _, .int _, rfl, w1 _ _ a1, M.t.cl, M.t.nSize, lookEq, _, rfl, rfl, _, rfl, iteNS (congrArg V.int (by omega)) ?_⟩
  generalize upd H8 u (.tup (ds.map V.int)) = H10 at w1 ⊢
  have T10 := T8.same w1
  have hA10 := WorksAt.same w1 hA8
  have s10 : Same H H10 := s08.trans w1
  clear w1 hA8 T8 s08 a1 a2
  -- the least of t plus what is later than t
  refine ⟨_, rfl, _, _, rfl, rfl, _, rfl, (by show -(2 ^ 62) ≤ ((n : Nat) : Int) + 1; omega), (by show ((n : Nat) : Int) + 1 < 2 ^ 62; omega), fun D1 hD1 => lc_it walk_range (PvA H10 D1 fun i => ((List.range (n + 1)).map fun t => V.int (((t : Nat) : Int) + ((((ns.filter fun x => decide (((t : Nat) : Int) < ds.getD x.toNat 0)).map V.int).length : Nat) : Int))).take i) (PvA.zero hD1 rfl) (fun _ _ _ _ => trivial) (fun i x' H11 H12 hi v y => ?_) (fun H11 v => ?_)⟩
  · obtain ⟨rfl, hx'⟩ := y
    have hx' : x' = V.int (i : Nat) := hx'.trans (congrArg V.int (Int.zero_add _))
    subst hx'
    have hi : i < n + 1 := by
      have : i < (((n : Nat) : Int) + 1).toNat := hi
      omega
    have T12 := T10.same v.1
    refine ⟨rfl, _, rfl, _, rfl, S, rfl, ⟨_, SqT.of T12.L.set⟩, fun D4 hD4 => lc_it walk_tup (PvA H12 D4 fun j => ((ns.take j).filter fun x => decide (((i : Nat) : Int) < ds.getD x.toNat 0)).map V.int) (PvA.zero hD4 rfl) (fun _ _ _ u => Same.seqT u.1 (SqT.of T12.L.set)) (fun j y H13 H14 hj u z => ?_) (fun H13 u => ?_)⟩
    · obtain ⟨rfl, hy⟩ := z
      have hj' : j < ns.length := by rw [List.length_map] at hj; exact hj
      have hy := getD_map hy
      subst hy
      have hg := getD_some hj'
      refine ⟨rfl, _, rfl, _, rfl, Dd, _, _, _, rfl, rfl, u.1.seq (SqL.of T12.dl), day_at hv hg, _, rfl, _, _, rfl, rfl, _, rfl, ?_⟩
      by_cases hle : ((i : Nat) : Int) < ds.getD (ns.getD j 0).toNat 0
      · rw [decide_eq_true hle]
        refine iteT ⟨_, rfl, u.next hD4 (Same.refl _) (by rw [filter_yes hg (decide_eq_true hle), List.map_append]; rfl) ?_⟩
        rw [List.length_map]
        have := List.length_filter_le (fun x => decide (((i : Nat) : Int) < ds.getD x.toNat 0)) (ns.take j)
        rw [List.length_take] at this
        omega
      · rw [decide_eq_false hle]
        exact iteF (u.skip (Same.refl _) (by rw [filter_no hg (decide_eq_false hle)]))
    have u2 : H13 D4 = some (.lst ((ns.filter fun x => decide (((i : Nat) : Int) < ds.getD x.toNat 0)).map V.int)) := by
      have z := u.2
      dsimp only at z
      rw [List.length_map, List.take_length] at z
      exact z
    exact ⟨D4, _, rfl, .inl (SqL.of u2), _, _, rfl, rfl, v.next hD1 u.1 (takeMap _ _ i (by rw [List.getElem?_range hi])) (by rw [List.length_take]; omega)⟩
  have v2 := v.2
  dsimp only at v2
  rw [List.take_of_length_le (by rw [List.length_map, List.length_range]; omega)] at v2
  refine ⟨D1, (List.range (n + 1)).map fun t => ((t : Nat) : Int) + ((((ns.filter fun x => decide (((t : Nat) : Int) < ds.getD x.toNat 0)).map V.int).length : Nat) : Int), rfl, SqL.of (by rw [v2, List.map_map]; rfl), by rw [List.length_map, List.length_range]; omega, fun m hm hle => ?_⟩
  have em : workRank (daysOf ds ns) = m := by
    refine workRank_min (n := n) (by unfold daysOf; rw [List.length_map]; exact hlen) ?_ ?_
    · obtain ⟨t, ht, e⟩ := List.mem_map.mp hm
      refine ⟨t, by have := List.mem_range.mp ht; omega, ?_⟩
      rw [← e, List.length_map, later_len]
    · intro t ht
      have := hle _ (List.mem_map.mpr ⟨t, List.mem_range.mpr (by omega), rfl⟩)
      rw [List.length_map, later_len] at this
      exact this
  have T11 := T10.same v.1
  have hA11 := WorksAt.same v.1 hA10
  have s11 : Same H H11 := s10.trans v.1
  obtain ⟨dx11, t11, c11, a1, a2⟩ := id hA11
  have nR : (fsW ds.length t11 c11).lookup ("rank" : Str) = none := lookNe (by decide +kernel) (lookNe (by decide +kernel) (lookNe (by decide +kernel) lookNil))
  have nF : (fsW ds.length t11 c11).lookup ("is_free" : Str) = none := lookNe (by decide +kernel) (lookNe (by decide +kernel) (lookNe (by decide +kernel) lookNil))
  have pre11 : WorksPre C H11 x ds.length (fun ns => workRank (daysOf ds ns)) := ⟨ds, hA11, rfl, by omega, rfl⟩
  refine ⟨_, rfl, x, dx11, _, rfl, a1, nR, _, rfl, x, S, ds.length, _, ns, rfl, pre11, .inr (SqT.of T11.L.set), hv, by omega, fun H12 sm12 => ?_⟩
  have T12 := T11.same sm12
  have a12 := sm12 _ _ a1
  refine ⟨_, rfl, _, rfl, rfl, _, rfl, iteNS (congrArg V.int em) ?_⟩
  refine ⟨_, rfl, .int _, .ty "int", .type "int", .type "int", true, rfl, .ty "int", .base (.int _), kit_ty (by decide +kernel), _, rfl, iteF ?_⟩
  refine ⟨_, rfl, .int _, .ty "bool", .type "int", .type "bool", false, rfl, .ty "bool", .base (.int _), kit_ty (by decide +kernel), _, rfl, iteF ?_⟩
  -- is_free
  refine ⟨_, rfl, x, dx11, _, rfl, a12, nF, _, rfl, S, _, rfl, .inr (SqT.of T12.L.set), fun l hl => ?_⟩
  have sl := Same.new (o := .lst (ns.map V.int)) (Same.refl H12) hl
  refine ⟨x, l, ds.length, _, ns, rfl, (worksPre C).same _ _ _ _ _ (sm12.trans sl) pre11, .inl (SqL.of upd_same), hv, by omega, fun H14 sm14 => ?_⟩
  have s14 : Same H11 H14 := sm12.trans (sl.trans sm14)
  have T14 := T11.same s14
  refine ⟨_, rfl, _, _, rfl, rfl, _, rfl, (by show -(2 ^ 62) ≤ ((n : Nat) : Int) + 1; omega), (by show ((n : Nat) : Int) + 1 < 2 ^ 62; omega), fun D6 hD6 => lc_it walk_range (PvA H14 D6 fun i => (bitsTo (ds.length + 1) fun t => decide ((((early ds ns (t : Nat)).map V.int).length : Int) ≤ (t : Nat))).take i) (PvA.zero hD6 rfl) (fun _ _ _ _ => trivial) (fun i x' H15 H16 hi v y => ?_) (fun H15 v => ?_)⟩
  · obtain ⟨rfl, hx'⟩ := y
    have hx' : x' = V.int (i : Nat) := hx'.trans (congrArg V.int (Int.zero_add _))
    subst hx'
    have hi : i < ds.length + 1 := by
      have : i < (((n : Nat) : Int) + 1).toNat := hi
      omega
    have T16 := T14.same v.1
    refine ⟨rfl, _, rfl, S, rfl, ⟨_, SqT.of T16.L.set⟩, fun D4 hD4 => lc_it walk_tup (PvA H16 D4 fun j => ((ns.take j).filter fun x => decide (ds.getD x.toNat 0 ≤ ((i : Nat) : Int))).map V.int) (PvA.zero hD4 rfl) (fun _ _ _ u => Same.seqT u.1 (SqT.of T16.L.set)) (fun j y H17 H18 hj u z => ?_) (fun H17 u => ?_)⟩
    · obtain ⟨rfl, hy⟩ := z
      have hj' : j < ns.length := by rw [List.length_map] at hj; exact hj
      have hy := getD_map hy
      subst hy
      have hg := getD_some hj'
      refine ⟨rfl, _, rfl, _, rfl, Dd, _, _, _, rfl, rfl, u.1.seq (SqL.of T16.dl), day_at hv hg, _, rfl, _, _, rfl, rfl, _, rfl, ?_⟩
      by_cases hle : ds.getD (ns.getD j 0).toNat 0 ≤ ((i : Nat) : Int)
      · rw [decide_eq_true hle]
        refine iteT ⟨_, rfl, u.next hD4 (Same.refl _) (by rw [filter_yes hg (decide_eq_true hle), List.map_append]; rfl) ?_⟩
        rw [List.length_map]
        have := List.length_filter_le (fun x => decide (ds.getD x.toNat 0 ≤ ((i : Nat) : Int))) (ns.take j)
        rw [List.length_take] at this
        omega
      · rw [decide_eq_false hle]
        exact iteF (u.skip (Same.refl _) (by rw [filter_no hg (decide_eq_false hle)]))
    have u2 : H17 D4 = some (.lst ((early ds ns (i : Nat)).map V.int)) := by
      have z := u.2
      dsimp only at z
      rw [List.length_map, List.take_length] at z
      exact z
    exact ⟨D4, _, rfl, .inl (SqL.of u2), _, rfl, _, _, rfl, rfl, v.next hD6 u.1 (bitsTo_next hi) (by rw [List.length_take]; omega)⟩
  have v2 := v.2
  dsimp only at v2
  rw [bitsTo_all (by show ds.length + 1 ≤ (((n : Nat) : Int) + 1).toNat; omega)] at v2
  refine ⟨D6, _, rfl, SqL.of v2, rfl, _, rfl, iteNS (congrArg V.bl ?_) ?_⟩
  · rw [Bool.eq_iff_iff, decide_eq_true_iff]
    exact (freeAll (by omega)).symm
  have s15 : Same H11 H15 := s14.trans v.1
  exact q2 p S Dd x n ns ds _ _ _ _ _ Q H15 (T11.same s15) (WorksAt.same s15 hA11) fun H' e hp => kQ H' ((SameBut.of (s11.trans s15)).trans e) hp
end
end K03
namespace K03
open PySem PySem.Spec PyProof.Rows L2 Sup
open PySem.W (Frag)
section
variable {P : Program} {w : World} {K : Frag} {mg : Str → Option Value} {base : Heap} {f fD C fI fR fF CE fE CP fT fN : Addr} {fd fdD fdI fdR fdF fdT fdN : FuncData} {cdv : Value} {A : Around} {outer : List Env} {s : Shared} {H0 : Hp} {E : XK}
theorem ok_worksHold (F : Fun K "_law_works_hold" "_law_works_hold" sWo f fd) (D : FnT P w K mg base CX0 2 "_law_draw" fD fdD ["_law_pool_here", "_law_many"] spDraw) (M : ClT P w K mg base "Works" C fI fdI ["self", "days"] (spWorksInit K C CE)) (nD : NoAttr K C "days") (R : MtT P w K mg base 5 C "rank" fR fdR ["self", "things"] (spRank K C (WorksPre C))) (Fr : MtT P w K mg base 5 C "is_free" fF fdF ["self", "things"] (spIsFree K C (WorksPre C))) (TT : FnT P w K mg base CX0 7 "_law_timetable_holds" fT fdT ["_law_made", "_law_days", "_law_things"] (spTTHolds K C)) (NS : FnT P w K mg base CX0 7 "_law_no_set_place" fN fdN ["_law_made", "_law_row"] (spNoSet K C)) (TE : ErrT K mg "BadEntry" "place" CE fE) (NP : ErrN K mg "PricesError" CP) (s1 : Sb K CE CP true) (s2 : Sb K CE CE true) (B : Bt mg) :
    FnOk P w K mg base CX0 8 f fd ["_law_pool_here", "_law_size", "_law_some"] spHold := by
  refine F.ok scWo (fun vs H Q E h => ?_) (fun cdv A outer s H vs Q E hr h => ?_)
  · obtain ⟨p, S, n, ns, rfl, _⟩ := h
    rfl
  obtain ⟨p, S, n, ns, rfl, hL, kQ⟩ := h
  obtain ⟨t1, h1, q1⟩ := wo1 (H0 := H) (outer := outer) (E := E) hr D M nD R Fr TT NS TE NP s1 s2 B
  have hr2 : Room 2 _ := hr.mono (by decide)
  refine ⟨_, pss_cons (ps_set (i := 3) scWo.nd rfl (Or.inr rfl) (pe_ix ix_list (pe_lst (pa_cons pe_int (pa_cons (pe_op op_add (pv 1) pe_int) (pa_cons pe_int (pa_cons pe_int pa_nil))))) (pe_call D.ok hr2 rfl D.g D.kp D.b .nil pass0 (pa_cons (pv 0) (pa_cons pe_int pa_nil))) (fun _ _ => rfl)))
      (pss_cons (ps_set (i := 4) scWo.nd rfl (Or.inr rfl) (pe_ix ix_list (pe_lst (pa_cons pe_int (pa_cons pe_int pa_nil))) (pe_call D.ok hr2 rfl D.g D.kp D.b .nil pass0 (pa_cons (pv 0) (pa_cons pe_int pa_nil))) (fun _ _ => rfl)))
      (pss_cons (ps_set (i := 6) scWo.nd rfl (Or.inr rfl) (pe_lc (own := [("_law_x", 5)]) (g := gName 5) (tt := tYes) rfl scWo.nd (pi_range1 rfl B.rng (pa_cons (pv 1) pa_nil)) (blkOk_by (N := nWo) (sc := defScope sWo) (by decide +kernel)) (fun _ _ _ _ _ => pg_name (i := 5) scWo.nd rfl (Or.inl rfl)) (fun _ _ _ _ _ => pts_nil) (fun _ _ _ _ _ => pe_op op_add (pv 4) (pe_call D.ok hr2 rfl D.g D.kp D.b .nil pass0 (pa_cons (pv 0) (pa_cons (pv 3) pa_nil))))))
      h1)), ?_⟩
  have hn16 := hL.n16
  refine ⟨_, rfl, _, _, rfl, rfl, (by show 4 ≤ sizeLine; decide), fun l1 hl1 => ?_⟩
  have sl1 := Same.new (o := .lst [V.int 3, V.int (((n : Nat) : Int) + 2), V.int 2, V.int 5]) (Same.refl H) hl1
  refine ⟨_, rfl, p, 4, rfl, hL.pool.same sl1, by decide, by decide, fun H1 j sb1 hp1 j0 j1 => ?_⟩
  obtain ⟨j, rfl, j1⟩ := nat_of j0 j1
  obtain ⟨lim, hat, hm0, hm1⟩ : ∃ lim : Int, atI [V.int 3, V.int (((n : Nat) : Int) + 2), V.int 2, V.int 5] ((j : Nat) : Int) = some (.int lim) ∧ 0 < lim ∧ lim < 1073741824 := by
    have hj : j = 0 ∨ j = 1 ∨ j = 2 ∨ j = 3 := by omega
    rcases hj with rfl | rfl | rfl | rfl
    · exact ⟨_, rfl, by decide, by decide⟩
    · exact ⟨_, rfl, by omega, by omega⟩
    · exact ⟨_, rfl, by decide, by decide⟩
    · exact ⟨_, rfl, by decide, by decide⟩
  refine ⟨l1, _, _, _, rfl, rfl, SqL.of (sb1 _ _ (pool_some hL.pool hl1) upd_same), hat, ?_⟩
  have sb1' : SameBut p H H1 := (SameBut.of sl1).trans sb1
  have L1 := hL.draw sb1' hp1
  refine ⟨(by show 2 ≤ sizeLine; decide), fun l2 hl2 => ?_⟩
  have sl2 := Same.new (o := .lst [V.int 1, V.int 0]) (Same.refl H1) hl2
  refine ⟨_, rfl, p, 2, rfl, L1.pool.same sl2, by decide, by decide, fun H2 j sb2 hp2 j0 j1 => ?_⟩
  obtain ⟨j, rfl, j1⟩ := nat_of j0 j1
  obtain ⟨sh, hat2, hs0⟩ : ∃ sh : Int, atI [V.int 1, V.int 0] ((j : Nat) : Int) = some (.int sh) ∧ 0 ≤ sh := by
    have hj : j = 0 ∨ j = 1 := by omega
    rcases hj with rfl | rfl
    · exact ⟨_, rfl, by decide⟩
    · exact ⟨_, rfl, by decide⟩
  refine ⟨l2, _, _, _, rfl, rfl, SqL.of (sb2 _ _ (pool_some L1.pool hl2) upd_same), hat2, ?_⟩
  have sb2' : SameBut p H1 H2 := (SameBut.of sl2).trans sb2
  have L2 := L1.draw sb2' hp2
  refine ⟨_, rfl, _, rfl, by omega, by omega, fun Dd hD => lc_it walk_range (PvD p H2 Dd fun x => 0 ≤ x) (PvD.zero hD L2.pool) (fun _ _ _ _ => trivial) (fun i x H3 H4 hi v y => ?_) (fun H5 v => ?_)⟩
  · obtain ⟨rfl, _⟩ := y
    refine ⟨rfl, _, rfl, _, rfl, _, rfl, p, lim, rfl, v.2.1, hm0, hm1, fun H6 c sb hp c0 c1 => ⟨_, _, rfl, rfl, ?_⟩⟩
    exact PvD.next (x := sh + c) hD L2.pool v sb hp rfl (by omega) (by omega)
  obtain ⟨v1, v2, ds, v3, v4, v5⟩ := v
  have T : WAt H5 p S Dd n ns ds := ⟨L2.draw v1 v2, v5, by omega, v4⟩
  exact q1 p S Dd n ns ds _ _ Q H5 T fun H' e hp => kQ H' (sb1'.trans (sb2'.trans (v1.trans e))) hp
end
end K03
namespace K03
open PySem PySem.Spec PyProof.Rows L2 Sup
open PySem.W (Frag)
abbrev sLaw : Stmt := top 31
/-! ### law -/
def spLaw (K : Frag) : Sp := fun vs H Q _ => ∃ (a : Addr) (ns : List Int), vs = [.ref a] ∧ SqL K H a (ns.map V.int) ∧ ns.length ≤ 63 ∧ ∀ H', Q (.bl true) H'
def nLaw : List Str := ["_law_script", "_law_pool_here", "_law_size", "_law_marks", "_law_some", "_law_x"]
theorem scLaw : FnScope ["_law_script", "_law_pool_here", "_law_size", "_law_marks", "_law_some", "_law_x"] ["_law_script"] (defScope sLaw) := ⟨rfl, rfl, rfl, by decide +kernel, rfl, by decide +kernel, by decide +kernel⟩
/-- the things that are marked -/
def marked (ms : List Int) (i : Nat) : List Int := ((List.range i).filter fun j => decide (ms.getD j 0 = 1)).map fun j => ((j : Nat) : Int)
theorem marked_yes {ms : List Int} {i : Nat} (h : ms.getD i 0 = 1) : marked ms (i + 1) = marked ms i ++ [((i : Nat) : Int)] := by
  unfold marked
  rw [List.range_succ, List.filter_append, List.filter_cons, decide_eq_true h, List.map_append] <;> rfl
theorem marked_no {ms : List Int} {i : Nat} (h : ¬ ms.getD i 0 = 1) : marked ms (i + 1) = marked ms i := by
  unfold marked
  rw [List.range_succ, List.filter_append, List.filter_cons, decide_eq_false h]
  simp
theorem marked_in {ms : List Int} {i : Nat} : ∀ x ∈ marked ms i, 0 ≤ x ∧ x < (i : Int) := fun x hx => by
  unfold marked at hx
  obtain ⟨j, hj, rfl⟩ := List.mem_map.mp hx
  have := List.mem_range.mp (List.mem_filter.mp hj).1
  exact ⟨by omega, by omega⟩
theorem marked_asc {ms : List Int} {i : Nat} : (marked ms i).Pairwise (· < ·) := by
  unfold marked
  rw [List.pairwise_map]
  exact ((List.pairwise_lt_range (n := i)).sublist List.filter_sublist).imp fun h => by omega
theorem marked_len {ms : List Int} {i : Nat} : (marked ms i).length ≤ i := by
  unfold marked
  rw [List.length_map]
  have := List.length_filter_le (fun j => decide (ms.getD j 0 = 1)) (List.range i)
  rw [List.length_range] at this
  exact this
section
variable {P : Program} {w : World} {K : Frag} {mg : Str → Option Value} {base : Heap} {f fP fD fG fF fT fW : Addr} {fd fdP fdD fdG fdF fdT fdW : FuncData}
theorem ok_law (F : Fun K "law" "law" sLaw f fd) (Pl : FnT P w K mg base CX0 1 "_law_pool" fP fdP ["_law_script"] (spPool K)) (D : FnT P w K mg base CX0 2 "_law_draw" fD fdD ["_law_pool_here", "_law_many"] spDraw) (Dg : FnT P w K mg base CX0 1 "_law_digits" fG fdG ["_law_number", "_law_base", "_law_many"] spDigits)
    (Fi : FnT P w K mg base CX0 7 "_law_firsts_hold" fF fdF ["_law_pool_here", "_law_size", "_law_some"] spHold) (Te : FnT P w K mg base CX0 7 "_law_teams_hold" fT fdT ["_law_pool_here", "_law_size", "_law_some"] spHold) (Wo : FnT P w K mg base CX0 8 "_law_works_hold" fW fdW ["_law_pool_here", "_law_size", "_law_some"] spHold) (B : Bt mg) :
    FnOk P w K mg base CX0 9 f fd ["_law_script"] (spLaw K) := by
  refine F.ok scLaw (fun vs H Q E h => ?_) (fun cdv A outer s H vs Q E hr h => ?_)
  · obtain ⟨a, ns, rfl, _⟩ := h
    rfl
  obtain ⟨a, ns, rfl, hS, hl, kQ⟩ := h
  have hr1 : Room 1 _ := hr.mono (by decide)
  have hr2 : Room 2 _ := hr.mono (by decide)
  have hr7 : Room 7 _ := hr.mono (by decide)
  refine ⟨_, pss_cons (ps_set (i := 1) scLaw.nd rfl (Or.inl rfl) (pe_call Pl.ok hr1 rfl Pl.g Pl.kp Pl.b .nil pass0 (pa_cons (pv 0) pa_nil)))
    (pss_cons (ps_set (i := 2) scLaw.nd rfl (Or.inl rfl) (pe_ix ix_list (pe_lst (pa_cons pe_int (pa_cons pe_int (pa_cons pe_int (pa_cons pe_int (pa_cons pe_int (pa_cons pe_int (pa_cons pe_int (pa_cons pe_int (pa_cons pe_int (pa_cons pe_int pa_nil)))))))))))
      (pe_call D.ok hr2 rfl D.g D.kp D.b .nil pass0 (pa_cons (pv 1) (pa_cons pe_int pa_nil))) (fun _ _ => rfl)))
    (pss_cons (ps_set (i := 3) scLaw.nd rfl (Or.inr rfl) (pe_call Dg.ok hr1 rfl Dg.g Dg.kp Dg.b .nil pass0 (pa_cons (pe_call D.ok hr2 rfl D.g D.kp D.b .nil pass0 (pa_cons (pv 1) (pa_cons pe_int pa_nil))) (pa_cons pe_int (pa_cons (pv 2) pa_nil)))))
    (pss_cons (ps_set (i := 4) scLaw.nd rfl (Or.inl rfl) (pe_tupleOf rfl B.tup (pe_lc (own := [("_law_x", 5)]) (g := gName 5) rfl scLaw.nd (pi_range1 rfl B.rng (pa_cons (pv 2) pa_nil)) (blkOk_by (N := nLaw) (sc := defScope sLaw) (by decide +kernel)) (fun _ _ _ _ _ => pg_name (i := 5) scLaw.nd rfl (Or.inl rfl))
      (fun _ _ _ _ _ => pts_one (pt_cmpR op_eq (pe_ix (ixt_at K rfl) (pv 3) (pv 5) (fun _ _ => rfl)) pe_int (nomark _))) (fun _ _ _ _ _ => pv 5))))
    (pss_cons (ps_if (PW.pt (pw_or (pt_not (pt_val (pe_call Fi.ok hr7 rfl Fi.g Fi.kp Fi.b .nil pass0 (pa_cons (pv 1) (pa_cons (pv 2) (pa_cons (pv 4) pa_nil)))))) (pw_or1 (pt_not (pt_val (pe_call Te.ok hr7 rfl Te.g Te.kp Te.b .nil pass0 (pa_cons (pv 1) (pa_cons (pv 2) (pa_cons (pv 4) pa_nil))))))))) (pss_one (ps_ret pe_bl)) pss_nil)
    (pss_one (ps_ret (pe_call Wo.ok hr rfl Wo.g Wo.kp Wo.b .nil pass0 (pa_cons (pv 1) (pa_cons (pv 2) (pa_cons (pv 4) pa_nil)))))))))), ?_⟩
  refine ⟨_, rfl, a, ns, rfl, hS, hl, fun H1 p sm1 hp1 => ?_⟩
  refine ⟨(by show 10 ≤ sizeLine; decide), fun l hl => ?_⟩
  have sl := Same.new (o := .lst [V.int 0, V.int 4, V.int 3, V.int 5, V.int 6, V.int 2, V.int 7, V.int 1, V.int 10, V.int 16]) (Same.refl H1) hl
  refine ⟨_, rfl, p, 10, rfl, hp1.same sl, by decide, by decide, fun H2 j sb2 hp2 j0 j1 => ?_⟩
  obtain ⟨j, rfl, j1⟩ := nat_of j0 j1
  obtain ⟨n, hat, hn⟩ : ∃ n : Nat, atI [V.int 0, V.int 4, V.int 3, V.int 5, V.int 6, V.int 2, V.int 7, V.int 1, V.int 10, V.int 16] ((j : Nat) : Int) = some (.int (n : Nat)) ∧ n ≤ 16 := by
    have hj : j = 0 ∨ j = 1 ∨ j = 2 ∨ j = 3 ∨ j = 4 ∨ j = 5 ∨ j = 6 ∨ j = 7 ∨ j = 8 ∨ j = 9 := by omega
    rcases hj with rfl | rfl | rfl | rfl | rfl | rfl | rfl | rfl | rfl | rfl
    · exact ⟨0, rfl, by decide⟩
    · exact ⟨4, rfl, by decide⟩
    · exact ⟨3, rfl, by decide⟩
    · exact ⟨5, rfl, by decide⟩
    · exact ⟨6, rfl, by decide⟩
    · exact ⟨2, rfl, by decide⟩
    · exact ⟨7, rfl, by decide⟩
    · exact ⟨1, rfl, by decide⟩
    · exact ⟨10, rfl, by decide⟩
    · exact ⟨16, rfl, by decide⟩
  refine ⟨l, _, _, _, rfl, rfl, SqL.of (sb2 _ _ (pool_some hp1 hl) upd_same), hat, ?_⟩
  refine ⟨_, rfl, p, 65536, rfl, hp2, by decide, by decide, fun H3 m sb3 hp3 m0 m1 => ?_⟩
  refine ⟨_, rfl, m, 2, n, rfl, by decide, by decide, by omega, fun H4 t ms sm4 ht hml => ?_⟩
  have hp4 := hp3.same sm4
  refine ⟨_, rfl, _, rfl, by omega, by omega, fun Dl hD => lc_it walk_range (PvA H4 Dl fun i => (marked ms i).map V.int) (PvA.zero hD rfl) (fun _ _ _ _ => trivial) (fun i x H5 H6 hi v y => ?_) (fun H5 v => ?_)⟩
  · obtain ⟨rfl, hx⟩ := y
    have hx : x = V.int (i : Nat) := hx.trans (congrArg V.int (Int.zero_add _))
    subst hx
    have hi : i < ms.length := by omega
    refine ⟨rfl, _, rfl, _, rfl, t, _, _, _, rfl, rfl, SqT.of (v.1 _ _ ht), atI_nat (map_at hi), rfl, _, rfl, ?_⟩
    rw [dInt]
    have ml := marked_len (ms := ms) (i := i)
    by_cases hm : ms.getD i 0 = 1
    · rw [decide_eq_true hm]
      exact iteT ⟨_, rfl, v.next hD (Same.refl _) (by rw [marked_yes hm, List.map_append]; rfl) (by rw [List.length_map]; omega)⟩
    · rw [decide_eq_false hm]
      exact iteF (v.skip (Same.refl _) (by rw [marked_no hm]))
  have v2 := v.2
  dsimp only at v2
  rw [Int.toNat_natCast] at v2
  refine .inl ⟨Dl, _, rfl, SqL.of v2, fun S hS => ?_⟩
  have s5 : Same H4 (upd H5 S (.tup ((marked ms n).map V.int))) := Same.new v.1 hS
  have L : LawAt (upd H5 S (.tup ((marked ms n).map V.int))) p S n (marked ms n) := ⟨hp4.same s5, upd_same, valid_of marked_in marked_asc, marked_asc, marked_len, hn⟩
  refine ⟨_, rfl, _, rfl, _, rfl, p, S, n, _, rfl, L, fun H6 sb6 hp6 => ⟨_, rfl, iteF ?_⟩⟩
  have L6 := L.draw sb6 hp6
  refine ⟨_, rfl, _, rfl, _, rfl, p, S, n, _, rfl, L6, fun H7 sb7 hp7 => ⟨_, rfl, iteF ?_⟩⟩
  have L7 := L6.draw sb7 hp7
  exact ⟨_, rfl, _, rfl, _, rfl, p, S, n, _, rfl, L7, fun H8 _ _ => kQ H8⟩
end
end K03
namespace K03
open PySem PySem.Spec PyProof.Rows L2 Sup
open PySem.W (Frag ksFn)
/-! ### facts of the written part -/
/-- a def of the module -/
structure NF (K : Frag) (mg : Str → Option Value) (nm : Str) (st : Stmt) (f : Addr) (fd : FuncData) : Prop where
  g : mg nm = some (.ref f)
  F : Fun K nm nm st f fd
theorem nf_mk {K : Frag} {h : Heap} {mg : Str → Option Value} (X : K.In h) (G : h.Ns mainGlobals mg) (nm : Str) (st : Stmt) {f : Addr} {oc : Value} {od an : Option Addr} {osl : Array (Option Value)} {kV doc pm cdv ct : Value}
    (a : PySem.W.nsIn K mainGlobals nm = some (some (.ref f))) (l : K.lookup f = some ⟨oc, od, .func (PySem.W.fnOf nm nm (defArgs st) (defBody st) (defScope st) .none kV doc pm an cdv ct), osl⟩)
    (c : PySem.W.codeIn K cdv nm = true) (k : PySem.W.keepIn K (.ref f) = true) : ∃ f fd, NF K mg nm st f fd := ⟨_, _, PySem.W.mg_of X G a, fun_mk l c k⟩
/-- a method's function -/
theorem mf_mk {K : Frag} {C f : Addr} {m : Str} (M : Meth K C m f) (x qual : Str) (st : Stmt) {oc : Value} {od an : Option Addr} {osl : Array (Option Value)} {kV doc pm cdv ct : Value}
    (l : K.lookup f = some ⟨oc, od, .func (PySem.W.fnOf x qual (defArgs st) (defBody st) (defScope st) .none kV doc pm an cdv ct), osl⟩)
    (c : PySem.W.codeIn K cdv qual = true) (k : PySem.W.keepIn K (.ref f) = true) : ∃ fd, Fun K x qual st f fd := ⟨_, fun_mk l c k⟩
theorem mi_mk {K : Frag} {C f : Addr} (M : SubT K C f) (x qual : Str) (st : Stmt) {oc : Value} {od an : Option Addr} {osl : Array (Option Value)} {kV doc pm cdv ct : Value}
    (l : K.lookup f = some ⟨oc, od, .func (PySem.W.fnOf x qual (defArgs st) (defBody st) (defScope st) .none kV doc pm an cdv ct), osl⟩)
    (c : PySem.W.codeIn K cdv qual = true) (k : PySem.W.keepIn K (.ref f) = true) : ∃ fd, Fun K x qual st f fd := ⟨_, fun_mk l c k⟩
/-- a def that says super() -/
theorem sf_mk {P : Program} {K : Frag} {f D : Addr} (qual : Str) (st : Stmt) {oc cl ccl : Value} {od an cld cdd : Option Addr} {osl csl ccs : Array (Option Value)} {kV doc pm ct : Value} {cda cc : Addr} {vs : Array Value} {file : Str} {tf : Tok} {cdD : ClassData}
    (l : K.lookup f = some ⟨oc, od, .func (ksFn "__init__" qual (defArgs st) (defBody st) (defScope st) .none kV doc pm an (.ref cda) ct cc), osl⟩) (c : PySem.W.codeIn K (.ref cda) qual = true)
    (lc : K.lookup cda = some ⟨ccl, cdd, .fields vs, ccs⟩) (hv : vs[2]? = some (.str file tf)) (hf : ((P.main.file : Str) == file) = true)
    (hc : K.lookup cc = some ⟨cl, cld, .cell (some (.ref D)), csl⟩) (hD : PySem.W.clsIn K D = some cdD) (opq : PySem.W.nsIn K cStatics "thirdparty.any" = some none) : ∃ fd cc, SFun P K "__init__" qual st f fd cc D :=
  ⟨_, cc, ⟨_, _, _, _, _, _, _, _, _, rfl, l, c, cda, ccl, cdd, vs, ccs, file, tf, rfl, lc, hv, hf⟩, ⟨_, _, _, _, hc, hD⟩, opq⟩
theorem sr_mk (P : Program) {K : Frag} {f D : Addr} (M : Mk K D f) (qual : Str) (st : Stmt) {oc cl ccl : Value} {od an cld cdd : Option Addr} {osl csl ccs : Array (Option Value)} {kV doc pm ct : Value} {cda cc : Addr} {vs : Array Value} {file : Str} {tf : Tok} {cdD : ClassData}
    (l : K.lookup f = some ⟨oc, od, .func (ksFn "__init__" qual (defArgs st) (defBody st) (defScope st) .none kV doc pm an (.ref cda) ct cc), osl⟩) (c : PySem.W.codeIn K (.ref cda) qual = true)
    (lc : K.lookup cda = some ⟨ccl, cdd, .fields vs, ccs⟩) (hv : vs[2]? = some (.str file tf)) (hf : ((P.main.file : Str) == file) = true)
    (hc : K.lookup cc = some ⟨cl, cld, .cell (some (.ref D)), csl⟩) (hD : PySem.W.clsIn K D = some cdD) (opq : PySem.W.nsIn K cStatics "thirdparty.any" = some none) : ∃ fd cc, SFun P K "__init__" qual st f fd cc D :=
  sf_mk qual st l c lc hv hf hc hD opq
theorem se_mk (P : Program) {K : Frag} {mg : Str → Option Value} {nm fld : Str} {f D : Addr} (M : ErrT K mg nm fld D f) (qual : Str) (st : Stmt) {oc cl ccl : Value} {od an cld cdd : Option Addr} {osl csl ccs : Array (Option Value)} {kV doc pm ct : Value} {cda cc : Addr} {vs : Array Value} {file : Str} {tf : Tok} {cdD : ClassData}
    (l : K.lookup f = some ⟨oc, od, .func (ksFn "__init__" qual (defArgs st) (defBody st) (defScope st) .none kV doc pm an (.ref cda) ct cc), osl⟩) (c : PySem.W.codeIn K (.ref cda) qual = true)
    (lc : K.lookup cda = some ⟨ccl, cdd, .fields vs, ccs⟩) (hv : vs[2]? = some (.str file tf)) (hf : ((P.main.file : Str) == file) = true)
    (hc : K.lookup cc = some ⟨cl, cld, .cell (some (.ref D)), csl⟩) (hD : PySem.W.clsIn K D = some cdD) (opq : PySem.W.nsIn K cStatics "thirdparty.any" = some none) : ∃ fd cc, SFun P K "__init__" qual st f fd cc D :=
  sf_mk qual st l c lc hv hf hc hD opq
theorem sb_mk {K : Frag} {mg : Str → Option Value} {n1 n2 fld : Str} {C f D : Addr} {b : Bool} (T : ErrT K mg n1 fld C f) (N : ErrN K mg n2 D) (h : PySem.W.subIn K (.ref C) (.ref D) = some b) : Sb K C D b := h
theorem sb_self {K : Frag} {mg : Str → Option Value} {n1 fld : Str} {C f : Addr} (T : ErrT K mg n1 fld C f) (h : PySem.W.subIn K (.ref C) (.ref C) = some true) : Sb K C C true := h
theorem exm_same {K : Frag} {S : Addr} (h1 : PySem.W.subIn K (.ref S) (.type "BaseException") = some true) (h2 : PySem.W.isClsIn K S = true) (h3 : PySem.W.typeIn K (.ref S) = some (.type "type")) (h4 : PySem.W.subIn K (.ref S) (.ref S) = some true) :
    PySem.W.exmOne K (.ref S) (.ref S) = some true := by
  have c : (PySem.W.clsIn K S).isSome = true := h2
  have both : ((PySem.W.clsIn K S).isSome && PySem.W.typeIn K (.ref S) == some (.type "type")) = true := by
    rw [c, h3]
    rfl
  unfold PySem.W.exmOne
  rw [h1, if_pos (by rfl)]
  exact (if_pos both).trans h4
/-- an own error's class -/
theorem et_mk {K : Frag} {h : Heap} {mg : Str → Option Value} (X : K.In h) (G : h.Ns mainGlobals mg) (nm fld : Str) {C f : Addr} {n q : Str} {N : Addr} {bs bm : List Value} {sn : List Str} {sub : List Value} {ab : Bool} {col : Option Bool} {dd : Option Addr} {m0 m1 m2 m3 m5 : Option Value}
    (a : PySem.W.nsIn K mainGlobals nm = some (some (.ref C))) (xL : K.lookup C = some (excClassObj n q C N bs bm true sn sub ab col dd m0 m1 m2 m3 m5 "ValueError.__new__")) (hr : PySem.HandSPX.refsVE bm = true)
    (sa : PySem.W.findIn K (.ref C) "__setattr__" = some (some (.builtin "object.__setattr__"))) (exC : PySem.W.subIn K (.ref C) (.type "BaseException") = some true) (tyC : PySem.W.typeIn K (.ref C) = some (.type "type")) (kC : PySem.W.keepIn K (.ref C) = true)
    (ini : PySem.W.findIn K (.ref C) "__init__" = some (some (.ref f))) (tI : PySem.W.typeIn K (.ref f) = some (.type "function")) (noF : PySem.W.findIn K (.ref C) fld = some none) (sup : PySem.W.ks_superIn K C C "__init__" = some (some (.builtin "ValueError.__init__"))) (mro : PySem.W.mroIn K C (.ref C) = some true)
    (isV : PySem.W.subIn K (.ref C) (.type "ValueError") = some true) (hd : PySem.W.hasDictIn K C = true) (ic : PySem.W.isClsIn K C = true) (ga : PySem.W.findIn K (.ref C) "__getattribute__" = some (some (.builtin "BaseException.__getattribute__"))) (gt : PySem.W.findIn K (.ref C) "__getattr__" = some none)
    (ca : PySem.W.findIn K (.ref C) "__class__" = some (some (.builtin "object.__class__"))) (sp : PySem.W.specialIn K (.builtin "object.__class__") "__get__" = some (some (.builtin "getset_descriptor.__get__"))) (tk : PySem.W.takesIn K (.builtin "object.__class__") = some true) (mo : PySem.W.mroIn K C (.type "object") = some true)
    (ss : PySem.W.subIn K (.ref C) (.ref C) = some true) : ErrT K mg nm fld C f where
  gC := PySem.W.mg_of X G a
  oex := ⟨⟨_, _, _, _, _, _, _, _, _, _, _, _, _, _, _, xL, hr⟩, sa, exC, tyC, kC⟩
  ini := ini
  tI := tI
  noF := noF
  sup := sup
  mro := mro
  isV := isV
  hd := hd
  err := ⟨ic, ga, gt, exC, ca, sp, tk, mo⟩
  te := exm_same exC ic tyC ss
theorem en_mk {K : Frag} {h : Heap} {mg : Str → Option Value} (X : K.In h) (G : h.Ns mainGlobals mg) (nm : Str) {D : Addr} (a : PySem.W.nsIn K mainGlobals nm = some (some (.ref D))) (ic : PySem.W.isClsIn K D = true) (ty : PySem.W.typeIn K (.ref D) = some (.type "type")) : ErrN K mg nm D := ⟨PySem.W.mg_of X G a, ic, ty⟩
/-- a class of rules -/
structure RT (K : Frag) (mg : Str → Option Value) (nm : Str) (C fN fI fR fF fO : Addr) : Prop where
  g : mg nm = some (.ref C)
  T : ClsT K C
  S : SubT K C fI
  M : Mk K C fN
  R : Meth K C "rank" fR
  F : Meth K C "is_free" fF
  O : Meth K C "rank_of" fO
theorem rt_mk {K : Frag} {h : Heap} {mg : Str → Option Value} (X : K.In h) (G : h.Ns mainGlobals mg) (nm : Str) {C fN fI fR fF fO : Addr} (a : PySem.W.nsIn K mainGlobals nm = some (some (.ref C)))
    (pg : PySem.W.plainGet K C Str.empty = true) (hd : PySem.W.hasDictIn K C = true) (po : PySem.W.plainOver K C = true) (sa : PySem.W.findIn K (.ref C) "__setattr__" = some (some (.builtin "object.__setattr__"))) (n1 : PySem.W.findIn K (.ref C) "size" = some none) (n2 : PySem.W.findIn K (.ref C) "_all" = some none)
    (mro : PySem.W.mroIn K C (.ref C) = some true) (sup : PySem.W.ks_superIn K C C "__init__" = some (some (.ref fI))) (tI : PySem.W.typeIn K (.ref fI) = some (.type "function")) (fnI : PySem.W.fnIn K fI = true)
    (mk : PySem.W.makesIn K C = true) (ini : PySem.W.findIn K (.ref C) "__init__" = some (some (.ref fN))) (fnN : PySem.W.isFn K (.ref fN) = true) (kC : PySem.W.keepIn K (.ref C) = true)
    (r1 : PySem.W.findIn K (.ref C) "rank" = some (some (.ref fR))) (r2 : PySem.W.isFn K (.ref fR) = true) (r3 : PySem.W.keepIn K (.ref fR) = true)
    (i1 : PySem.W.findIn K (.ref C) "is_free" = some (some (.ref fF))) (i2 : PySem.W.isFn K (.ref fF) = true) (i3 : PySem.W.keepIn K (.ref fF) = true)
    (o1 : PySem.W.findIn K (.ref C) "rank_of" = some (some (.ref fO))) (o2 : PySem.W.isFn K (.ref fO) = true) (o3 : PySem.W.keepIn K (.ref fO) = true) : RT K mg nm C fN fI fR fF fO :=
  ⟨PySem.W.mg_of X G a, ⟨⟨pg, hd, po, sa⟩, n1, n2⟩, ⟨mro, sup, tI, fnI⟩, ⟨mk, ini, fnN, kC⟩, ⟨r1, r2, r3⟩, ⟨i1, i2, i3⟩, ⟨o1, o2, o3⟩⟩
theorem na_mk {K : Frag} {mg : Str → Option Value} {nm : Str} {C fN fI fR fF fO : Addr} (R : RT K mg nm C fN fI fR fF fO) (x : Str) (h : PySem.W.findIn K (.ref C) x = some none) : NoAttr K C x := h
theorem bt_mk {K : Frag} {h : Heap} {mg : Str → Option Value} (X : K.In h) (G : h.Ns mainGlobals mg) (z1 : PySem.W.nsIn K mainGlobals "isinstance" = some none) (z2 : PySem.W.nsIn K mainGlobals "int" = some none) (z3 : PySem.W.nsIn K mainGlobals "bool" = some none) (z4 : PySem.W.nsIn K mainGlobals "len" = some none)
    (z5 : PySem.W.nsIn K mainGlobals "tuple" = some none) (z6 : PySem.W.nsIn K mainGlobals "range" = some none) (z7 : PySem.W.nsIn K mainGlobals "enumerate" = some none) (z8 : PySem.W.nsIn K mainGlobals "min" = some none) (z9 : PySem.W.nsIn K mainGlobals "max" = some none) (z10 : PySem.W.nsIn K mainGlobals "sum" = some none)
    (z11 : PySem.W.nsIn K mainGlobals "sorted" = some none) (z12 : PySem.W.nsIn K mainGlobals "abs" = some none) (z13 : PySem.W.nsIn K mainGlobals "list" = some none) (z14 : PySem.W.nsIn K mainGlobals "all" = some none) (z15 : PySem.W.nsIn K mainGlobals "super" = some none) : Bt mg :=
  have m : ∀ {n : Str}, PySem.W.nsIn K mainGlobals n = some none → mg n = none := fun e => PySem.W.mg_none_of X G e
  ⟨m z1, m z2, m z3, m z4, m z5, m z6, m z7, m z8, m z9, m z10, m z11, m z12, m z13, m z14, m z15⟩
/-! ### everything put together -/
theorem all_mk {P : Program} {w : World} {K : Frag} {mg : Str → Option Value} {fa : Addr} (hfa : mg "law" = some (.ref fa)) (htop : (P.main.scope.names.lookup ("super" : Str)).isSome = false) (B : Bt mg)
    {fCo fBe fPl fSe fCh fTi gPo gMi gDr gDi gFi gTe gTT gNS gWo gLa : Addr} {dCo dBe dPl dSe dCh dTi ePo eMi eDr eDi eFi eTe eTT eNS eWo eLa : FuncData}
    (Co : NF K mg "is_count" sIsCount fCo dCo) (Be : NF K mg "is_below" sIsBelow fBe dBe) (Pl : NF K mg "bad_place" sBadPlace fPl dPl) (Se : NF K mg "set_of" sSetOf fSe dSe) (Ch : NF K mg "check_entries" sCheck fCh dCh) (Ti : NF K mg "timetable" sTimetable fTi dTi)
    (Po : NF K mg "_law_pool" sPool gPo ePo) (Mi : NF K mg "_law_mixed" sMixed gMi eMi) (Dr : NF K mg "_law_draw" sDraw gDr eDr) (Di : NF K mg "_law_digits" sDigits gDi eDi) (Fi : NF K mg "_law_firsts_hold" sFirstsHold gFi eFi) (Te : NF K mg "_law_teams_hold" sTeamsHold gTe eTe)
    (Th : NF K mg "_law_timetable_holds" sTT gTT eTT) (Ns : NF K mg "_law_no_set_place" sNoSet gNS eNS) (Wo : NF K mg "_law_works_hold" sWo gWo eWo) (La : NF K mg "law" sLaw gLa eLa)
    {CF CT CW nF nT nW fI fR fF oF oT oW : Addr} (RF : RT K mg "Firsts" CF nF fI fR fF oF) (RTe : RT K mg "Teams" CT nT fI fR fF oT) (RW : RT K mg "Works" CW nW fI fR fF oW)
    (aN : NoAttr K CF "number") (aC : NoAttr K CT "classes") (aP : NoAttr K CT "places") (aD : NoAttr K CW "days")
    {dI dR dF dOF dOT dOW dNF dNT dNW : FuncData} {ccF ccT ccW : Addr} (FI : Fun K "__init__" "Rule.__init__" sRuleInit fI dI) (FR : Fun K "rank" "Rule.rank" sRank fR dR) (FF : Fun K "is_free" "Rule.is_free" sIsFree fF dF)
    (OF : Fun K "rank_of" "Firsts.rank_of" sFirstsRankOf oF dOF) (OT : Fun K "rank_of" "Teams.rank_of" sTeamsRankOf oT dOT) (OW : Fun K "rank_of" "Works.rank_of" sWorksRankOf oW dOW)
    (IF : SFun P K "__init__" "Firsts.__init__" sFirstsInit nF dNF ccF CF) (IT : SFun P K "__init__" "Teams.__init__" sTeamsInit nT dNT ccT CT) (IW : SFun P K "__init__" "Works.__init__" sWorksInit nW dNW ccW CW)
    {EB ES EE EN fB fS fE fN ccB ccS ccE ccN : Addr} {dB dS dE dN : FuncData} (TB : ErrT K mg "BadNumber" "name" EB fB) (TS : ErrT K mg "BadSet" "place" ES fS) (TE : ErrT K mg "BadEntry" "place" EE fE) (TN : ErrT K mg "NotFree" "things" EN fN)
    (SB : SFun P K "__init__" "BadNumber.__init__" sBadNumber fB dB ccB EB) (SS : SFun P K "__init__" "BadSet.__init__" sBadSet fS dS ccS ES) (SE : SFun P K "__init__" "BadEntry.__init__" sBadEntry fE dE ccE EE) (SN : SFun P K "__init__" "NotFree.__init__" sNotFree fN dN ccN EN)
    {CP CL : Addr} (NP : ErrN K mg "PricesError" CP) (NE : ErrN K mg "BadEntry" EE) (NS : ErrN K mg "BadSet" ES) (NL : ErrN K mg "NotALot" CL)
    (b1 : Sb K EB CP true) (b2 : Sb K EB EE false) (b3 : Sb K EB EB true) (e1 : Sb K EE CP true) (e2 : Sb K EE EE true) (n1 : Sb K EN CP true) (n2 : Sb K EN EE false) (n3 : Sb K EN ES false) (n4 : Sb K EN CL false) (n5 : Sb K EN EN true) :
    ∃ fd : FuncData, (∀ (s : Shared) (v : Value), BindsTo s fd ⟨[v], []⟩ [("_law_script", v)]) ∧ ∀ base : Heap, K.In base → base.Ns mainGlobals mg → FnOk P w K mg base CX0 9 fa fd ["_law_script"] (spLaw K) := by
  have e := hfa.symm.trans La.g
  cases e
  obtain ⟨oc, od, kV, doc, pm, an, cdv, ct, osl, rfl, lk, hcd⟩ := La.F.ex
  refine ⟨PySem.W.fnOf "law" "law" (defArgs sLaw) (defBody sLaw) (defScope sLaw) .none kV doc pm an cdv ct, fun s v => .of_eq rfl, fun base _ _ => ?_⟩
  have bCo := Co.F.binds (ps := ["value"]) fun _ _ _ _ _ _ us hl => match us, hl with | [_], _ => rfl
  have bBe := Be.F.binds (ps := ["value", "bound"]) fun _ _ _ _ _ _ us hl => match us, hl with | [_, _], _ => rfl
  have bPl := Pl.F.binds (ps := ["size", "things"]) fun _ _ _ _ _ _ us hl => match us, hl with | [_, _], _ => rfl
  have bSe := Se.F.binds (ps := ["size", "things"]) fun _ _ _ _ _ _ us hl => match us, hl with | [_, _], _ => rfl
  have bCh := Ch.F.binds (ps := ["fits"]) fun _ _ _ _ _ _ us hl => match us, hl with | [_], _ => rfl
  have bTi := Ti.F.binds (ps := ["works", "things"]) fun _ _ _ _ _ _ us hl => match us, hl with | [_, _], _ => rfl
  have bPo := Po.F.binds (ps := ["_law_script"]) fun _ _ _ _ _ _ us hl => match us, hl with | [_], _ => rfl
  have bMi := Mi.F.binds (ps := ["_law_cell", "_law_place"]) fun _ _ _ _ _ _ us hl => match us, hl with | [_, _], _ => rfl
  have bDr := Dr.F.binds (ps := ["_law_pool_here", "_law_many"]) fun _ _ _ _ _ _ us hl => match us, hl with | [_, _], _ => rfl
  have bDi := Di.F.binds (ps := ["_law_number", "_law_base", "_law_many"]) fun _ _ _ _ _ _ us hl => match us, hl with | [_, _, _], _ => rfl
  have bFi := Fi.F.binds (ps := ["_law_pool_here", "_law_size", "_law_some"]) fun _ _ _ _ _ _ us hl => match us, hl with | [_, _, _], _ => rfl
  have bTe := Te.F.binds (ps := ["_law_pool_here", "_law_size", "_law_some"]) fun _ _ _ _ _ _ us hl => match us, hl with | [_, _, _], _ => rfl
  have bTh := Th.F.binds (ps := ["_law_made", "_law_days", "_law_things"]) fun _ _ _ _ _ _ us hl => match us, hl with | [_, _, _], _ => rfl
  have bNs := Ns.F.binds (ps := ["_law_made", "_law_row"]) fun _ _ _ _ _ _ us hl => match us, hl with | [_, _], _ => rfl
  have bWo := Wo.F.binds (ps := ["_law_pool_here", "_law_size", "_law_some"]) fun _ _ _ _ _ _ us hl => match us, hl with | [_, _, _], _ => rfl
  have bI := FI.binds (ps := ["self", "size"]) fun _ _ _ _ _ _ us hl => match us, hl with | [_, _], _ => rfl
  have bR := FR.binds (ps := ["self", "things"]) fun _ _ _ _ _ _ us hl => match us, hl with | [_, _], _ => rfl
  have bF := FF.binds (ps := ["self", "things"]) fun _ _ _ _ _ _ us hl => match us, hl with | [_, _], _ => rfl
  have bOF := OF.binds (ps := ["self", "things"]) fun _ _ _ _ _ _ us hl => match us, hl with | [_, _], _ => rfl
  have bOT := OT.binds (ps := ["self", "things"]) fun _ _ _ _ _ _ us hl => match us, hl with | [_, _], _ => rfl
  have bOW := OW.binds (ps := ["self", "things"]) fun _ _ _ _ _ _ us hl => match us, hl with | [_, _], _ => rfl
  have bIF := IF.binds (ps := ["self", "size", "k"]) fun _ _ _ _ _ _ us hl => match us, hl with | [_, _, _], _ => rfl
  have bIT := IT.binds (ps := ["self", "classes", "places"]) fun _ _ _ _ _ _ us hl => match us, hl with | [_, _, _], _ => rfl
  have bIW := IW.binds (ps := ["self", "days"]) fun _ _ _ _ _ _ us hl => match us, hl with | [_, _], _ => rfl
  have bB := SB.binds (ps := ["self", "name"]) fun _ _ _ _ _ _ us hl => match us, hl with | [_, _], _ => rfl
  have bS := SS.binds (ps := ["self", "place"]) fun _ _ _ _ _ _ us hl => match us, hl with | [_, _], _ => rfl
  have bE := SE.binds (ps := ["self", "place"]) fun _ _ _ _ _ _ us hl => match us, hl with | [_, _], _ => rfl
  have bN := SN.binds (ps := ["self", "things"]) fun _ _ _ _ _ _ us hl => match us, hl with | [_, _], _ => rfl
  have GB := ok_badNumber (w := w) (base := base) SB TB htop B.sup
  have GS := ok_badSet (w := w) (base := base) SS TS htop B.sup
  have GE := ok_badEntry (w := w) (base := base) SE TE htop B.sup
  have GN := ok_notFree (w := w) (base := base) SN TN htop B.sup
  have GCo := ok_isCount (P := P) (w := w) (base := base) Co.F B
  have GBe := ok_isBelow (P := P) (w := w) (base := base) Be.F Co.F bCo Co.g B
  have GPl := ok_badPlace (P := P) (w := w) (base := base) Pl.F Be.F bBe Be.g GBe B
  have GSe := ok_setOf (P := P) (w := w) (base := base) Se.F Pl.F bPl Pl.g GPl TS GS bS B
  have GCh := ok_check (P := P) (w := w) (base := base) Ch.F TE GE bE
  have GOF := ok_firstsRankOf (P := P) (w := w) (base := base) OF RF.T aN B
  have GOT := ok_teamsRankOf (P := P) (w := w) (base := base) OT RTe.T aC aP B
  have GOW := ok_worksRankOf (P := P) (w := w) (base := base) OW RW.T aD B
  have GIF := ok_firstsInit (base := base) IF htop RF.T RF.S aN bI (ok_ruleInit FI RF.T Co.F bCo Co.g GCo TB GB bB B) Co.F.kp bCo Co.g GCo TB GB bB B
  have GIT := ok_teamsInit (base := base) IT htop RTe.T RTe.S aC aP bI (ok_ruleInit FI RTe.T Co.F bCo Co.g GCo TB GB bB B) Be.F.kp bBe Be.g GBe Co.F.kp bCo Co.g GCo Ch.F.kp bCh Ch.g GCh B
  have GIW := ok_worksInit (base := base) IW htop RW.T RW.S aD bI (ok_ruleInit FI RW.T Co.F bCo Co.g GCo TB GB bB B) Co.F.kp bCo Co.g GCo Ch.F.kp bCh Ch.g GCh B
  have RrF := ok_rank FR RF.T Se.g Se.F.kp bSe GSe (firstsPre CF) RF.O bOF GOF B
  have RfF := ok_isFree FF RF.T Se.g Se.F.kp bSe GSe (firstsPre CF) RF.O bOF GOF B
  have RrT := ok_rank FR RTe.T Se.g Se.F.kp bSe GSe (teamsPre CT) RTe.O bOT GOT B
  have RfT := ok_isFree FF RTe.T Se.g Se.F.kp bSe GSe (teamsPre CT) RTe.O bOT GOT B
  have RrW := ok_rank FR RW.T Se.g Se.F.kp bSe GSe (worksPre CW) RW.O bOW GOW B
  have RfW := ok_isFree FF RW.T Se.g Se.F.kp bSe GSe (worksPre CW) RW.O bOW GOW B
  have GTi := ok_timetable Ti.F RW.T aD Se.g Se.F.kp bSe GSe RW.F bF RfW TN GN bN B
  have GMi := ok_mixed (P := P) (w := w) (base := base) Mi.F B
  have fD : FnT P w K mg base CX0 2 "_law_draw" gDr eDr ["_law_pool_here", "_law_many"] spDraw := ⟨Dr.g, Dr.F.kp, bDr, ok_draw Dr.F Mi.F.kp bMi Mi.g GMi B⟩
  have fPo : FnT P w K mg base CX0 1 "_law_pool" gPo ePo ["_law_script"] (spPool K) := ⟨Po.g, Po.F.kp, bPo, ok_pool Po.F B⟩
  have fDi : FnT P w K mg base CX0 1 "_law_digits" gDi eDi ["_law_number", "_law_base", "_law_many"] spDigits := ⟨Di.g, Di.F.kp, bDi, ok_digits Di.F B⟩
  have fTi : FnT P w K mg base (L2.CX P w) 6 "timetable" fTi dTi ["works", "things"] (spTimetable K CW ES EN) := ⟨Ti.g, Ti.F.kp, bTi, GTi⟩
  have cF : ClT P w K mg base "Firsts" CF nF dNF ["self", "size", "k"] (spFirstsInit CF EB) := ⟨RF.g, RF.M, bIF, GIF, RF.T⟩
  have cT : ClT P w K mg base "Teams" CT nT dNT ["self", "classes", "places"] (spTeamsInit K CT EE) := ⟨RTe.g, RTe.M, bIT, GIT, RTe.T⟩
  have cW : ClT P w K mg base "Works" CW nW dNW ["self", "days"] (spWorksInit K CW EE) := ⟨RW.g, RW.M, bIW, GIW, RW.T⟩
  have fFi : FnT P w K mg base CX0 7 "_law_firsts_hold" gFi eFi ["_law_pool_here", "_law_size", "_law_some"] spHold :=
    ⟨Fi.g, Fi.F.kp, bFi, ok_firstsHold Fi.F fD cF aN ⟨RF.R, bR, RrF⟩ ⟨RF.F, bF, RfF⟩ TB NP NE b1 b2 b3 B⟩
  have fTe : FnT P w K mg base CX0 7 "_law_teams_hold" gTe eTe ["_law_pool_here", "_law_size", "_law_some"] spHold :=
    ⟨Te.g, Te.F.kp, bTe, ok_teamsHold Te.F fD cT aC aP ⟨RTe.R, bR, RrT⟩ ⟨RTe.F, bF, RfT⟩ TE NP e1 e2 B⟩
  have fTh : FnT P w K mg base CX0 7 "_law_timetable_holds" gTT eTT ["_law_made", "_law_days", "_law_things"] (spTTHolds K CW) :=
    ⟨Th.g, Th.F.kp, bTh, ok_ttHolds Th.F fTi TN NP NE NS NL n1 n2 n3 n4 n5 B⟩
  have fNs : FnT P w K mg base CX0 7 "_law_no_set_place" gNS eNS ["_law_made", "_law_row"] (spNoSet K CW) := ⟨Ns.g, Ns.F.kp, bNs, ok_noSet Ns.F fTi TS⟩
  have fWo : FnT P w K mg base CX0 8 "_law_works_hold" gWo eWo ["_law_pool_here", "_law_size", "_law_some"] spHold :=
    ⟨Wo.g, Wo.F.kp, bWo, ok_worksHold Wo.F fD cW aD ⟨RW.R, bR, RrW⟩ ⟨RW.F, bF, RfW⟩ fTh fNs TE NP e1 e2 B⟩
  exact ok_law La.F fPo fD fDi fFi fTe fWo B
theorem walk {l : PySem.W.OpenLaw} {q : Program} {loose : List Str} {XP : (Str → Option Value) → Heap → Prop} {YP : World → Heap → Prop} {d : DefRec} {K : Params → PySem.W.Frag} (hn : l.most = some 63) (hdf : d.params.defaults = [])
    (hY : ∀ (w : World) (h : Heap), YP w h → (K w.params).In h)
    (F : ∀ (w : World) (mg : Str → Option Value) (fa : Addr) (h : Heap), (K w.params).In h → h.Ns mainGlobals mg → mg d.name = some (.ref fa) →
      ∃ fd : FuncData, (∀ (s : Shared) (u : Value), BindsTo s fd ⟨[u], []⟩ [("_law_script", u)]) ∧ ∀ base : Heap, (K w.params).In base → base.Ns mainGlobals mg → FnOk l.prog w (K w.params) mg base CX0 9 fa fd ["_law_script"] (spLaw (K w.params))) :
    PySem.W.WalkO q loose XP YP l.row.toRowW d [] (fun f vs => PySem.call f vs) :=
  L2.walk_of (n := 63) (k := 9) (x := "_law_script") (CX := fun _ => CX0) (sp := fun w => spLaw (K w.params)) hn (by decide) hdf ⟨rfl, by decide, by decide⟩ hY F (fun _ _ a ns hl _ hS => ⟨a, ns, rfl, hS, hl, fun _ => rfl⟩) fun _ _ _ _ _ z => z
end K03
open PySem PySem.W PyProof.Rows
set_option maxRecDepth 100000 in
set_option maxHeartbeats 0 in
theorem PySem.Challenge.cw_unseenprices_k03_counts_of_three_kinds_holds : PySem.Challenge.rw_unseenprices_k03_counts_of_three_kinds.Holds := by
  w_on; o_law; k_head; (case hw => w_witness2)
  k_fill
  refine K03.walk (l := PySem.Challenge.rw_unseenprices_k03_counts_of_three_kinds) rfl rfl (fun w h Y => PySem.W.kIn_of Y) ?F
  case F =>
    intro w mg fa h KX G hmg
    have B := K03.bt_mk KX G (by k_is) (by k_is) (by k_is) (by k_is) (by k_is) (by k_is) (by k_is) (by k_is) (by k_is) (by k_is) (by k_is) (by k_is) (by k_is) (by k_is) (by k_is)
    obtain ⟨fCo, dCo, Co⟩ := K03.nf_mk KX G "is_count" K03.sIsCount (by k_is) (by k_is) (by k_is) (by k_is)
    obtain ⟨fBe, dBe, Be⟩ := K03.nf_mk KX G "is_below" K03.sIsBelow (by k_is) (by k_is) (by k_is) (by k_is)
    obtain ⟨fPl, dPl, Pl⟩ := K03.nf_mk KX G "bad_place" K03.sBadPlace (by k_is) (by k_is) (by k_is) (by k_is)
    obtain ⟨fSe, dSe, Se⟩ := K03.nf_mk KX G "set_of" K03.sSetOf (by k_is) (by k_is) (by k_is) (by k_is)
    obtain ⟨fCh, dCh, Ch⟩ := K03.nf_mk KX G "check_entries" K03.sCheck (by k_is) (by k_is) (by k_is) (by k_is)
    obtain ⟨fTi, dTi, Ti⟩ := K03.nf_mk KX G "timetable" K03.sTimetable (by k_is) (by k_is) (by k_is) (by k_is)
    obtain ⟨fPo, dPo, Po⟩ := K03.nf_mk KX G "_law_pool" K03.sPool (by k_is) (by k_is) (by k_is) (by k_is)
    obtain ⟨fMi, dMi, Mi⟩ := K03.nf_mk KX G "_law_mixed" K03.sMixed (by k_is) (by k_is) (by k_is) (by k_is)
    obtain ⟨fDr, dDr, Dr⟩ := K03.nf_mk KX G "_law_draw" K03.sDraw (by k_is) (by k_is) (by k_is) (by k_is)
    obtain ⟨fDi, dDi, Di⟩ := K03.nf_mk KX G "_law_digits" K03.sDigits (by k_is) (by k_is) (by k_is) (by k_is)
    obtain ⟨fFi, dFi, Fi⟩ := K03.nf_mk KX G "_law_firsts_hold" K03.sFirstsHold (by k_is) (by k_is) (by k_is) (by k_is)
    obtain ⟨fTe, dTe, Te⟩ := K03.nf_mk KX G "_law_teams_hold" K03.sTeamsHold (by k_is) (by k_is) (by k_is) (by k_is)
    obtain ⟨fTh, dTh, Th⟩ := K03.nf_mk KX G "_law_timetable_holds" K03.sTT (by k_is) (by k_is) (by k_is) (by k_is)
    obtain ⟨fNs, dNs, Ns⟩ := K03.nf_mk KX G "_law_no_set_place" K03.sNoSet (by k_is) (by k_is) (by k_is) (by k_is)
    obtain ⟨fWo, dWo, Wo⟩ := K03.nf_mk KX G "_law_works_hold" K03.sWo (by k_is) (by k_is) (by k_is) (by k_is)
    obtain ⟨fLa, dLa, La⟩ := K03.nf_mk KX G "law" K03.sLaw (by k_is) (by k_is) (by k_is) (by k_is)
    have RF := K03.rt_mk KX G "Firsts" (by k_is) (by k_is) (by k_is) (by k_is) (by k_is) (by k_is) (by k_is) (by k_is) (by ks_is) (by k_is) (by k_is) (by k_is) (by k_is) (by k_is) (by k_is) (by k_is) (by k_is) (by k_is) (by k_is) (by k_is) (by k_is) (by k_is) (by k_is) (by k_is)
    have RTe := K03.rt_mk KX G "Teams" (by k_is) (by k_is) (by k_is) (by k_is) (by k_is) (by k_is) (by k_is) (by k_is) (by ks_is) (by k_is) (by k_is) (by k_is) (by k_is) (by k_is) (by k_is) (by k_is) (by k_is) (by k_is) (by k_is) (by k_is) (by k_is) (by k_is) (by k_is) (by k_is)
    have RW := K03.rt_mk KX G "Works" (by k_is) (by k_is) (by k_is) (by k_is) (by k_is) (by k_is) (by k_is) (by k_is) (by ks_is) (by k_is) (by k_is) (by k_is) (by k_is) (by k_is) (by k_is) (by k_is) (by k_is) (by k_is) (by k_is) (by k_is) (by k_is) (by k_is) (by k_is) (by k_is)
    have aN := K03.na_mk RF "number" (by k_is)
    have aC := K03.na_mk RTe "classes" (by k_is)
    have aP := K03.na_mk RTe "places" (by k_is)
    have aD := K03.na_mk RW "days" (by k_is)
    obtain ⟨dI, FI⟩ := K03.mi_mk RF.S "__init__" "Rule.__init__" K03.sRuleInit (by k_is) (by k_is) (by k_is)
    obtain ⟨dR, FR⟩ := K03.mf_mk RF.R "rank" "Rule.rank" K03.sRank (by k_is) (by k_is) (by k_is)
    obtain ⟨dF, FF⟩ := K03.mf_mk RF.F "is_free" "Rule.is_free" K03.sIsFree (by k_is) (by k_is) (by k_is)
    obtain ⟨dOF, OF⟩ := K03.mf_mk RF.O "rank_of" "Firsts.rank_of" K03.sFirstsRankOf (by k_is) (by k_is) (by k_is)
    obtain ⟨dOT, OT⟩ := K03.mf_mk RTe.O "rank_of" "Teams.rank_of" K03.sTeamsRankOf (by k_is) (by k_is) (by k_is)
    obtain ⟨dOW, OW⟩ := K03.mf_mk RW.O "rank_of" "Works.rank_of" K03.sWorksRankOf (by k_is) (by k_is) (by k_is)
    obtain ⟨dNF, ccF, IF⟩ := K03.sr_mk PySem.Challenge.rw_unseenprices_k03_counts_of_three_kinds.prog RF.M "Firsts.__init__" K03.sFirstsInit (by k_is) (by k_is) (by k_is) (by rfl) (by decide +kernel) (by k_is) (by k_is) (by k_is)
    obtain ⟨dNT, ccT, IT⟩ := K03.sr_mk PySem.Challenge.rw_unseenprices_k03_counts_of_three_kinds.prog RTe.M "Teams.__init__" K03.sTeamsInit (by k_is) (by k_is) (by k_is) (by rfl) (by decide +kernel) (by k_is) (by k_is) (by k_is)
    obtain ⟨dNW, ccW, IW⟩ := K03.sr_mk PySem.Challenge.rw_unseenprices_k03_counts_of_three_kinds.prog RW.M "Works.__init__" K03.sWorksInit (by k_is) (by k_is) (by k_is) (by rfl) (by decide +kernel) (by k_is) (by k_is) (by k_is)
    have TB := K03.et_mk KX G "BadNumber" "name" (by k_is) (by k_is) (by decide +kernel) (by k_is) (by k_is) (by k_is) (by k_is) (by k_is) (by k_is) (by k_is) (by ks_is) (by k_is) (by k_is) (by k_is) (by k_is) (by k_is) (by k_is) (by k_is) (by k_is) (by k_is) (by k_is) (by first | k_is | rfl)
    have TS := K03.et_mk KX G "BadSet" "place" (by k_is) (by k_is) (by decide +kernel) (by k_is) (by k_is) (by k_is) (by k_is) (by k_is) (by k_is) (by k_is) (by ks_is) (by k_is) (by k_is) (by k_is) (by k_is) (by k_is) (by k_is) (by k_is) (by k_is) (by k_is) (by k_is) (by first | k_is | rfl)
    have TE := K03.et_mk KX G "BadEntry" "place" (by k_is) (by k_is) (by decide +kernel) (by k_is) (by k_is) (by k_is) (by k_is) (by k_is) (by k_is) (by k_is) (by ks_is) (by k_is) (by k_is) (by k_is) (by k_is) (by k_is) (by k_is) (by k_is) (by k_is) (by k_is) (by k_is) (by first | k_is | rfl)
    have TN := K03.et_mk KX G "NotFree" "things" (by k_is) (by k_is) (by decide +kernel) (by k_is) (by k_is) (by k_is) (by k_is) (by k_is) (by k_is) (by k_is) (by ks_is) (by k_is) (by k_is) (by k_is) (by k_is) (by k_is) (by k_is) (by k_is) (by k_is) (by k_is) (by k_is) (by first | k_is | rfl)
    obtain ⟨dSB, ccSB, SB⟩ := K03.se_mk PySem.Challenge.rw_unseenprices_k03_counts_of_three_kinds.prog TB "BadNumber.__init__" K03.sBadNumber (by k_is) (by k_is) (by k_is) (by rfl) (by decide +kernel) (by k_is) (by k_is) (by k_is)
    obtain ⟨dSS, ccSS, SS⟩ := K03.se_mk PySem.Challenge.rw_unseenprices_k03_counts_of_three_kinds.prog TS "BadSet.__init__" K03.sBadSet (by k_is) (by k_is) (by k_is) (by rfl) (by decide +kernel) (by k_is) (by k_is) (by k_is)
    obtain ⟨dSE, ccSE, SE⟩ := K03.se_mk PySem.Challenge.rw_unseenprices_k03_counts_of_three_kinds.prog TE "BadEntry.__init__" K03.sBadEntry (by k_is) (by k_is) (by k_is) (by rfl) (by decide +kernel) (by k_is) (by k_is) (by k_is)
    obtain ⟨dSN, ccSN, SN⟩ := K03.se_mk PySem.Challenge.rw_unseenprices_k03_counts_of_three_kinds.prog TN "NotFree.__init__" K03.sNotFree (by k_is) (by k_is) (by k_is) (by rfl) (by decide +kernel) (by k_is) (by k_is) (by k_is)
    have NP := K03.en_mk KX G "PricesError" (by k_is) (by k_is) (by k_is)
    have NE := K03.en_mk KX G "BadEntry" (by k_is) (by k_is) (by k_is)
    have NS := K03.en_mk KX G "BadSet" (by k_is) (by k_is) (by k_is)
    have NL := K03.en_mk KX G "NotALot" (by k_is) (by k_is) (by k_is)
    have b1 := K03.sb_mk TB NP (by k_is)
    have b2 := K03.sb_mk TB NE (by k_is)
    have e1 := K03.sb_mk TE NP (by k_is)
    have n1 := K03.sb_mk TN NP (by k_is)
    have n2 := K03.sb_mk TN NE (by k_is)
    have n3 := K03.sb_mk TN NS (by k_is)
    have n4 := K03.sb_mk TN NL (by k_is)
    have b3 := K03.sb_self TB (by first | k_is | rfl)
    have e2 := K03.sb_self TE (by first | k_is | rfl)
    have n5 := K03.sb_self TN (by first | k_is | rfl)
    exact K03.all_mk hmg (by decide +kernel) B Co Be Pl Se Ch Ti Po Mi Dr Di Fi Te Th Ns Wo La RF RTe RW aN aC aP aD FI FR FF OF OT OW IF IT IW TB TS TE TN SB SS SE SN NP NE NS NL b1 b2 b3 e1 e2 n1 n2 n3 n4 n5
