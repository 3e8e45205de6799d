import PyProof.Rows.All
import Wide.All
import OpenK.AllK
import Wide.FinOn
import HandS.ForMost
import HandS.ForExc
import HandS.AnyAll
import PyProof.GenCompD
import PyProof.ConsumeS
import HandS.GenOver
import HandS.GenList
import HandS.TupSets
import HandS.SetKeys
import KE.KDictKeyed
import KE.KeyNested
import KE.SortCalls
import KE.KDictCopyH
import HandS.Small
import HandS.TupAny
import HandS.Deep
import HandS.IsInst
import HandS.MakeKwOnly
import HandS.Wide
import HandS.Star
import HandS.Zip
import HandS.Defaults
import HandS.HeadHook4
import HandS.HeadWalk
import HandS.TupMul
import HandS.Text
import HandS.ExcInit
import HandS.ExcOwn
import KE.KExcIs
import HandS.Flow
import HandS.More
import HandS.Style
import HandS.Iter
import KE.KDictWalk
import HandS.DictComp
import HandS.SortInts
import HandS.CallLocal
import HandS.Call
import PyProof.DictMoreH
import HandS.ExcValue
import KE.GoesZip
import KE.GoesMore
import Wide.Once
import KE.KStateDown
import Lean
import HandS.Head0
import HandS.Head1
import HandS.Head2
import HandS.HeadEnd
import HandS.HeadHook1
import HandS.HeadHook2
import PySem.Challenge.RW_twoknowers_k06_states_that_are_reached
set_option Elab.async false
set_option linter.all false
set_option maxRecDepth 100000
set_option maxHeartbeats 0
namespace GA
open PySem PySem.Spec PyProof.Rows L2 GxR
/-- the context of a generator expression's frame -/
abbrev gcx (X : Cx) (s : Shared) (H : Hp) (ge : Env) (fp : List Addr) (pn : List (Addr × Obj)) : Cx :=
  { X with s_0 := s, H_0 := H, env := ge, outer := X.stack, stack := ge :: X.stack, A := (X.A.in1.in1).deeper ge, ex := fp, fn := fun _ => false, pn := pn, xe := fun _ _ => False }
section
variable {X : Cx} {pins : List (Addr × Obj)} {σ : L2.St} {H : Hp} {s : Shared}
/-- the frame stands: s the state ahead of it, h4 the heap behind -/
theorem gen_start {scope : Scope} {own : List (Str × Nat)} {fp : List Addr} {code : Value} {h4 : Heap} {g4 : Array GenState} {d4 : Drawn} {t4 : Nat} {m : Str → Option Value} {a : Addr} {go : Obj}
    (I : Inv X pins σ H s) (ok : BlkOk X.N X.env.scope scope own) (hcell : ∀ y ∈ scope.names, y.2 ≠ .cell) (hN : X.N.Nodup) (hfp : ∀ b ∈ fp, FpOk X pins H b ∧ b < s.heap.objs.size)
    (kp : ∀ b o, s.heap.get? b = some o → h4.get? b = some o) (hn : h4.Ns s.heap.objs.size m) (hg : AllBare g4)
    (ha : s.heap.objs.size < a) (hao : h4.get? a = some go) (had : ∀ v, go.data ≠ .cell v) :
    Inv (gcx X s H (genEnv scope (cloFrom X.env.cells scope.names []) s.heap.objs.size code builtinsNs X.env) fp [(a, go)]) [] (wipe σ (own.map (·.2))) H { s with heap := h4, gens := g4, drawn := d4, toks := t4 } := by
  have hfree : ∀ y ∈ scope.names, y.2 = .free → ∃ c, X.env.cells.lookup y.1 = some c := fun y hy e => by
    rcases ok.free y hy e with k | k
    · exact I.ok.has _ (.inl k)
    · exact I.ok.has _ (.inr k)
  generalize hge : genEnv scope (cloFrom X.env.cells scope.names []) s.heap.objs.size code builtinsNs X.env = ge
  have hL : ge.locals = s.heap.objs.size := by rw [← hge]; rfl
  have hcl : ge.cells = cloFrom X.env.cells scope.names [] := by rw [← hge]; rfl
  have hsc : ge.scope = scope := by rw [← hge]; rfl
  have hfrm : ge.frame = some ge.locals := by rw [← hge]; rfl
  have cm : ∀ {y c}, (y, c) ∈ cloFrom X.env.cells scope.names [] → X.env.cells.lookup y = some c ∧ c < s.heap.objs.size := fun {y c} hm => by
    rcases cloFrom_mem hm with hm | ⟨h1, rfl⟩
    · cases hm
    · obtain ⟨c, hc⟩ := hfree _ h1 rfl
      rw [hc]
      obtain ⟨w, z⟩ := I.cell _ _ hc
      exact ⟨rfl, z.lt⟩
  have mem : ∀ {y c}, ge.cells.lookup y = some c → X.env.cells.lookup y = some c ∧ c < s.heap.objs.size := fun {y c} e => by
    rw [hcl] at e
    exact cm (PySem.mem_of_lookup e)
  have look : ∀ {y}, scope.names.lookup y = some .free → ∃ c, ge.cells.lookup y = some c ∧ X.env.cells.lookup y = some c := fun {y} hl => by
    have hy : (y, NameKind.free) ∈ scope.names := PySem.mem_of_lookup hl
    obtain ⟨c', e'⟩ := mem_lookup (cloFrom_has (cells := X.env.cells) (acc := []) hy)
    rw [← hcl] at e'
    exact ⟨c', e', (mem e').1⟩
  have ltC : ∀ b, b < s.heap.objs.size → b ≠ ge.locals := fun b h => by rw [hL]; exact Nat.ne_of_lt h
  have okB : (gcx X s H ge fp [(a, go)]).Ok := by
    refine ⟨I.ok.mod, by show ge.scope.kind = _; rw [hsc]; exact ok.kind, by show ge.globals = _; rw [← hge]; exact I.ok.glob, by show ge.builtins = _; rw [← hge]; rfl, by show s.heap.objs.size ≤ ge.locals; rw [hL]; exact Nat.le_refl _,
      fun y z c e1 e2 => ?_, fun y hy => ?_, fun y c z e => ?_, fun hc => I.ok.hd hc, ?_, .inr ⟨rfl, hfrm⟩, fun b hb => ⟨?_, fun y c e z => ?_⟩, I.bs, Nat.le_trans I.ok.bsz I.sz, fun b o e hb => ?_, fun b hb z => ?_, I.stack, I.stkFree⟩
    · exact I.ok.inj y z c (mem e1).1 (mem e2).1
    · have hy : ge.scope.names.lookup y = some .cell ∨ ge.scope.names.lookup y = some .free := hy
      rw [hsc] at hy
      rcases hy with hy | hy
      · exact absurd rfl (hcell _ (PySem.mem_of_lookup hy))
      · obtain ⟨c, h1, _⟩ := look hy
        exact ⟨c, h1⟩
    · exact absurd (show false = true from z) (by decide)
    · exact Around.frames_deeper (show X.A.in1.in1.frames = some X.stack from I.ok.frames)
    · exact ltC b (hfp b hb).2
    · exact (hfp b hb).1.2.2.2.2.1 y c (mem e).1 z
    · rcases (hfp b hb).1.2.2.2.1 with z | z
      · exact I.ok.noex b o e z
      · exact absurd (Nat.lt_of_lt_of_le (Heap.lt_size e) (Nat.le_trans I.ok.bsz z)) (Nat.lt_irrefl _)
    · rcases List.mem_cons.mp (I.stkSub b z) with z | z
      · exact (hfp b hb).1.2.1 z
      · exact (hfp b hb).1.2.2.1 z
  refine ⟨okB, rfl, hg, Un.kept kp, ⟨m, by rw [hL]; exact hn, fun i y av e1 e2 e3 => ?_⟩, fun y c e => ?_, ?_, fun y c e => ?_, fun p hp => ?_, I.hok.kept kp, by rw [wipe_length]; exact I.len⟩
  · obtain ⟨e2, hne⟩ := wipe_some e2
    have hfr : scope.names.lookup y = some .free := by
      have e3 : Vis ge.scope y := e3
      rw [hsc] at e3
      have no : ∀ k, scope.names.lookup y = some k → (k = .local ∨ k = .cell) → False := fun k e hh => by
        rcases ok.own _ (PySem.mem_of_lookup e) hh with e' | e'
        · obtain ⟨p, hp, hpy⟩ := List.mem_map.mp e'
          have e3 := ok.ix p hp
          have : p.1 = y := hpy
          rw [this] at e3
          exact hne (List.mem_map.mpr ⟨p, hp, nodup_ix hN e3 e1⟩)
        · exact e' (List.mem_of_getElem? e1)
      rcases e3 with e3 | e3 | e3
      · exact (no _ e3 (.inl rfl)).elim
      · exact (no _ e3 (.inr rfl)).elim
      · exact e3
    obtain ⟨mm, hnn, hl⟩ := I.loc
    have hvis : Vis X.env.scope y := (ok.free _ (PySem.mem_of_lookup hfr) rfl).elim (fun k => .inr (.inl k)) (fun k => .inr (.inr k))
    obtain ⟨w, r, q⟩ := hl i y av e1 e2 hvis
    refine ⟨w, r, .inr ⟨.inr (by show ge.scope.names.lookup y = _; rw [hsc]; exact hfr), ?_⟩⟩
    obtain ⟨c, h1, h2⟩ := look hfr
    rcases q with ⟨k, _⟩ | ⟨_, c', e', z⟩
    · have k : X.env.scope.names.lookup y = some .local := k
      rcases ok.free _ (PySem.mem_of_lookup hfr) rfl with k' | k' <;> rw [show X.env.scope.names.lookup y = _ from k'] at k <;> cases k
    · rw [h2] at e'; cases e'
      exact ⟨c, h1, z.keeps kp⟩
  · obtain ⟨w, z⟩ := I.cell y c (mem e).1
    exact ⟨w, z.keeps kp⟩
  · show H ge.locals = none
    rw [hL]; exact I.hok.fresh (Nat.le_refl _)
  · exact I.freeC y c (mem e).1
  · have hp : p ∈ [(a, go)] ++ [] := hp
    rw [List.append_nil, List.mem_singleton] at hp
    subst hp
    refine ⟨hao, I.hok.fresh (Nat.le_of_lt ha), ?_, fun z => ?_, had⟩
    · show a ≠ ge.locals
      rw [hL]; exact Nat.ne_of_gt ha
    · have z : a ∈ frs X.stack := z
      obtain ⟨_, o, e, _⟩ := I.stack.mem z
      exact absurd (Nat.lt_trans ha (Heap.lt_size e)) (Nat.lt_irrefl _)
end
end GA
namespace GA
open PySem PySem.Spec PyProof.Rows L2 GxR
theorem over_gen {A : Around} {elt target iter : Expr} {ifs : List Expr} {scope : Scope} {pos : Pos} {it acc : Value} {ge : Env} :
    A.over (.compLoop (.GeneratorExp elt [⟨target, iter, ifs, 0⟩] scope pos) 0 it acc ge) [] = A.deeper ge := rfl
/-- between two turns nothing but the table of generators changes -/
structure Res (s s' : Shared) : Prop where
  heap : s'.heap = s.heap
  os : s'.os = s.os
  bare : AllBare s'.gens
theorem Inv.res {X : Cx} {pins : List (Addr × Obj)} {σ : L2.St} {H : Hp} {s s' : Shared} (I : Inv X pins σ H s) (r : Res s s') : Inv X pins σ H s' := by
  obtain ⟨h', g', d', t', o'⟩ := s'
  obtain ⟨e1, e2, e3⟩ := r
  have e1 : h' = s.heap := e1
  have e2 : o' = s.os := e2
  subst e1; subst e2
  exact ⟨I.ok, I.os, e3, I.base, I.loc, I.cell, I.free, I.freeC, I.pin, I.hok, I.len⟩
section
variable {X Xg : Cx} {fp : List Addr} {it : Addr} {tn : Nat → Heap → Prop} {J : It} {W : Nat → Nat → Hp → Prop} {σg : L2.St} {vs : List Nat} {Q : VK} {tg : Expr}
def GInv (Xg : Cx) (fp : List Addr) (tn : Nat → Heap → Prop) (W : Nat → Nat → Hp → Prop) (σg : L2.St) (i m : Nat) (s : Shared) : Prop :=
  ∃ H', Inv Xg [] σg H' s ∧ tn i s.heap ∧ (∀ b ∈ fp, H' b = none) ∧ W i m H'
theorem GInv.res {i m : Nat} {s s' : Shared} (h : GInv Xg fp tn W σg i m s) (r : Res s s') : GInv Xg fp tn W σg i m s' := by
  obtain ⟨H', I, t, n, w⟩ := h
  exact ⟨H', GA.Inv.res I r, by rw [r.heap]; exact t, n, w⟩
/-- what is handed out: a truth value; False ends it -/
def GYp (Xg : Cx) (fp : List Addr) (tn : Nat → Heap → Prop) (W : Nat → Nat → Hp → Prop) (σg : L2.St) (stopAt : Bool) (Q : VK) : Protocol := fun n _ v s₁ kap =>
  ∃ b : Bool, v = .bool b ∧ (if b = stopAt then ∃ σ' H', Inv Xg [] σ' H' s₁ ∧ Q (.bl stopAt) H' else ∃ i m, m < n ∧ GInv Xg fp tn W σg i m s₁ ∧ ∀ s'', Res s₁ s'' → kap (.send .none) s'')
def GPp (Xg : Cx) (σg : L2.St) (stopAt : Bool) (Q : VK) : Nat → Shared → Shared → Prop := fun _ _ s₁ => ∃ H', Inv Xg [] σg H' s₁ ∧ Q (.bl (!stopAt)) H'
/-- the walk's words for a turn -/
def GTurn (J : It) (W : Nat → Nat → Hp → Prop) (g : TG) (te : TE) (vs : List Nat) (σg : L2.St) (stopAt : Bool) (Q : VK) : Prop := ∀ i m H, W i m H →
  (J.stop i H ∧ Q (.bl (!stopAt)) H) ∨ (J.go i H ∧ ∃ Nx : Hp → Prop, (∀ H', Nx H' → ∃ m', m' < m ∧ W (i + 1) m' H') ∧ ∀ x H', J.yld i H x H' → g x σg H' fun σ2 H2 => wipe σ2 vs = σg ∧
    te σ2 H2 fun y H3 => ∃ b : Bool, y = .bl b ∧ if b = stopAt then Q (.bl stopAt) H3 else Nx H3)
theorem seg_genLoop {A : Around} {elt iter : Expr} {x : Str} {px gpos : Pos} {scope : Scope} {g : TG} {te : TE} {ge : Env} {stopAt : Bool}
    (hA : Xg.A = A.deeper ge) (hge : Xg.env = ge) (hco : ge.scope.isCoroutine = false) (hc : Xg.calm = true) (hxe : Xg.xe = fun _ _ => False) (T : Turn Xg.prog Xg.w Xg.K (.Name x px) J fp it tn)
    (stat : ∀ {σ' : L2.St} {H' : Hp} {s' : Shared}, Inv Xg [] σ' H' s' → (∀ b ∈ fp, H' b = none) → ∀ b ∈ fp, FpOk Xg [] H' b)
    (pg : PG Xg (.Name x px) g) (pe : PE Xg elt te) (turn : GTurn J W g te vs σg stopAt Q) :
    ∀ (k m i : Nat) (s₀ s : Shared), m < k → GInv Xg fp tn W σg i m s →
      Seg (model Xg.prog Xg.w) A (fun n s₀ r s₁ => r = .ok .next ∧ GPp Xg σg stopAt Q n s₀ s₁) (GYp Xg fp tn W σg stopAt Q) k s₀
        (.compLoop (.GeneratorExp elt [⟨.Name x px, iter, [], 0⟩] scope gpos) 0 (.ref it) .none ge)
        ((model Xg.prog Xg.w).den (.compLoop (.GeneratorExp elt [⟨.Name x px, iter, [], 0⟩] scope gpos) 0 (.ref it) .none ge)) [] s := by
  subst hge
  intro k
  induction k with
  | zero => intro m i s₀ s hm _; exact absurd hm (Nat.not_lt_zero _)
  | succ k ih =>
    intro m i s₀ s hm hG
    obtain ⟨H5, I5, st5, n5, w5⟩ := hG
    show Seg _ A _ _ _ s₀ _ ((compTurn (.GeneratorExp elt [⟨.Name x px, iter, [], 0⟩] scope gpos) 0 (.ref it) .none Xg.env).onRaise (leaving Xg.env)) [] s
    rw [compTurn_gen, Sem.onRaise_eq_wrap]
    refine seg_bind_wrap (wpAny_standAt ?_)
    rcases turn i m H5 w5 with ⟨stop, qq⟩ | ⟨go, Nx, hNx, step⟩
    · refine seg_bind_wrap ?_
      rw [over_gen, ← hA]
      refine thnF (T.done Xg rfl rfl rfl hc i [] s _ H5 (fun _ _ => False) I5 (stat I5 n5) st5 stop) fun r s6 ⟨hr, I6⟩ => ?_
      subst hr
      exact seg_end (.ok .next) ⟨rfl, H5, I6, qq⟩
    · refine seg_bind_wrap ?_
      rw [over_gen, ← hA]
      refine thnF (T.item Xg rfl rfl rfl hc i [] s _ H5 (fun _ _ => False) I5 (stat I5 n5) st5 go) fun r s6 ⟨u, hr, h6⟩ => ?_
      subst hr
      refine seg_bind_wrap ?_
      rw [over_gen, ← hA]
      refine thnF h6 fun _ s7 ⟨x7, H7, I7, r7, y7, st7, n7⟩ => ?_
      have I7' := I7.pinned (stat I7 n7) (T.obj _ _ st7)
      have pgr := pg.run _ s7 _ H7 x7 u _ I7' r7 (step x7 H7 y7)
      rw [hxe] at pgr
      refine seg_bind_wrap ?_
      rw [over_gen, ← hA]
      refine thnF pgr fun _ s8 ⟨σ8, H8, I8, hw8, q8⟩ => ?_
      refine seg_bind_wrap (wpAny_pure ?_)
      simp only [if_true]
      have hy : ∀ v, yieldOut Xg.env v = yieldValue v := fun v => by simp only [yieldOut, hco, Bool.false_eq_true, if_false]
      simp only [hy]
      rw [Sem.bind_eq_wrap', Sem.bind_eq_wrap', Sem.wrap_wrap, Sem.wrap_wrap]
      have per := pe.run _ s8 σ8 H8 _ I8 q8
      rw [hxe] at per
      refine seg_wrap ?_
      rw [over_gen, ← hA]
      refine thnF per fun z s9 ⟨yv, H9, I9, r9, b, eb, qb⟩ => ?_
      subst eb
      have r9 : z = Value.bool b := r9
      subst r9
      refine seg_at (seg_yield rfl rfl rfl ⟨b, rfl, ?_⟩)
      by_cases hb : b = stopAt
      · rw [if_pos hb] at qb ⊢
        exact ⟨σ8, H9, I9.unpinned (pins := []), qb⟩
      · rw [if_neg hb] at qb ⊢
        obtain ⟨m', hm', w'⟩ := hNx H9 qb
        have pin' : ∀ b ∈ fp, ∀ o, s7.heap.get? b = some o → s9.heap.get? b = some o ∧ H9 b = none := fun b hb o e =>
          let z := I9.pin (b, o) (List.mem_append_right _ (List.mem_append_right _ (mem_pinsAt hb e)))
          ⟨z.1, z.2.1⟩
        have hl : σg.length = σ8.length := by rw [← hw8, wipe_length]
        have G9 : GInv Xg fp tn W σg (i + 1) m' s9 := by
          refine ⟨H9, (I9.unpinned (pins := [])).weak hl (fun j v e => ?_), T.keep _ _ _ st7 fun b hb o e => (pin' b hb o e).1, fun b hb => ?_, w'⟩
          · rw [← hw8] at e
            exact (wipe_some e).1
          · obtain ⟨o, e, _⟩ := T.obj _ _ st7 b hb
            exact (pin' b hb o e).2
        refine ⟨i + 1, m', by omega, G9, fun s'' hr => ?_⟩
        exact seg_again rfl (ih m' (i + 1) s'' s'' (by omega) (G9.res hr))
theorem seg_genStart {A : Around} {elt iter : Expr} {x : Str} {px gpos : Pos} {scope : Scope} {g : TG} {te : TE} {ge : Env} {stopAt : Bool}
    (hA : Xg.A = A.deeper ge) (hge : Xg.env = ge) (hco : ge.scope.isCoroutine = false) (hc : Xg.calm = true) (hxe : Xg.xe = fun _ _ => False) (T : Turn Xg.prog Xg.w Xg.K (.Name x px) J fp it tn)
    (stat : ∀ {σ' : L2.St} {H' : Hp} {s' : Shared}, Inv Xg [] σ' H' s' → (∀ b ∈ fp, H' b = none) → ∀ b ∈ fp, FpOk Xg [] H' b)
    (pg : PG Xg (.Name x px) g) (pe : PE Xg elt te) (turn : GTurn J W g te vs σg stopAt Q) (k m : Nat) (s₀ s : Shared) (hm : m < k) (hG : GInv Xg fp tn W σg 0 m s) :
      Seg (model Xg.prog Xg.w) A (fun n s₀ r s₁ => r = .ok .next ∧ GPp Xg σg stopAt Q n s₀ s₁) (GYp Xg fp tn W σg stopAt Q) k s₀
        (.compStart (.GeneratorExp elt [⟨.Name x px, iter, [], 0⟩] scope gpos) 0 (.ref it) .none ge)
        ((model Xg.prog Xg.w).den (.compStart (.GeneratorExp elt [⟨.Name x px, iter, [], 0⟩] scope gpos) 0 (.ref it) .none ge)) [] s := by
  have loop := seg_genLoop (iter := iter) (scope := scope) (gpos := gpos) hA hge hco hc hxe T stat pg pe turn k m 0 s₀ s hm hG
  have self := fun (A' : Around) (Q' E' : Value → Shared → Prop) => T.self A' 0 s Q' E' (by obtain ⟨_, _, t, _⟩ := hG; exact t)
  show Seg _ A _ _ _ s₀ _ ((compStart (.GeneratorExp elt [⟨.Name x px, iter, [], 0⟩] scope gpos) 0 (.ref it) .none ge).onRaise (leaving ge)) [] s
  unfold compStart
  rw [Sem.onRaise_eq_wrap]
  show Seg _ A _ _ _ s₀ _ ((ask >>= _).wrap _ _ _ _) [] s
  refine seg_bind_wrap (wpAny_askSetting ?_)
  split
  · exact seg_again rfl loop
  · first
      | exact seg_bind_wrap (wpAny_rule (seg_bind_wrap (wpAny_standAt (seg_bind_wrap (self _ _ _ (seg_again rfl loop))))))
      | (refine seg_bind_wrap (wpAny_rule ?_); show Seg _ A _ _ _ s₀ _ ((standAt iter.pos >>= _).wrap _ _ _ _) [] s; exact seg_bind_wrap (wpAny_standAt (seg_bind_wrap (self _ _ _ (seg_again rfl loop)))))
end
end GA
namespace GA
open PySem PySem.Spec PyProof.Rows L2 GxR
section
variable {X Xg : Cx} {fp : List Addr} {it : Addr} {tn : Nat → Heap → Prop} {J : It} {W : Nat → Nat → Hp → Prop} {σg : L2.St} {vs : List Nat} {Q : VK} {tg : Expr} {stopAt : Bool}
/-- what the consumer leaves -/
def GDone (Xg : Cx) (Q : VK) (r : Result) (s' : Shared) : Prop := ∃ (b : Bool) (σ' : L2.St) (H' : Hp), r = .ok (.ret (.bool b)) ∧ Inv Xg [] σ' H' s' ∧ Q (.bl b) H'
theorem next_gen {A : Around} {a : Addr} {g k : Nat} {gs : GenState} {s : Shared} {go : Obj} {nm qn : Value} {Q' : Option Value → Shared → Prop}
    (hh : A.handled = none) (hroom : A.depth < recursionLimit) (hgo : go = { cls := .type "generator", data := .fields #[.int g 0, nm, qn] }) (hpn : (a, go) ∈ Xg.pn)
    (ha : s.heap.get? a = some go) (hl : s.heap.NoLimit) (hgs : s.gens[g]? = some gs) (hb : AllBare s.gens)
    (hgoes : ∀ s'', Res s s'' → gs.Goes (model Xg.prog Xg.w) A.in1 (fun n s₀ r s₁ => r = .ok .next ∧ GPp Xg σg stopAt Q n s₀ s₁) (GYp Xg fp tn W σg stopAt Q) k (.send .none) s'')
    (hstop : ∀ s' σ' H', Inv Xg [] σ' H' s' → Q (.bl stopAt) H' → Q' (some (.bool stopAt)) s')
    (hmore : ∀ s' gs' k', k = k' + 1 → s'.heap.get? a = some go → s'.heap.NoLimit → s'.gens[g]? = some gs' → AllBare s'.gens →
      (∀ s'', Res s' s'' → gs'.Goes (model Xg.prog Xg.w) A.in1 (fun n s₀ r s₁ => r = .ok .next ∧ GPp Xg σg stopAt Q n s₀ s₁) (GYp Xg fp tn W σg stopAt Q) k' (.send .none) s'') → Q' (some (.bool (!stopAt))) s')
    (hend : ∀ s' σ' H', Inv Xg [] σ' H' s' → Q (.bl (!stopAt)) H' → Q' none s') : wpAny (model Xg.prog Xg.w) A (pyNext (.ref a)) Q' (fun _ _ => False) s := by
  have hig : s.heap.IsGen a g := ⟨go, nm, qn, ha, by rw [hgo], by rw [hgo], by rw [hgo]⟩
  have hgl : g + 1 ≤ s.gens.size := by
    rcases Nat.lt_or_ge g s.gens.size with h | h
    · exact h
    · rw [Array.getElem?_eq_none h] at hgs; cases hgs
  refine GenW.wpAny_gsz hgl ?_
  refine wpAny_mono (Q := fun a s' => g + 1 ≤ s'.gens.size → Q' a s') (E := fun _ _ => False) ?_ (fun _ _ z => z) (fun _ _ z => z.elim)
  refine wpAny_pyNext_genexpQ (P := GPp Xg σg stopAt Q) hh hl hroom hig hgs (hgoes _ ⟨rfl, rfl, allBare_setGen (s := s) hb rfl⟩) (fun v s₁ gs' hb' hY hsz => ?_) (fun s₁ hP h' hk hsz => ?_)
  · obtain ⟨b, rfl, hY⟩ := hY
    have hsz : g + 1 ≤ (s₁.setGen g gs').gens.size := hsz
    by_cases hbs : b = stopAt
    · rw [if_pos hbs] at hY
      obtain ⟨σ', H', I, q⟩ := hY
      subst hbs
      exact hstop _ σ' H' (GA.Inv.res I ⟨rfl, rfl, allBare_setGen I.bare hb'⟩) q
    · rw [if_neg hbs] at hY
      obtain ⟨i, m, hm, G, hkap⟩ := hY
      have eb : b = !stopAt := by cases b <;> cases stopAt <;> first | rfl | exact absurd rfl hbs
      subst eb
      cases k with
      | zero => exact absurd hm (Nat.not_lt_zero _)
      | succ k' =>
        obtain ⟨H', I, _⟩ := id G
        have hp := I.pin _ (List.mem_append_left _ hpn)
        have hlt : g < s₁.gens.size := by
          have e := GenW.setGen_size s₁ g gs'
          omega
        refine hmore _ gs' k' rfl hp.1 (show s₁.heap.NoLimit from I.nolimit) (setGen_self (gs := s₁.gens[g]) (Array.getElem?_eq_getElem hlt)) (allBare_setGen I.bare hb') fun s'' hr => ?_
        exact hkap s'' ⟨hr.heap, hr.os, hr.bare⟩
  · obtain ⟨H', I, q⟩ := hP
    refine hend _ σg H' ?_ q
    have I2 : Inv Xg [] σg H' { s₁ with heap := h' } := I.kept (t' := s₁.toks) hk
    exact GA.Inv.res I2 ⟨rfl, rfl, allBare_setGen I2.bare rfl⟩
theorem all_loop {A : Around} {a : Addr} {g : Nat} {go : Obj} {nm qn : Value}
    (hh : A.handled = none) (hroom : A.depth < recursionLimit) (hgo : go = { cls := .type "generator", data := .fields #[.int g 0, nm, qn] }) (hpn : (a, go) ∈ Xg.pn) :
    ∀ (k : Nat) (gs : GenState) (s : Shared), s.heap.get? a = some go → s.heap.NoLimit → s.gens[g]? = some gs → AllBare s.gens →
    (∀ s'', Res s s'' → gs.Goes (model Xg.prog Xg.w) A.in1.in1 (fun n s₀ r s₁ => r = .ok .next ∧ GPp Xg σg false Q n s₀ s₁) (GYp Xg fp tn W σg false Q) k (.send .none) s'') →
    codeAny (model Xg.prog Xg.w) A (.builtin "all.loop" ⟨[.ref a], []⟩) (GDone Xg Q) s := by
  intro k
  induction k with
  | zero =>
    intro gs s h1 h2 h3 h4 h5
    refine codeAny_builtin F.entry_all_loop ?_
    rw [Around.under_plainId F.plain_all_loop _]
    show wpAny _ A.in1 (pyNext (.ref a) >>= _) _ _ s
    refine wpAny_bind (wpAny_mono (next_gen (A := A.in1) (stopAt := false) hh hroom hgo hpn h1 h2 h3 h4 h5 (Q' := fun v s' => match v with
      | none => ∃ σ' H', Inv Xg [] σ' H' s' ∧ Q (.bl true) H'
      | some v => v = .bool false ∧ ∃ σ' H', Inv Xg [] σ' H' s' ∧ Q (.bl false) H') (fun s' σ' H' I q => ⟨rfl, σ', H', I, q⟩) (fun s' gs' k' e => absurd e (by omega)) (fun s' σ' H' I q => ⟨σ', H', I, q⟩)) (fun v s' h => ?_) fun _ _ z => z.elim)
    cases v with
    | none =>
      obtain ⟨σ', H', I, q⟩ := h
      exact wpAny_bind (wpAny_rule (wpAny_pure ⟨true, σ', H', rfl, I, q⟩))
    | some v =>
      obtain ⟨rfl, σ', H', I, q⟩ := h
      refine wpAny_bind (wpAny_holding (wpAny_truthy_bool ?_))
      refine wpAny_bind (wpAny_letGo ?_)
      simp only [Bool.false_eq_true, if_false]
      exact wpAny_bind (wpAny_rule (wpAny_pure ⟨false, σ', H', rfl, I, q⟩))
  | succ k ih =>
    intro gs s h1 h2 h3 h4 h5
    refine codeAny_builtin F.entry_all_loop ?_
    rw [Around.under_plainId F.plain_all_loop _]
    show wpAny _ A.in1 (pyNext (.ref a) >>= _) _ _ s
    refine wpAny_bind (wpAny_mono (next_gen (A := A.in1) (stopAt := false) hh hroom hgo hpn h1 h2 h3 h4 h5 (Q' := fun v s' => match v with
      | none => ∃ σ' H', Inv Xg [] σ' H' s' ∧ Q (.bl true) H'
      | some v => (v = .bool false ∧ ∃ σ' H', Inv Xg [] σ' H' s' ∧ Q (.bl false) H') ∨ (v = .bool true ∧ codeAny (model Xg.prog Xg.w) A (.builtin "all.loop" ⟨[.ref a], []⟩) (GDone Xg Q) s'))
      (fun s' σ' H' I q => .inl ⟨rfl, σ', H', I, q⟩) (fun s' gs' k' e g1 g2 g3 g4 g5 => .inr ⟨rfl, ?_⟩) (fun s' σ' H' I q => ⟨σ', H', I, q⟩)) (fun v s' h => ?_) fun _ _ z => z.elim)
    · obtain rfl : k' = k := by omega
      exact ih gs' s' g1 g2 g3 g4 g5
    cases v with
    | none =>
      obtain ⟨σ', H', I, q⟩ := h
      exact wpAny_bind (wpAny_rule (wpAny_pure ⟨true, σ', H', rfl, I, q⟩))
    | some v =>
      rcases h with ⟨rfl, σ', H', I, q⟩ | ⟨rfl, hc⟩
      · refine wpAny_bind (wpAny_holding (wpAny_truthy_bool ?_))
        refine wpAny_bind (wpAny_letGo ?_)
        simp only [Bool.false_eq_true, if_false]
        exact wpAny_bind (wpAny_rule (wpAny_pure ⟨false, σ', H', rfl, I, q⟩))
      · refine wpAny_bind (wpAny_holding (wpAny_truthy_bool ?_))
        refine wpAny_bind (wpAny_letGo ?_)
        simp only [if_true]
        exact wpAny_pure ⟨plainId_quiet F.plain_all_loop _, hc⟩
end
end GA
namespace GA
open PySem PySem.Spec PyProof.Rows L2 GxR
/-- all(elt for x in iter), any(..): W by the turn and a measure; the def's table may grow ahead of the turns -/
def tGen (P : Addr) (wi : TI) (g : TG) (te : TE) (vs : List Nat) (stopAt : Bool) : TE := fun σ H Q => wi σ H fun J H1 => TabG H1 P ∧ ∀ H2, Tabbed P H1 H2 →
  ∃ W : Nat → Nat → Hp → Prop, (∃ m, W 0 m H2) ∧ GTurn J W g te vs (wipe σ vs) stopAt Q
section
variable {X : Cx} {pins : List (Addr × Obj)} {σ : L2.St} {H : Hp} {s : Shared}
/-- the generator is made, then b's loop runs over it -/
theorem gen_core {c P : Addr} {elt iter : Expr} {x : Str} {px gpos : Pos} {scope : Scope} {own : List (Str × Nat)} {wi : TI} {g : TG} {te : TE} {k : Nat} {Q : VK} {stopAt : Bool} {Q' : Value → Shared → Prop}
    (hr : Room (k + 3) X.A) (TB : TabB X.base X.mg c P) (hcode : X.env.code = .ref c) (hcalm : X.calm = true) (hN : X.N.Nodup) (hco : scope.isCoroutine = false) (hcell : ∀ y ∈ scope.names, y.2 ≠ .cell) (hdot : scope.names.lookup (".0" : Str) = some NameKind.local)
    (ok : BlkOk X.N X.env.scope scope own) (hi : PI X (.Name x px) iter wi)
    (hg : ∀ (s : Shared) (H : Hp) (C : Addr) (cl : List (Str × Addr)) (code : Value) (fp : List Addr) (pn : List (Addr × Obj)), PG (gcx X s H (genEnv scope cl C code builtinsNs X.env) fp pn) (.Name x px) g)
    (he : ∀ (s : Shared) (H : Hp) (C : Addr) (cl : List (Str × Addr)) (code : Value) (fp : List Addr) (pn : List (Addr × Obj)), Room k (gcx X s H (genEnv scope cl C code builtinsNs X.env) fp pn).A → PE (gcx X s H (genEnv scope cl C code builtinsNs X.env) fp pn) elt te)
    (hs : ∀ v, genFold iter X.env v = pure v) (I : Inv X pins σ H s) (h : tGen P wi g te (own.map (·.2)) stopAt σ H Q)
    (hQ : ∀ (a : Addr) (gn : Nat) (go : Obj) (nm qn : Value) (kk : Nat) (gs : GenState) (s5 : Shared) (Xg : Cx) (fp : List Addr) (tn : Nat → Heap → Prop) (W : Nat → Nat → Hp → Prop) (σg : L2.St), Xg.prog = X.prog → Xg.w = X.w → go = { cls := .type "generator", data := .fields #[.int gn 0, nm, qn] } → (a, go) ∈ Xg.pn →
      s5.heap.get? a = some go → s5.heap.NoLimit → s5.gens[gn]? = some gs → AllBare s5.gens →
      (∀ s'', Res s5 s'' → gs.Goes (model Xg.prog Xg.w) X.A.in1.in1 (fun n s₀ r s₁ => r = .ok .next ∧ GPp Xg σg stopAt Q n s₀ s₁) (GYp Xg fp tn W σg stopAt Q) kk (.send .none) s'') →
      (∀ s' σ' H' b, Inv Xg [] σ' H' s' → Q (.bl b) H' → EP X pins σ Q (.bool b) s') → Q' (.ref a) s5) :
    wpAny (model X.prog X.w) X.A (eval (.GeneratorExp elt [⟨.Name x px, iter, [], 0⟩] scope gpos) X.env) Q' X.xe s := by
  have hfree : ∀ y ∈ scope.names, y.2 = .free → ∃ c, X.env.cells.lookup y.1 = some c := fun y hy e => by
    rcases ok.free y hy e with k | k
    · exact I.ok.has _ (.inl k)
    · exact I.ok.has _ (.inr k)
  refine wpAny_GeneratorExp_make hco (closure_ok hfree) hcell hdot ok.kind hr.depth ?_ hs
  refine thn (hi.run pins s σ H _ I h) fun xv s1 h1 => thn h1 fun itv s2 h2 => ?_
  obtain ⟨it, fp, tn, J, H2, rfl, I2, T, st2, f2, ⟨ps, hP, ht⟩, q⟩ := h2
  have hPs : s2.heap.get? P = some { cls := .none, data := .fields ps } := I2.hok P _ hP
  have cd : PySem.W.CodeHd s2.heap c P := TB.code.keeps I2.bk
  refine ⟨I2.nolimit, ?_⟩
  have nP : ∀ b ∈ fp, b ≠ P := fun b hb e => by
    have := (f2 b hb).1
    rw [e, hP] at this
    cases this
  have cont : ∀ (code : Value) (h3 : Heap) (tk : Nat) (ps' : Array Value), Heap.ExtBut P s2.heap h3 → h3.get? P = some { cls := .none, data := .fields ps' } → (∃ more, ps' = ps ++ more) → TriplesOk ps'.toList →
      wpAny (model X.prog X.w) X.A (builtinsFor X.env.globals X.env.builtins) (fun bi s₄ =>
        ∀ h', h'.Ns s₄.heap.objs.size (fun y => if y = ".0" then some (.ref it) else none) → Heap.SameBut s₄.heap.objs.size (s₄.heap.push { cls := .type "frame", data := .dict #[] }) h' →
          Q' (.ref h'.objs.size) { s₄ with
            gens := s₄.gens.push (.fresh (.compStart (.GeneratorExp elt [⟨.Name x px, iter, [], 0⟩] scope gpos) 0 (.ref it) .none (genEnv scope (cloFrom X.env.cells scope.names []) s₄.heap.objs.size code bi X.env))),
            toks := s₄.toks + 1 + 1 + 1,
            heap := h'.push { cls := .type "generator", data := .fields #[.int s₄.gens.size 0, .str "<genexpr>" (s₄.toks + 1), .str (X.env.qual ++ "<genexpr>") (s₄.toks + 1 + 1)] } }) X.xe { s2 with heap := h3, toks := tk } := by
    intro code h3 tk ps' hx hP3 hmore ht3
    obtain ⟨bm, ob, e1, e2, e3, e4, e5, e6, e7, e8⟩ := TB.bm
    have keep3 : ∀ b u, b ≠ P → s2.heap.get? b = some u → h3.get? b = some u := fun b u hb e => hx b u hb e
    refine wpAny_builtinsFor (m := X.mg) (by rw [I2.ok.glob]; exact (I2.mod.glob.keeps I2.bk).extBut hx TB.gP) e1 e2 (keep3 _ _ e4 (I2.bk _ _ e5)) e6 e7 e8 ?_
    obtain ⟨more, em⟩ := hmore
    have I4 : Inv X pins σ (upd H2 P (.tbl (ps ++ more))) { s2 with heap := h3, toks := tk } := by
      have z := inv_tab (more := more) (h' := h3) (g' := s2.gens) (d' := s2.drawn) (t' := tk) I2 hP keep3 (by rw [← em]; exact hP3) I2.bare
      exact z
    have st4 : tn 0 h3 := T.keep _ _ _ st2 fun b hb o e => keep3 b o (nP b hb) e
    obtain ⟨W, ⟨m0, w0⟩, turn⟩ := q (upd H2 P (.tbl (ps ++ more))) ⟨⟨ps ++ more, upd_same, by rw [← em]; exact ht3⟩, fun b hb => upd_ne hb⟩
    have f4 : ∀ b ∈ fp, FpOk X pins (upd H2 P (.tbl (ps ++ more))) b ∧ b < h3.objs.size := fun b hb => by
      obtain ⟨o, e, _⟩ := T.obj _ _ st4 b hb
      refine ⟨⟨?_, (f2 b hb).2⟩, Heap.lt_size e⟩
      rw [upd_ne (nP b hb)]
      exact (f2 b hb).1
    intro h' hn' hs'
    have hn' : h'.Ns h3.objs.size (fun y => if y = ".0" then some (.ref it) else none) := hn'
    have hs' : Heap.SameBut h3.objs.size (h3.push { cls := .type "frame", data := .dict #[] }) h' := hs'
    have hsz : h'.objs.size = h3.objs.size + 1 := by rw [hs'.1, Heap.size_push]
    have keep' : ∀ b o, h3.get? b = some o → h'.get? b = some o := fun b o e => hs'.extBut b o (Nat.ne_of_lt (Heap.lt_size e)) (Heap.get?_push_of_some _ e)
    generalize hgo : ({ cls := .type "generator", data := .fields #[.int s2.gens.size 0, .str "<genexpr>" (tk + 1), .str (X.env.qual ++ "<genexpr>") (tk + 1 + 1)] } : Obj) = go
    have keep5 : ∀ b o, h3.get? b = some o → (h'.push go).get? b = some o := fun b o e => Heap.get?_push_of_some _ (keep' b o e)
    have hao : (h'.push go).get? h'.objs.size = some go := Heap.get?_push_size _ (by rw [← hgo]; rfl)
    generalize hgs : s2.gens.push (GenState.fresh (Code.compStart (.GeneratorExp elt [⟨.Name x px, iter, [], 0⟩] scope gpos) 0 (.ref it) .none (genEnv scope (cloFrom X.env.cells scope.names []) h3.objs.size code builtinsNs X.env))) = gs5
    have hb5 : AllBare gs5 := by rw [← hgs]; exact I2.bare.push rfl
    have hg5 : gs5[s2.gens.size]? = some (GenState.fresh (Code.compStart (.GeneratorExp elt [⟨.Name x px, iter, [], 0⟩] scope gpos) 0 (.ref it) .none (genEnv scope (cloFrom X.env.cells scope.names []) h3.objs.size code builtinsNs X.env))) := by
      rw [← hgs]; exact Array.getElem?_push_size ..
    have I5 := gen_start (code := code) (h4 := h'.push go) (g4 := gs5) (d4 := s2.drawn) (t4 := tk + 1 + 1 + 1) (a := h'.objs.size) (go := go) I4 ok hcell hN f4 keep5 (hn'.push _) hb5 (by show h3.objs.size < h'.objs.size; omega) hao (fun v z => by rw [← hgo] at z; cases z)
    generalize hge : genEnv scope (cloFrom X.env.cells scope.names []) h3.objs.size code builtinsNs X.env = ge at I5 hg5
    generalize hs4 : ({ s2 with heap := h3, toks := tk } : Shared) = s4 at I4 I5
    have hsz4 : s4.heap.objs.size = h3.objs.size := by rw [← hs4]
    have hXg : ∀ Xg, Xg = gcx X s4 (upd H2 P (.tbl (ps ++ more))) ge fp [(h'.objs.size, go)] → PG Xg (.Name x px) g ∧ PE Xg elt te := fun Xg e => by
      subst e
      rw [← hge]
      exact ⟨hg _ _ _ _ _ _ _, he _ _ _ _ _ _ _ (hr.in1.in1.deeper _)⟩
    have I5' : Inv (gcx X s4 (upd H2 P (.tbl (ps ++ more))) ge fp [(h'.objs.size, go)]) [] (wipe σ (own.map (·.2))) (upd H2 P (.tbl (ps ++ more))) { s2 with heap := h'.push go, gens := gs5, toks := tk + 1 + 1 + 1 } := by
      rw [← hs4] at I5 ⊢
      rw [← hge]
      rw [← hge] at I5
      exact I5
    rw [← hs4]
    refine hQ h'.objs.size s2.gens.size go (.str "<genexpr>" (tk + 1)) (.str (X.env.qual ++ "<genexpr>") (tk + 1 + 1)) (m0 + 1) _ ({ s2 with heap := h'.push go, gens := gs5, toks := tk + 1 + 1 + 1 } : Shared) (gcx X s4 (upd H2 P (.tbl (ps ++ more))) ge fp [(h'.objs.size, go)]) fp tn W (wipe σ (own.map (·.2))) rfl rfl hgo.symm (List.mem_singleton.mpr rfl) hao I5'.nolimit hg5 hb5 (fun s'' hr'' => ⟨rfl, ?_⟩) (fun s' σ' H' b I6 q6 => ?_)
    · obtain ⟨pg, pe⟩ := hXg _ rfl
      have hG : GInv (gcx X s4 (upd H2 P (.tbl (ps ++ more))) ge fp [(h'.objs.size, go)]) fp tn W (wipe σ (own.map (·.2))) 0 m0 s'' :=
        ⟨_, GA.Inv.res I5' hr'', by rw [hr''.heap]; exact T.keep _ _ _ st4 fun b _ o e => keep5 b o e, fun b hb => (f4 b hb).1.1, w0⟩
      refine seg_genStart (Xg := gcx X s4 (upd H2 P (.tbl (ps ++ more))) ge fp [(h'.objs.size, go)]) (A := X.A.in1.in1) (ge := ge) rfl rfl (by rw [← hge]; exact hco) hcalm rfl T (fun {σ' H' s'} I' hn b hb => ?_) pg pe turn (m0 + 1) m0 s'' s'' (Nat.lt_succ_self _) hG
      refine ⟨hn b hb, (I'.ok.exf b hb).1, I'.ok.exfs b hb, .inl hb, fun x c e => (I'.ok.exf b hb).2 x c e, fun p hp => ?_⟩
      have hp : p ∈ [(h'.objs.size, go)] ++ [] := hp
      rw [List.append_nil, List.mem_singleton] at hp
      subst hp
      have h9 := (f4 b hb).2
      show h'.objs.size ≠ b
      intro e
      exact absurd (Nat.lt_of_le_of_lt (Nat.le_of_eq e) h9) (by rw [hsz]; exact Nat.not_lt.mpr (Nat.le_succ _))
    · have I7 : Inv X pins σ H' s' := I4.call' (ch := fp) I6.os I6.base I6.hok I6.bare fun b hb => ⟨(f4 b hb).1.2.2.2.1, (f4 b hb).1.2.1, (f4 b hb).1.2.2.2.2.1, (f4 b hb).1.2.2.2.2.2⟩
      exact ⟨.bl b, H', I7, rfl, q6⟩
  cases hf : codeAmong gpos ps.toList with
  | none =>
    refine wpAny_genexprCodeX hcode (cd.code hPs ht) (cd.tab hPs) hf fun c' h' tk hx hge hlt hco' _ htab' _ => ?_
    obtain ⟨o1, vs, f1, tf, fl, tg, inF, tx, tt, op, _, _, _, _, _, _, _, _, _, htr, _⟩ := hco'
    exact cont _ h' tk _ hx htab'.2 ⟨_, rfl⟩ htr
  | some cv =>
    refine wpAny_genexprCode_hit hcode (cd.code hPs ht) hf ?_
    exact cont cv s2.heap s2.toks ps (Heap.ExtBut.refl _ _) hPs ⟨#[], by simp⟩ ht
theorem pe_allG {c P : Addr} {elt iter : Expr} {x : Str} {px p pos gpos : Pos} {scope : Scope} {own : List (Str × Nat)} {wi : TI} {g : TG} {te : TE} {k : Nat}
    (hr : Room (k + 3) X.A) (hgl : Gl X "all") (hm : X.mg "all" = none) (hb : bootBuiltins "all" = some (.builtin "all")) (TB : TabB X.base X.mg c P) (hcode : X.env.code = .ref c) (hcalm : X.calm = true) (hN : X.N.Nodup) (hco : scope.isCoroutine = false) (hcell : ∀ y ∈ scope.names, y.2 ≠ .cell) (hdot : scope.names.lookup (".0" : Str) = some NameKind.local)
    (ok : BlkOk X.N X.env.scope scope own) (hi : PI X (.Name x px) iter wi)
    (hg : ∀ (s : Shared) (H : Hp) (C : Addr) (cl : List (Str × Addr)) (code : Value) (fp : List Addr) (pn : List (Addr × Obj)), PG (gcx X s H (genEnv scope cl C code builtinsNs X.env) fp pn) (.Name x px) g)
    (he : ∀ (s : Shared) (H : Hp) (C : Addr) (cl : List (Str × Addr)) (code : Value) (fp : List Addr) (pn : List (Addr × Obj)), Room k (gcx X s H (genEnv scope cl C code builtinsNs X.env) fp pn).A → PE (gcx X s H (genEnv scope cl C code builtinsNs X.env) fp pn) elt te)
    (hs : ∀ v, genFold iter X.env v = pure v := by intro _; rfl)
    (hst : starEach [.GeneratorExp elt [⟨.Name x px, iter, [], 0⟩] scope gpos] X.env = (false, eval (.GeneratorExp elt [⟨.Name x px, iter, [], 0⟩] scope gpos) X.env) :: starEach [] X.env := by rfl) :
    PE X (.Call (.Name "all" p) [.GeneratorExp elt [⟨.Name x px, iter, [], 0⟩] scope gpos] [] pos) (tGen P wi g te (own.map (·.2)) false) := by
  refine ⟨fun pins s σ H Q I h => ?_⟩
  refine wpAny_Call_Name_kw (ld_blt I hgl hm hb ?_)
  refine PyProof.Rows.callWith_builtin1 ?_ hst (by rfl)
  rw [hst]
  show wpAny _ _ (spliced ((false, eval (.GeneratorExp elt [⟨.Name x px, iter, [], 0⟩] scope gpos) X.env) :: backTo pos (starEach [] X.env))) _ _ s
  refine Calls.spliced_cons (gen_core hr TB hcode hcalm hN hco hcell hdot ok hi hg he hs I h fun a gn go nm qn kk gs s5 Xg fp tn W σg ep ew hgo hpn ha hl hgs hbb hgoes hfin => ?_)
  refine Calls.spliced_nil ?_
  refine call_function_tree F.kind_all F.plain_all F.entry_all (F.args_all1 _) ?_
  unfold Builtin.«all»
  refine wpAny_bind (m := oneArg "all" _) (wpAny_pure ?_)
  refine wpAny_bind (wpAny_pyIter_gen (g := gn) ⟨go, nm, qn, ha, by rw [hgo], by rw [hgo], by rw [hgo]⟩ ?_)
  refine wpAny_pure ⟨plainId_quiet F.plain_all_loop _, ?_⟩
  have z := all_loop (A := X.A) (a := a) (g := gn) (go := go) (nm := nm) (qn := qn) (Xg := Xg) (fp := fp) (tn := tn) (W := W) (σg := σg) (Q := Q) hr.hd (by show X.A.in1.depth < _; exact hr.depth) hgo hpn kk gs s5 ha hl hgs hbb hgoes
  rw [ep, ew] at z
  refine codeAny_mono z fun r s' hd => ?_
  obtain ⟨b, σ', H', rfl, I', q'⟩ := hd
  exact hfin s' σ' H' b I' q'
end
end GA
namespace DN
open PySem PySem.Spec PyProof.Rows L2
/-- from any slot the walk by fives comes to each slot -/
def Full (m : Nat) : Prop := ∀ i, i ≤ m → ∀ j, j ≤ m → ∃ k, k ≤ m ∧ lcgI m i k = j
/-- the slots that n steps meet, as bits -/
def orb (m : Nat) : Nat → Nat → Nat → Nat
  | 0, _, acc => acc
  | n + 1, x, acc => orb m n ((x * 5 + 1) % (m + 1)) (acc ||| (1 <<< x))
def endO (m : Nat) : Nat → Nat → Nat
  | 0, x => x
  | n + 1, x => endO m n ((x * 5 + 1) % (m + 1))
theorem lcgI_next (m x : Nat) : ∀ k, lcgI m ((x * 5 + 1) % (m + 1)) k = lcgI m x (k + 1)
  | 0 => rfl
  | k + 1 => by
    show (lcgI m ((x * 5 + 1) % (m + 1)) k * 5 + 1) % (m + 1) = (lcgI m x (k + 1) * 5 + 1) % (m + 1)
    rw [lcgI_next m x k]
theorem endO_eq (m : Nat) : ∀ n x, endO m n x = lcgI m x n
  | 0, _ => rfl
  | n + 1, x => by rw [endO, endO_eq m n, lcgI_next]
theorem orb_bit (m j : Nat) : ∀ n x acc, (orb m n x acc).testBit j = true → acc.testBit j = true ∨ ∃ k, k < n ∧ lcgI m x k = j
  | 0, _, _, h => .inl h
  | n + 1, x, acc, h => by
    rcases orb_bit m j n _ _ h with h | ⟨k, hk, e⟩
    · rw [Nat.testBit_or, Bool.or_eq_true] at h
      rcases h with h | h
      · exact .inl h
      · rw [Nat.testBit_shiftLeft, Bool.and_eq_true, decide_eq_true_eq] at h
        have : j - x = 0 := by
          have h2 := h.2
          cases e : j - x with
          | zero => rfl
          | succ q =>
            rw [e, Nat.testBit_succ] at h2
            simp at h2
        exact .inr ⟨0, Nat.succ_pos _, by show x = j; omega⟩
    · exact .inr ⟨k + 1, Nat.succ_lt_succ hk, by rw [← lcgI_next]; exact e⟩
theorem lcgI_add (m i a : Nat) : ∀ k, lcgI m (lcgI m i a) k = lcgI m i (a + k)
  | 0 => rfl
  | k + 1 => by
    show (lcgI m (lcgI m i a) k * 5 + 1) % (m + 1) = (lcgI m i (a + k) * 5 + 1) % (m + 1)
    rw [lcgI_add m i a k]
theorem full_of {m : Nat} (h1 : orb m (m + 1) 0 0 = 2 ^ (m + 1) - 1) (h2 : endO m (m + 1) 0 = 0) : Full m := by
  have all : ∀ j, j ≤ m → ∃ k, k < m + 1 ∧ lcgI m 0 k = j := fun j hj => by
    rcases orb_bit m j (m + 1) 0 0 (by rw [h1, Nat.testBit_two_pow_sub_one]; exact decide_eq_true (by omega)) with h | h
    · simp at h
    · exact h
  have round : lcgI m 0 (m + 1) = 0 := by rw [← endO_eq]; exact h2
  intro i hi j hj
  obtain ⟨a, ha, rfl⟩ := all i hi
  obtain ⟨b, hb, rfl⟩ := all j hj
  by_cases c : a ≤ b
  · exact ⟨b - a, by omega, by rw [lcgI_add, Nat.add_sub_cancel' c]⟩
  · refine ⟨m + 1 - a + b, by omega, ?_⟩
    rw [lcgI_add, show a + (m + 1 - a + b) = (m + 1) + b by omega, ← lcgI_add, round]
/-- the masks that come -/
def MaskG (m : Nat) : Prop := m = 7 ∨ m = 31 ∨ m = 127 ∨ m = 511 ∨ m = 2047
theorem full_mask {m : Nat} (h : MaskG m) : Full m := by
  rcases h with rfl | rfl | rfl | rfl | rfl <;> exact full_of (by decide +kernel) (by decide +kernel)
theorem odd_mask {m : Nat} (h : MaskG m) : m % 2 = 1 := by
  rcases h with rfl | rfl | rfl | rfl | rfl <;> rfl
theorem le_mask {m : Nat} (h : MaskG m) : m ≤ 2047 := by
  rcases h with rfl | rfl | rfl | rfl | rfl <;> decide
theorem run_to {m : Nat} (f : Full m) (h : Int) {j : Nat} (hj : j ≤ m) : ∃ n, n ≤ m + 12 ∧ runI m (SetTable.bits h) n = j := by
  obtain ⟨k, hk, e⟩ := f _ (runI_le m (SetTable.bits h) 12) j hj
  exact ⟨12 + k, by omega, (runI_tail (bits_lt h) k).trans e⟩
theorem way_to {m : Nat} (f : Full m) (h : Int) {j : Nat} (hj : j ≤ m) : ∃ k, k < 10 * SetTable.turns m ∧ way m h k = j := by
  obtain ⟨n, hn, e⟩ := run_to f h hj
  obtain ⟨k, hk, e2⟩ := run_nth m (SetTable.bits h) n
  refine ⟨k, by unfold SetTable.turns; omega, ?_⟩
  show (nth m _ k).j = j
  rw [e2]
  exact e
theorem way_in {m : Nat} (h : Int) (k : Nat) : way m h k ≤ m := by
  have r := runEnd_bd (m := m) (i := SetTable.bits h % (m + 1)) (Nat.le_of_lt_succ (Nat.mod_lt _ (Nat.succ_pos _)))
  have := nth_in (m := m) k (runAt m (SetTable.bits h % (m + 1)) (SetTable.bits h)) (by
    show _ % (m + 1) + (SetTable.runEnd m _ - _ % (m + 1)) ≤ m
    omega)
  show (nth m _ k).j ≤ m
  omega
/-- every hash has its seat: the first place of its way that was free -/
structure TabG (t : SetTable) (hs : List Int) : Prop where
  ris : Ris t.place.toList
  dm : t.dummies = #[]
  sz : t.place.size = hs.length
  mok : MaskG t.mask
  seat : ∀ (i : Nat) (h : Int), hs[i]? = some h → ∃ K, t.place.toList[i]? = some (way t.mask h K) ∧ ∀ k, k < K → way t.mask h k ∈ t.place.toList
section
variable {t : SetTable} {hs : List Int}
theorem TabG.len (T : TabG t hs) : t.place.toList.length = hs.length := by rw [Array.length_toList]; exact T.sz
/-- a way ends at a free place -/
theorem TabG.first (T : TabG t hs) (hl : hs.length ≤ t.mask) (h : Int) : ∃ K, K < 10 * SetTable.turns t.mask ∧ way t.mask h K ∉ t.place.toList ∧ ∀ k, k < K → way t.mask h k ∈ t.place.toList := by
  obtain ⟨j, hj, hn⟩ := st_missing t.place.toList (t.mask + 1) (by rw [T.len]; omega)
  obtain ⟨k, hk, e⟩ := way_to (full_mask T.mok) h (Nat.le_of_lt_succ hj)
  obtain ⟨K, h1, h2, h3⟩ := st_least (p := fun k => way t.mask h k ∉ t.place.toList) k (e ▸ hn)
  exact ⟨K, by omega, h2, fun q hq => Classical.byContradiction fun z => h3 q hq z⟩
theorem TabG.before (T : TabG t hs) {h : Int} {K i j : Nat} (hK : way t.mask h K ∉ t.place.toList) (hi : hs[i]? = some h) (hj : t.place.toList[i]? = some j) : ∃ k, k < K ∧ way t.mask h k = j := by
  obtain ⟨k, e, b⟩ := T.seat i h hi
  rw [hj] at e
  injection e with e
  refine ⟨k, Nat.lt_of_not_le fun le => hK ?_, e.symm⟩
  rcases Nat.lt_or_ge K k with c | c
  · exact b K c
  · rw [Nat.le_antisymm le c, ← e]
    exact List.mem_of_getElem? hj
theorem TabG.put (T : TabG t hs) {h : Int} {K : Nat} (hK : way t.mask h K ∉ t.place.toList) (hb : ∀ k, k < K → way t.mask h k ∈ t.place.toList) :
    (t.put (way t.mask h K)).2 = SetTable.below t.place (way t.mask h K) ∧ SetTable.below t.place (way t.mask h K) ≤ hs.length ∧
    TabG (t.put (way t.mask h K)).1 (hs.take (SetTable.below t.place (way t.mask h K)) ++ h :: hs.drop (SetTable.below t.place (way t.mask h K))) ∧
    (t.put (way t.mask h K)).1.mask = t.mask ∧ (t.put (way t.mask h K)).1.led = t.led ∧ (t.put (way t.mask h K)).1.plain = t.plain ∧ (t.put (way t.mask h K)).1.moves = t.moves ∧ (t.put (way t.mask h K)).1.finger = t.finger ∧
    (t.put (way t.mask h K)).1.fill = hs.length + 1 := by
  have low := (below_cut T.ris (way t.mask h K)).1
  have out : t.place[SetTable.below t.place (way t.mask h K)]? ≠ some (way t.mask h K) := fun e => hK (List.mem_of_getElem? (by rw [Array.getElem?_toList]; exact e))
  have pl := put_place t (way t.mask h K)
  have dm := put_dm T.dm (way t.mask h K)
  have rs := ris_insert T.ris out
  generalize hp : SetTable.below t.place (way t.mask h K) = p at low out pl rs ⊢
  have lp : p ≤ t.place.toList.length := by rw [Array.length_toList]; exact low
  have lh : p ≤ hs.length := by rw [← T.sz]; exact low
  have sz1 : (t.put (way t.mask h K)).1.place.size = hs.length + 1 := by rw [← Array.length_toList, pl, len_ins _ lp, T.len]
  have up : ∀ x, x ∈ t.place.toList → x ∈ (t.put (way t.mask h K)).1.place.toList := fun x hx => by
    rw [pl]
    exact mem_ins.mpr (.inr hx)
  refine ⟨hp, lh, ⟨by rw [pl]; rw [SetTable.toList_insertAt] at rs; exact rs, dm, by rw [len_ins _ lh]; exact sz1, T.mok, fun i g hg => ?_⟩, rfl, rfl, rfl, rfl, rfl, by show (t.put (way t.mask h K)).1.place.size + (t.put (way t.mask h K)).1.dummies.size = hs.length + 1; rw [sz1, dm]; rfl⟩
  show ∃ Q, (t.put (way t.mask h K)).1.place.toList[i]? = some (way t.mask g Q) ∧ ∀ k, k < Q → way t.mask g k ∈ (t.put (way t.mask h K)).1.place.toList
  rw [tins_get hs lh] at hg
  have get : (t.put (way t.mask h K)).1.place.toList[i]? = if i < p then t.place.toList[i]? else if i = p then some (way t.mask h K) else t.place.toList[i - 1]? := by rw [pl, tins_get _ lp]
  have old : ∀ q, hs[q]? = some g → ∃ Q, t.place.toList[q]? = some (way t.mask g Q) ∧ ∀ k, k < Q → way t.mask g k ∈ (t.put (way t.mask h K)).1.place.toList := fun q hq => by
    obtain ⟨Q, e, b⟩ := T.seat q g hq
    exact ⟨Q, e, fun k hk => up _ (b k hk)⟩
  rw [get]
  by_cases c : i < p
  · rw [if_pos c] at hg ⊢
    exact old i hg
  · rw [if_neg c] at hg ⊢
    by_cases d : i = p
    · rw [if_pos d] at hg ⊢
      cases hg
      exact ⟨K, rfl, fun k hk => up _ (hb k hk)⟩
    · rw [if_neg d] at hg ⊢
      exact old (i - 1) hg
end
section
variable {m : Nat} {owner : Array (Option Nat)} {done : List Int}
theorem free_first (f : Full m) (h : Int) {j : Nat} (hj : j ≤ m) (hf : oAt owner j = none) :
    ∃ K, SetTable.layClean.free m owner (SetTable.turns m) (SetTable.bits h % (m + 1)) (SetTable.bits h) = some (way m h K) ∧ oAt owner (way m h K) = none ∧ ∀ k, k < K → oAt owner (way m h k) ≠ none := by
  obtain ⟨n, hn, e⟩ := run_to f h hj
  have at_ : way m h (off m (SetTable.bits h % (m + 1)) (SetTable.bits h) n) = j := by
    show (nth m _ _).j = j
    rw [nth_off, itL_run]
    exact e
  obtain ⟨K, k1, k2, k3⟩ := st_least (p := fun k => oAt owner (way m h k) = none) _ (show oAt owner (way m h (off m (SetTable.bits h % (m + 1)) (SetTable.bits h) n)) = none by rw [at_]; exact hf)
  refine ⟨K, free_spec m owner _ n _ _ K (by unfold SetTable.turns; omega) k1 (fun k hk => ?_) (by rw [Option.isNone_iff_eq_none]; exact k2), k2, k3⟩
  rw [Option.isNone_eq_false_iff, Option.isSome_iff_ne_none]
  exact k3 k hk
theorem own_put (W : Own m done owner) {h : Int} {K : Nat} (e : oAt owner (way m h K) = none) (b : ∀ k, k < K → oAt owner (way m h k) ≠ none) : Own m (done ++ [h]) (owner.setIfInBounds (way m h K) (some done.length)) := by
  have inb : way m h K < owner.size := by rw [W.sz]; exact Nat.lt_succ_of_le (way_in h K)
  have self := oAt_set_self (some done.length) inb
  have keep : ∀ q, oAt owner q ≠ none → oAt (owner.setIfInBounds (way m h K) (some done.length)) q = oAt owner q := fun q hq => oAt_set_ne _ fun z => hq (z ▸ e)
  refine ⟨by rw [Array.size_setIfInBounds]; exact W.sz, fun j k hj o => ?_, fun k hk => ?_, ?_⟩
  · by_cases c : j = way m h K
    · rw [c, self] at o
      cases o
      exact ⟨h, K, List.getElem?_concat_length, c.symm, fun k hk => by rw [keep _ (b k hk)]; exact b k hk⟩
    · rw [oAt_set_ne _ c] at o
      obtain ⟨g, Q, a1, a2, a3⟩ := W.at_ j k hj o
      exact ⟨g, Q, by rw [List.getElem?_append_left (List.getElem?_eq_some_iff.mp a1).1]; exact a1, a2, fun k hk => by rw [keep _ (a3 k hk)]; exact a3 k hk⟩
  · by_cases c : k < done.length
    · obtain ⟨j, hj, o⟩ := W.all k c
      exact ⟨j, hj, by rw [keep j (by rw [o]; exact fun z => nomatch z)]; exact o⟩
    · simp only [List.length_append, List.length_cons, List.length_nil] at hk
      obtain rfl : k = done.length := by omega
      exact ⟨_, way_in h K, self⟩
  · obtain ⟨ps, l, p⟩ := W.ps
    refine ⟨way m h K :: ps, by simp [l], fun j hj o => ?_⟩
    by_cases c : j = way m h K
    · exact c ▸ List.mem_cons_self
    · rw [oAt_set_ne _ c] at o
      exact List.mem_cons_of_mem _ (p j hj o)
theorem lay_all (f : Full m) : ∀ (rest done : List Int) (owner : Array (Option Nat)), Own m done owner → done.length + rest.length ≤ m →
    ∃ o2, rest.foldl (stepF m) (some (owner, done.length)) = some (o2, (done ++ rest).length) ∧ Own m (done ++ rest) o2
  | [], done, owner, W, _ => ⟨owner, by rw [List.append_nil]; rfl, by rw [List.append_nil]; exact W⟩
  | h :: rest, done, owner, W, hl => by
    obtain ⟨ps, l, p⟩ := W.ps
    simp only [List.length_cons] at hl
    obtain ⟨j, hj, hn⟩ := st_missing ps (m + 1) (by omega)
    have hf : oAt owner j = none := Classical.byContradiction fun z => hn (p j (Nat.le_of_lt_succ hj) z)
    obtain ⟨K, e, k2, k3⟩ := free_first f h (Nat.le_of_lt_succ hj) hf
    obtain ⟨o2, e2, W2⟩ := lay_all f rest (done ++ [h]) _ (own_put W k2 k3) (by simp only [List.length_append, List.length_cons, List.length_nil]; omega)
    rw [List.append_assoc, List.singleton_append] at e2 W2
    refine ⟨o2, ?_, W2⟩
    rw [List.foldl_cons, stepF_some e]
    rw [show (done ++ [h]).length = done.length + 1 by simp] at e2
    exact e2
theorem relaidG (t : SetTable) {hs : Array Int} {wanted M : Nat} (hw : SetTable.sizeAbove wanted - 1 = M) (hM : MaskG M) (hn : hs.size ≤ M) :
    ∃ t' order, t.relaid hs wanted = some (t', order) ∧ order.toList.Perm (List.range hs.size) ∧ TabG t' (order.toList.map fun i => hs.getD i 0) ∧ t'.mask = M ∧ t'.led = t.led ∧ t'.plain = t.plain ∧ t'.dummies = #[] := by
  obtain ⟨owner, e, W⟩ := lay_all (full_mask hM) hs.toList [] (Array.replicate (M + 1) none) (Own.init M) (by rw [Array.length_toList]; show 0 + hs.size ≤ M; omega)
  rw [List.nil_append] at e W
  have e' : SetTable.layClean M hs = some owner := by
    rw [layClean_eq]
    have z : hs.toList.foldl (stepF M) (some (Array.replicate (M + 1) none, 0)) = some (owner, hs.toList.length) := e
    rw [z]
    rfl
  have hr : t.relaid hs wanted = some (tabOf t M owner, ((liveOf M owner).map (·.2)).toArray) := by
    rw [relaid_eq, hw, e']
    rfl
  have rl := (ris_live (fun j => owner.getD j none) (List.range (M + 1)) (by
    unfold Ris
    exact List.pairwise_lt_range)).1
  have rl : Ris ((liveOf M owner).map (·.1)) := rl
  have seats : ∀ i y k, (liveOf M owner)[i]? = some (y, k) → ∃ h K, hs.toList[k]? = some h ∧ way M h K = y ∧ ∀ k', k' < K → way M h k' ∈ (liveOf M owner).map (·.1) := fun i y k hq => by
    obtain ⟨b1, b2⟩ := (mem_live W.sz).mp (List.mem_of_getElem? hq)
    obtain ⟨h, K, a1, a2, a3⟩ := W.at_ y k b1 b2
    refine ⟨h, K, a1, a2, fun k' hk' => ?_⟩
    cases z : oAt owner (way M h k') with
    | none => exact absurd z (a3 k' hk')
    | some k2 => exact List.mem_map.mpr ⟨(way M h k', k2), (mem_live W.sz).mpr ⟨way_in h k', z⟩, rfl⟩
  have len : (liveOf M owner).length = hs.size := by
    obtain ⟨ps, p1, p2⟩ := W.ps
    refine Nat.le_antisymm ?_ ?_
    · have nd : ((liveOf M owner).map (·.1)).Nodup := List.Pairwise.imp (fun h => Nat.ne_of_lt h) rl
      have := nat_nodup_len ((liveOf M owner).map (·.1)) ps nd fun x hx => by
        obtain ⟨⟨y, k⟩, hq, rfl⟩ := List.mem_map.mp hx
        obtain ⟨b1, b2⟩ := (mem_live W.sz).mp hq
        exact p2 y b1 (by rw [b2]; exact fun z => nomatch z)
      rw [List.length_map, p1, Array.length_toList] at this
      exact this
    · have := nat_nodup_len (List.range hs.size) ((liveOf M owner).map (·.2)) List.nodup_range fun k hk => by
        obtain ⟨j, b1, b2⟩ := W.all k (by rw [Array.length_toList]; exact List.mem_range.mp hk)
        exact List.mem_map.mpr ⟨(j, k), (mem_live W.sz).mpr ⟨b1, b2⟩, rfl⟩
      rw [List.length_map, List.length_range] at this
      exact this
  refine ⟨tabOf t M owner, _, hr, perm_range hs.size _ ?_ fun k hk => ?_, ⟨rl, rfl, ?_, hM, fun i h hi => ?_⟩, rfl, rfl, rfl, rfl⟩
  · show ((liveOf M owner).map (·.2)).length = hs.size
    rw [List.length_map]
    exact len
  · obtain ⟨j, b1, b2⟩ := W.all k (by rw [Array.length_toList]; exact hk)
    exact List.mem_map.mpr ⟨(j, k), (mem_live W.sz).mpr ⟨b1, b2⟩, rfl⟩
  · show ((liveOf M owner).map (·.1)).toArray.size = (((liveOf M owner).map (·.2)).map fun i => hs.getD i 0).length
    simp
  · show ∃ K, ((liveOf M owner).map (·.1))[i]? = some (way M h K) ∧ ∀ k, k < K → way M h k ∈ (liveOf M owner).map (·.1)
    have hi : (((liveOf M owner).map (·.2)).map fun i => hs.getD i 0)[i]? = some h := hi
    rw [List.getElem?_map, List.getElem?_map] at hi
    obtain ⟨k, hk, rfl⟩ := Option.map_eq_some_iff.mp hi
    obtain ⟨⟨y, k'⟩, hq, rfl⟩ := Option.map_eq_some_iff.mp hk
    obtain ⟨g, K, a1, a2, a3⟩ := seats i y k' hq
    have eg : hs.getD k' 0 = g := by
      rw [Array.getD_eq_getD_getElem?, ← Array.getElem?_toList, a1]
      rfl
    rw [eg]
    exact ⟨K, by rw [List.getElem?_map, hq, a2]; rfl, a3⟩
end
end DN
namespace DN
open PySem PySem.Spec PyProof.Rows L2
abbrev NK := NestedKey
mutual
/-- nothing in it is a text -/
def dry : NK → Bool
  | .none => true
  | .num _ => true
  | .text _ => false
  | .tup ks => dryL ks
def dryL : List NK → Bool
  | [] => true
  | k :: ks => dry k && dryL ks
end
section
variable {P : Program} {w : World}
def NoCls (P : Program) (w : World) (n : Nat) (s : Shared) (v : Value) : Prop := ∀ (A : Around) (E : Value → Shared → Prop) (Q : Bool → Shared → Prop), Q false s → wpAny (model P w) A (ofAClassStatement n v) Q E s
def ByVal (P : Program) (w : World) (n : Nat) (s : Shared) (v : Value) : Prop := ∀ (A : Around) (E : Value → Shared → Prop) (Q : Bool → Shared → Prop), Q true s → wpAny (model P w) A (hashByValue n v) Q E s
theorem NoCls.tup {n : Nat} {s : Shared} {b : Addr} {o : Obj} {vs : Array Value} {m : Nat} (e1 : s.heap.get? b = some o) (e2 : o.cls = .type "tuple") (e3 : o.data = .seq vs m) (all : ∀ v ∈ vs.toList, NoCls P w n s v) : NoCls P w (n + 1) s (.ref b) := by
  intro A E Q fin
  have ty : s.TypeIs (.ref b) "tuple" := ⟨o, e1, e2⟩
  unfold ofAClassStatement
  refine wpAny_bind (wpAny_typeOf ty ?_)
  dsimp only
  simp only [show (("tuple" : String) == "tuple") = true from by decide, if_true, Bool.not_true, Bool.false_eq_true, if_false]
  try refine wpAny_bind (wpAny_pure ?_)
  try simp only [Bool.not_true, Bool.false_eq_true, if_false]
  show wpAny _ _ (seqItems? (.ref b) >>= _) _ _ s
  refine wpAny_bind (wpAny_seqItems e1 e3 ?_)
  dsimp only
  refine wpAny_bind ?_
  show wpAny _ _ (forIn vs _ _) _ _ s
  rw [← Array.forIn_toList]
  refine wpAny_forIn_list _ (fun left r t => (r.1 = none ∧ t = s) ∧ ∀ v ∈ left, NoCls P w n s v) _ ?_ ?_ _ _ ⟨⟨rfl, rfl⟩, all⟩
  · intro v left r t q
    obtain ⟨⟨q1, rfl⟩, q2⟩ := q
    refine wpAny_bind (q2 v List.mem_cons_self _ _ _ ?_)
    simp only [Bool.false_eq_true, if_false]
    exact wpAny_pure ⟨⟨rfl, rfl⟩, fun u hu => q2 u (List.mem_cons_of_mem _ hu)⟩
  · intro r t q
    obtain ⟨r1, r2⟩ := r
    obtain ⟨⟨q1, rfl⟩, _⟩ := q
    have q1 : r1 = none := q1
    subst q1
    exact wpAny_pure fin
theorem ByVal.tup {n : Nat} {s : Shared} {b : Addr} {o : Obj} {vs : Array Value} {m : Nat} (e1 : s.heap.get? b = some o) (e2 : o.cls = .type "tuple") (e3 : o.data = .seq vs m) (all : ∀ v ∈ vs.toList, ByVal P w n s v) : ByVal P w (n + 1) s (.ref b) := by
  intro A E Q fin
  have ty : s.TypeIs (.ref b) "tuple" := ⟨o, e1, e2⟩
  unfold hashByValue
  refine wpAny_bind (wpAny_specialOf ty F.slot_tuple_hash.lookup ?_)
  show wpAny _ _ (seqItems? (.ref b) >>= _) _ _ s
  refine wpAny_bind (wpAny_seqItems e1 e3 ?_)
  refine wpAny_bind ?_
  show wpAny _ _ (forIn vs _ _) _ _ s
  rw [← Array.forIn_toList]
  refine wpAny_forIn_list _ (fun left r t => (r.1 = none ∧ t = s) ∧ ∀ v ∈ left, ByVal P w n s v) _ ?_ ?_ _ _ ⟨⟨rfl, rfl⟩, all⟩
  · intro v left r t q
    obtain ⟨⟨q1, rfl⟩, q2⟩ := q
    refine wpAny_bind (q2 v List.mem_cons_self _ _ _ ?_)
    simp only [Bool.not_true, Bool.false_eq_true, if_false]
    exact wpAny_pure ⟨⟨rfl, rfl⟩, fun u hu => q2 u (List.mem_cons_of_mem _ hu)⟩
  · intro r t q
    obtain ⟨r1, r2⟩ := r
    obtain ⟨⟨q1, rfl⟩, _⟩ := q
    have q1 : r1 = none := q1
    subst q1
    exact wpAny_pure fin
theorem NoCls.leaf {n : Nat} {s : Shared} {v : Value} (h : ∀ a, v ≠ .ref a) : NoCls P w n s v := by
  intro A E Q fin
  have e : ofAClassStatement n v = pure false := by
    unfold ofAClassStatement
    split
    · exact absurd rfl (h _)
    · rfl
  rw [e]
  exact wpAny_pure fin
mutual
theorem noCls : ∀ (k : NK) (v : Value) (n : Nat) (s : Shared), NestedIs s.heap k v → k.depth ≤ n → NoCls P w n s v
  | .none, _, n, s, x, _ => by
    cases x
    exact .leaf fun _ e => nomatch e
  | .num i, _, n, s, x, _ => by cases x <;> exact .leaf fun _ e => nomatch e
  | .text y, _, n, s, x, _ => by
    cases x
    exact .leaf fun _ e => nomatch e
  | .tup ks, _, n, s, x, d => by
    cases x with
    | tup x1 x2 x3 x4 =>
      simp only [NestedKey.depth] at d
      match n, d with
      | n + 1, d => exact .tup x1 x2 x3 (noClsL ks _ n s x4 (by omega))
theorem noClsL : ∀ (ks : List NK) (vs : List Value) (n : Nat) (s : Shared), NestedAll s.heap ks vs → NestedKey.depthAll ks ≤ n → ∀ v ∈ vs, NoCls P w n s v
  | [], _, n, s, x, _, v, m => by
    cases x
    cases m
  | k :: ks, _, n, s, x, d, v, m => by
    cases x with
    | cons x1 x2 =>
      simp only [NestedKey.depthAll] at d
      rcases List.mem_cons.mp m with rfl | m
      · exact noCls k _ n s x1 (by omega)
      · exact noClsL ks _ n s x2 (by omega) v m
end
mutual
theorem byVal : ∀ (k : NK) (v : Value) (n : Nat) (s : Shared), NestedIs s.heap k v → k.depth ≤ n → dry k = true → ByVal P w n s v
  | .none, _, n, s, x, _, _ => by
    cases x
    intro A E Q fin
    rw [show hashByValue n .none = pure true from by cases n <;> rfl]
    exact wpAny_pure fin
  | .num i, _, n, s, x, _, _ => by
    cases x with
    | bool e =>
      intro A E Q fin
      rw [show ∀ b, hashByValue n (.bool b) = pure true from fun b => by cases n <;> rfl]
      exact wpAny_pure fin
    | int _ t =>
      intro A E Q fin
      rw [show hashByValue n (.int i t) = pure true from by cases n <;> rfl]
      exact wpAny_pure fin
  | .text y, _, n, s, x, _, y2 => by simp [dry] at y2
  | .tup ks, _, n, s, x, d, y2 => by
    cases x with
    | tup x1 x2 x3 x4 =>
      simp only [NestedKey.depth] at d
      simp only [dry] at y2
      match n, d with
      | n + 1, d => exact .tup x1 x2 x3 (byValL ks _ n s x4 (by omega) y2)
theorem byValL : ∀ (ks : List NK) (vs : List Value) (n : Nat) (s : Shared), NestedAll s.heap ks vs → NestedKey.depthAll ks ≤ n → dryL ks = true → ∀ v ∈ vs, ByVal P w n s v
  | [], _, n, s, x, _, _, v, m => by
    cases x
    cases m
  | k :: ks, _, n, s, x, d, y2, v, m => by
    cases x with
    | cons x1 x2 =>
      simp only [NestedKey.depthAll] at d
      simp only [dryL, Bool.and_eq_true] at y2
      rcases List.mem_cons.mp m with rfl | m
      · exact byVal k _ n s x1 (by omega) y2.1
      · exact byValL ks _ n s x2 (by omega) y2.2 v m
end
/-- the tuple at b is the key k -/
structure Kat (h : Heap) (k : NK) (b : Addr) : Prop where
  is : NestedIs h k (.ref b)
  low : k.depth ≤ 8
  dry : dry k = true
theorem Kat.kind {h : Heap} {k : NK} {b : Addr} (x : Kat h k b) : (nestedKind P w).is h k b := ⟨x.is, x.low⟩
theorem Kat.inj {h : Heap} {k l : NK} {b : Addr} (x : Kat h k b) (y : Kat h l b) : k = l := NestedIs.inj _ _ _ x.is y.is
theorem Kat.move {h h' : Heap} {k : NK} {b : Addr} (x : Kat h k b) (hk : ∀ c o vs n, h.get? c = some o → o.data = .seq vs n → h'.get? c = some o) : Kat h' k b := ⟨NestedIs.at hk _ _ x.is, x.low, x.dry⟩
variable {A : Around} {E : Value → Shared → Prop} {s : Shared}
/-- looking among keys shows nothing -/
theorem unseen {k : NK} {b : Addr} {ys : List Value} {Q : Bool → Shared → Prop} (x : Kat s.heap k b) (hy : ∀ y ∈ ys, ∃ l c, y = Value.ref c ∧ Kat s.heap l c) (fin : Q false s) : wpAny (model P w) A (searchCouldBeSeen (.ref b) ys) Q E s := by
  unfold searchCouldBeSeen
  refine wpAny_bind ?_
  refine wpAny_forIn_list _ (fun left r t => (r.1 = none ∧ t = s) ∧ ∀ y ∈ left, ∃ l c, y = Value.ref c ∧ Kat s.heap l c) _ ?_ ?_ _ _ ⟨⟨rfl, rfl⟩, hy⟩
  · intro v left r t q
    obtain ⟨⟨q1, rfl⟩, q2⟩ := q
    obtain ⟨l, c, rfl, z⟩ := q2 v List.mem_cons_self
    have next : ∀ y ∈ left, ∃ l c, y = Value.ref c ∧ Kat t.heap l c := fun y m => q2 y (List.mem_cons_of_mem _ m)
    dsimp only
    cases hc : (b == c || (carriedByValue (.ref b) && carriedByValue (.ref c))) with
    | true =>
      refine wp_if_pos rfl ?_
      exact wpAny_pure ⟨⟨rfl, rfl⟩, next⟩
    | false =>
      refine wp_if_neg (by decide) ?_
      refine wpAny_bind (quiet_key (prog := P) (w := w) k _ 8 t x.is x.low _ _ _ ?_)
      simp only [Bool.not_true, Bool.false_eq_true, if_false]
      refine wpAny_bind (quiet_key (prog := P) (w := w) l _ 8 t z.is z.low _ _ _ ?_)
      simp only [Bool.not_true, Bool.false_eq_true, if_false]
      refine wpAny_bind (noCls k _ 8 t x.is x.low _ _ _ ?_)
      simp only [Bool.false_eq_true, if_false]
      refine wpAny_bind (noCls l _ 8 t z.is z.low _ _ _ ?_)
      simp only [Bool.false_eq_true, if_false]
      exact wpAny_pure ⟨⟨rfl, rfl⟩, next⟩
  · intro r t q
    obtain ⟨r1, r2⟩ := r
    obtain ⟨⟨q1, rfl⟩, _⟩ := q
    have q1 : r1 = none := q1
    subst q1
    exact wpAny_pure fin
end
end DN
namespace DN
open PySem PySem.Spec PyProof.Rows L2
abbrev Ent := Addr × NK
def rowE (w : World) (e : Ent) : Int × Value := (e.2.hash w, Value.ref e.1)
def hsE (w : World) (L : List Ent) : List Int := L.map fun e => e.2.hash w
/-- the object of a set of keys; fo: whether its order follows the text -/
structure SetAt (w : World) (fo : Bool) (h : Heap) (a : Addr) (L : List Ent) (es : Array (Int × Value)) (ep : Nat) (t : SetTable) : Prop where
  obj : ∃ o, h.get? a = some o ∧ o.ExactSet ∧ o.data = .set es ep t
  rows : es.toList = L.map (rowE w)
  tab : TabG t (hsE w L)
  once : (L.map (·.2)).Nodup
  plain : t.plain = true
  led : fo = true ∨ t.led = true
  gap : L.length * 5 < t.mask * 3
structure SetIn (w : World) (fo : Bool) (h : Heap) (a : Addr) (L : List Ent) (es : Array (Int × Value)) (ep : Nat) (t : SetTable) : Prop extends SetAt w fo h a L es ep t where
  keys : ∀ e ∈ L, Kat h e.2 e.1
section
variable {P : Program} {w : World} {A : Around} {E : Value → Shared → Prop} {s : Shared} {fo : Bool} {a : Addr} {L : List Ent} {es : Array (Int × Value)} {ep : Nat} {t : SetTable}
theorem SetAt.size {h : Heap} (T : SetAt w fo h a L es ep t) : es.size = L.length := by
  rw [← Array.length_toList, T.rows, List.length_map]
theorem SetAt.psz {h : Heap} (T : SetAt w fo h a L es ep t) : t.place.size = L.length := by
  rw [T.tab.sz, hsE, List.length_map]
theorem SetAt.fits {h : Heap} (T : SetAt w fo h a L es ep t) : t.fits es.size = true := by
  have z1 := T.psz
  have z2 := T.size
  have z3 := T.gap
  simp only [SetTable.fits, SetTable.fill, T.tab.dm, Bool.and_eq_true, beq_iff_eq, decide_eq_true_eq, z1, z2, true_and]
  show L.length + 0 ≤ t.mask
  omega
theorem SetAt.row {h : Heap} (T : SetAt w fo h a L es ep t) {i : Nat} {e : Ent} (q : L[i]? = some e) : es[i]? = some (e.2.hash w, Value.ref e.1) := by
  rw [← Array.getElem?_toList, T.rows, List.getElem?_map, q]
  rfl
theorem SetAt.stays {h : Heap} (T : SetAt w fo h a L es ep t) : ¬ t.gaveWay = true := by
  unfold SetTable.gaveWay
  rw [odd_mask T.tab.mok]
  decide
/-- the probe at step c of the way of a hash -/
abbrev stp (m : Nat) (g : Int) (c : Nat) : SetTable.Probe := nth m (runAt m (SetTable.bits g % (m + 1)) (SetTable.bits g)) c
theorem stp_free (m : Nat) (g : Int) (c : Nat) : (stp m g c).dummy = none := by
  have key : ∀ (n : Nat) (p : SetTable.Probe), p.dummy = none → (nth m p n).dummy = none := fun n => by
    induction n with
    | zero => exact fun p z => z
    | succ n ih =>
      intro p z
      refine ih (adv m p) ?_
      unfold adv
      split
      · exact z
      · exact z
  exact key c _ rfl
theorem stp_more (m : Nat) (g : Int) (c q : Nat) : nth m (stp m g c) q = stp m g (c + q) := (nth_add m c _ q).symm
theorem hunt_go (adding : Bool) (T : SetIn w fo s.heap a L es ep t) {x : Addr} {k : NK} (hx : Kat s.heap k x) (room : A.units + 8 < cLine) {N : Nat} (hN : N < 10 * SetTable.turns t.mask)
    (free : way t.mask (k.hash w) N ∉ t.place.toList) (full : ∀ c, c < N → way t.mask (k.hash w) c ∈ t.place.toList) {Q : SetFound → Shared → Prop}
    (yes : k ∈ L.map (·.2) → ∀ r : Option Nat, (adding = false → r.isSome = true) → Q (.there r) s) (no : k ∉ L.map (·.2) → Q (.free (way t.mask (k.hash w) N) false) s) :
    ∀ (f c : Nat) (from_ : Option SetTable.Probe), from_.getD (t.probeStart (k.hash w)) = stp t.mask (k.hash w) c → c ≤ N → N - c < f →
      (∀ (i : Nat) (e : Ent), L[i]? = some e → e.2 = k → ∃ c', c ≤ c' ∧ c' < N ∧ t.place.toList[i]? = some (way t.mask (k.hash w) c')) →
      wpAny (model P w) A (setSearchFrom a (.ref x) (k.hash w) adding f from_) Q E s := by
  intro f
  induction f with
  | zero => exact fun c _ _ _ z _ => absurd z (Nat.not_lt_zero _)
  | succ f ih =>
    intro c from_ hfrom hc hf hme
    obtain ⟨o, o1, o2, o3⟩ := T.obj
    have st : ∀ {R : (Array (Int × Value) × Nat × SetTable) → Shared → Prop}, R (es, ep, t) s → wpAny (model P w) A (setState a) R E s := fun z => wpAny_setState_of o1 o3 T.fits z
    rw [setSearchFrom_succ]
    refine wpAny_bind (st ?_)
    dsimp only
    refine wp_if_neg T.stays ?_
    try refine wpAny_bind (wpAny_pure ?_)
    have hash_at : ∀ (i : Nat) (e : Ent), L[i]? = some e → (fun i => (es[i]?.map (·.1)).getD 0) i = e.2.hash w := fun i e z => by
      show (es[i]?.map (·.1)).getD 0 = _
      rw [T.row z]
      rfl
    have j_at : ∀ q, (nth t.mask (stp t.mask (k.hash w) c) q).j = way t.mask (k.hash w) (c + q) := fun q => congrArg SetTable.Probe.j (stp_more t.mask (k.hash w) c q)
    have eN : c + (N - c) = N := by omega
    have found := go_spec t T.tab.ris T.tab.dm (fun i => (es[i]?.map (·.1)).getD 0) (k.hash w) (10 * SetTable.turns t.mask) (N - c) _ (stp_free t.mask (k.hash w) c) (by omega)
      (fun q hq => by rw [j_at]; exact full (c + q) (by omega)) (by rw [j_at, eN]; exact free)
    rcases found with ⟨q, i, u1, u2, u3, u4, u5⟩ | ⟨u4, u5⟩
    · rw [j_at] at u2
      have hp : t.probe (fun i => (es[i]?.map (·.1)).getD 0) (k.hash w) (from_.getD (t.probeStart (k.hash w))) = some (.candidate (way t.mask (k.hash w) (c + q)) i (stp t.mask (k.hash w) (c + (q + 1)))) := by
        rw [hfrom, ← j_at, ← stp_more]
        exact u5
      rw [hp]
      dsimp only
      have li : i < L.length := by
        have z := (List.getElem?_eq_some_iff.mp u2).1
        rw [Array.length_toList, T.psz] at z
        exact z
      obtain ⟨e, he⟩ : ∃ e, L[i]? = some e := ⟨_, List.getElem?_eq_getElem li⟩
      have me := List.mem_of_getElem? he
      have ke := T.keys e me
      have liv : t.slot (way t.mask (k.hash w) (c + q)) = .live i := slot_live T.tab.ris u2
      have rest : wpAny (model P w) A (searchRest a (.ref x) (k.hash w) adding f es t (way t.mask (k.hash w) (c + q)) i (stp t.mask (k.hash w) (c + (q + 1)))) Q E s := by
        unfold searchRest
        rw [T.row he]
        dsimp only
        refine wpAny_bind (wpAny_holding ((nestedKind P w).eqBool room ke.kind hx.kind ?_))
        refine wpAny_bind (st ?_)
        dsimp only
        by_cases same : e.2 = k
        · have mem : k ∈ L.map (·.2) := List.mem_map.mpr ⟨e, me, same⟩
          cases adding with
          | true =>
            refine wp_if_pos (by simp [same]) ?_
            exact wpAny_pure (yes mem _ fun z => nomatch z)
          | false =>
            refine wp_if_neg (by simp) ?_
            try refine wpAny_bind (wpAny_pure ?_)
            rw [sameMem]
            dsimp only
            simp only [if_true, liv, T.row he]
            refine wpAny_bind (wpAny_isSame_ref_self (wpAny_bind (wpAny_pure ?_)))
            simp only [if_true]
            refine wp_if_pos (by simp [same]) ?_
            exact wpAny_pure (yes mem _ fun _ => rfl)
        · refine wp_if_neg (by simp [same]) ?_
          try refine wpAny_bind (wpAny_pure ?_)
          rw [sameMem]
          dsimp only
          simp only [if_true, liv, T.row he]
          refine wpAny_bind (wpAny_isSame_ref_self (wpAny_bind (wpAny_pure ?_)))
          simp only [if_true]
          refine wp_if_neg (by simp [same]) ?_
          refine ih (c + (q + 1)) _ rfl (by omega) (by omega) fun i' e' y1 y2 => ?_
          obtain ⟨c', v1, v2, v3⟩ := hme i' e' y1 y2
          refine ⟨c', ?_, v2, v3⟩
          by_cases early : c' < c + q
          · exact absurd ((hash_at i' e' y1).trans (by rw [y2])) (u4 (c' - c) i' (by omega) (by rw [j_at, show c + (c' - c) = c' by omega]; exact v3))
          · by_cases late : c + q < c'
            · omega
            · obtain rfl : c' = c + q := by omega
              have z := slot_live T.tab.ris v3
              rw [liv] at z
              injection z with z
              rw [← z, he] at y1
              exact absurd (by rw [Option.some.inj y1]; exact y2) same
      by_cases ld : t.led = true
      · refine wp_if_neg (by simp [ld]) ?_
        try refine wpAny_bind (wpAny_pure ?_)
        exact rest
      · refine wp_if_pos (by simp [ld]) ?_
        refine wpAny_bind (unseen hx (fun y hy => ?_) ?_)
        · obtain ⟨r, r1, r2⟩ := List.mem_map.mp hy
          have r3 : r ∈ es.toList := by
            have z : r ∈ es ∧ r.1 = k.hash w := by simpa using r1
            simpa using z.1
          rw [T.rows] at r3
          obtain ⟨e', m', r4⟩ := List.mem_map.mp r3
          exact ⟨e'.2, e'.1, by rw [← r2, ← r4]; rfl, T.keys e' m'⟩
        · refine wp_if_neg (by decide) ?_
          try refine wpAny_bind (wpAny_pure ?_)
          exact rest
    · have hp : t.probe (fun i => (es[i]?.map (·.1)).getD 0) (k.hash w) (from_.getD (t.probeStart (k.hash w))) = some (.empty (way t.mask (k.hash w) N) none) := by
        rw [hfrom, show way t.mask (k.hash w) N = (nth t.mask (stp t.mask (k.hash w) c) (N - c)).j by rw [j_at, eN]]
        exact u5
      rw [hp]
      dsimp only
      refine wpAny_pure (no fun mem => ?_)
      obtain ⟨e', m', y2⟩ := List.mem_map.mp mem
      obtain ⟨i', y1⟩ := List.mem_iff_getElem?.mp m'
      obtain ⟨c', v1, v2, v3⟩ := hme i' e' y1 y2
      exact absurd ((hash_at i' e' y1).trans (by rw [y2])) (u4 (c' - c) i' (by omega) (by rw [j_at, show c + (c' - c) = c' by omega]; exact v3))
/-- the search, whole -/
theorem hunt (adding : Bool) (T : SetIn w fo s.heap a L es ep t) {x : Addr} {k : NK} (hx : Kat s.heap k x) (room : A.units + 8 < cLine) {Q : SetFound → Shared → Prop}
    (yes : k ∈ L.map (·.2) → ∀ r : Option Nat, (adding = false → r.isSome = true) → Q (.there r) s)
    (no : ∀ N, k ∉ L.map (·.2) → way t.mask (k.hash w) N ∉ t.place.toList → (∀ c, c < N → way t.mask (k.hash w) c ∈ t.place.toList) → Q (.free (way t.mask (k.hash w) N) false) s) :
    wpAny (model P w) A (setSearch a (.ref x) (k.hash w) adding) Q E s := by
  have gap := T.gap
  obtain ⟨N, n1, n2, n3⟩ := T.tab.first (by rw [hsE, List.length_map]; omega) (k.hash w)
  have small : N < 100000 := by
    have tm := le_mask T.tab.mok
    unfold SetTable.turns at n1
    omega
  unfold setSearch
  refine hunt_go adding T hx room n1 n2 n3 yes (fun z => no N z n2 n3) 100000 0 none rfl (Nat.zero_le _) (by omega) fun i e y1 y2 => ?_
  have y3 : (hsE w L)[i]? = some (k.hash w) := by rw [hsE, List.getElem?_map, y1, ← y2]; rfl
  have y4 : i < t.place.toList.length := by
    rw [Array.length_toList, T.psz]
    exact (List.getElem?_eq_some_iff.mp y1).1
  obtain ⟨c', v1, v2⟩ := T.tab.before n2 y3 (List.getElem?_eq_getElem y4)
  exact ⟨c', Nat.zero_le _, v1, by rw [List.getElem?_eq_getElem y4, v2]⟩
/-- x in s -/
theorem contains_go (T : SetIn w fo s.heap a L es ep t) {x : Addr} {k : NK} (hx : Kat s.heap k x) (room : A.units + 8 < cLine) {Q : Bool → Shared → Prop}
    (fin : ∀ tk, Q (decide (k ∈ L.map (·.2))) { s with toks := tk }) : wpAny (model P w) A (setContains a (.ref x)) Q E s := by
  unfold setContains
  refine wpAny_holding ?_
  refine wpAny_bind (pyHash_key k _ A s _ hx.is (by have := hx.low; omega) ?_)
  have T2 : SetIn w fo (Shared.heap { s with toks := s.toks + k.draws }) a L es ep t := T
  obtain ⟨o, o1, o2, o3⟩ := T2.obj
  refine wpAny_bind ?_
  unfold setFind
  rw [show (100000 : Nat) = 99999 + 1 from rfl]
  unfold setFindIn
  refine wpAny_bind (wpAny_setState_of o1 o3 T2.fits ?_)
  dsimp only
  refine wp_if_neg (by simp [byScan, Value.scannable]) ?_
  try refine wpAny_bind (wpAny_pure ?_)
  refine wpAny_bind (hunt false T2 hx room (fun mem r hr => ?_) fun N mem _ _ => ?_)
  · dsimp only
    refine wpAny_pure (wpAny_pure ?_)
    rw [hr rfl, ← decide_eq_true mem]
    exact fin _
  · dsimp only
    refine wpAny_pure (wpAny_pure ?_)
    show Q false _
    rw [← decide_eq_false mem]
    exact fin _
end
end DN
namespace DN
open PySem PySem.Spec PyProof.Rows L2
section
variable {P : Program} {w : World} {A : Around} {E : Value → Shared → Prop} {s : Shared} {fo : Bool} {a : Addr} {L : List Ent} {es : Array (Int × Value)} {ep : Nat} {t : SetTable}
/-- a tuple stays where only a set changes -/
theorem Kat.past {h h' : Heap} {k : NK} {b : Addr} {o : Obj} {es : Array (Int × Value)} {ep : Nat} {t : SetTable} (x : Kat h k b) (o1 : h.get? a = some o) (o2 : o.data = .set es ep t) (but : Heap.SameBut a h h') : Kat h' k b :=
  x.move fun c u vs n u1 u2 => by
    by_cases e : c = a
    · subst e
      rw [o1] at u1
      cases u1
      rw [o2] at u2
      cases u2
    · exact (but.2 c e).trans u1
theorem size_308 : SetTable.sizeAbove (SetTable.grown 77) = 512 := by decide +kernel
theorem size_1228 : SetTable.sizeAbove (SetTable.grown 307) = 2048 := by decide +kernel
/-- rows in another order -/
theorem rows_order (order : Array Nat) (rows : es.toList = L.map (rowE w)) (pm : order.toList.Perm (List.range L.length)) :
    ∃ M : List Ent, (order.filterMap (es[·]?)).toList = M.map (rowE w) ∧ M.Perm L ∧ hsE w M = order.toList.map fun i => (es.map (·.1)).getD i 0 := by
  have at_ : ∀ i, es[i]? = (L[i]?).map (rowE w) := fun i => by rw [← Array.getElem?_toList, rows, List.getElem?_map]
  have inn : ∀ i ∈ order.toList, i < L.length := fun i m => List.mem_range.mp (pm.mem_iff.mp m)
  refine ⟨order.toList.filterMap fun i => L[i]?, ?_, ?_, ?_⟩
  · have e : (order.filterMap (es[·]?)).toList = order.toList.filterMap fun i => es[i]? := by simp
    rw [e, List.map_filterMap]
    exact congrArg (fun f => List.filterMap f order.toList) (funext at_)
  · have e : (List.range L.length).filterMap (fun i => L[i]?) = L := by
      have key : ∀ (M : List Ent) (f : Nat → Option Ent), (∀ i, f i = M[i]?) → (List.range M.length).filterMap f = M := fun M => by
        induction M with
        | nil => intro f hf; rfl
        | cons x M ih =>
          intro f hf
          rw [List.length_cons, List.range_succ_eq_map, List.filterMap_cons, hf 0]
          show x :: _ = _
          rw [List.filterMap_map, ih (f ∘ Nat.succ) fun i => by
            show f (i + 1) = _
            rw [hf (i + 1), List.getElem?_cons_succ]]
      exact key L _ fun _ => rfl
    have z := pm.filterMap fun i => L[i]?
    rw [e] at z
    exact z
  · have key : ∀ l : List Nat, (∀ i ∈ l, i < L.length) → hsE w (l.filterMap fun i => L[i]?) = l.map fun i => (es.map (·.1)).getD i 0 := fun l => by
      induction l with
      | nil => exact fun _ => rfl
      | cons i l ih =>
        intro hl
        have li := hl i List.mem_cons_self
        obtain ⟨e, he⟩ : ∃ e, L[i]? = some e := ⟨_, List.getElem?_eq_getElem li⟩
        rw [List.filterMap_cons, he, List.map_cons, ← ih fun j m => hl j (List.mem_cons_of_mem _ m)]
        have z : (es.map (·.1))[i]? = some (e.2.hash w) := by rw [Array.getElem?_map, at_ i, he]; rfl
        rw [Array.getD_eq_getD_getElem?, z]
        rfl
    exact key _ inn
/-- the table is laid anew -/
theorem relay_go {o : Obj} (o1 : s.heap.get? a = some o) (o2 : o.ExactSet) (o3 : o.data = .set es ep t) (rows : es.toList = L.map (rowE w)) (psz : t.place.size = L.length) (dm : t.dummies = #[]) (le : L.length ≤ t.mask)
    (once : (L.map (·.2)).Nodup) (keys : ∀ e ∈ L, Kat s.heap e.2 e.1) (plain : t.plain = true) (led : fo = true ∨ t.led = true) {want M : Nat} (w1 : SetTable.sizeAbove want - 1 = M) (w2 : MaskG M) (w3 : SetTable.sizeAbove want ≤ 2048) (w4 : L.length * 5 < M * 3)
    {Q : Unit → Shared → Prop} (fin : ∀ h' L' es' ep' t', Heap.SameBut a s.heap h' → SetIn w fo h' a L' es' ep' t' → L'.Perm L → Q () { s with heap := h' }) : wpAny (model P w) A (setRelay a want) Q E s := by
  have sz : es.size = L.length := by rw [← Array.length_toList, rows, List.length_map]
  have fits : t.fits es.size = true := by
    simp only [SetTable.fits, SetTable.fill, dm, Bool.and_eq_true, beq_iff_eq, decide_eq_true_eq, psz, sz, true_and]
    show L.length + 0 ≤ t.mask
    omega
  obtain ⟨t', order, r1, r2, r3, r4, r5, r6, r7⟩ := relaidG t (hs := es.map (·.1)) w1 w2 (by rw [Array.size_map, sz]; omega)
  rw [Array.size_map, sz] at r2
  obtain ⟨L', q1, q2, q3⟩ := rows_order order rows r2
  rw [← q3] at r3
  have sz2 : (order.filterMap (es[·]?)).size = es.size := by
    rw [← Array.length_toList, q1, List.length_map, q2.length_eq, sz]
  rw [setRelay_eq]
  refine wpAny_bind (wpAny_setState_of o1 o3 fits ?_)
  dsimp only
  refine wp_if_neg (by rw [sizeLine_eq]; omega) ?_
  try refine wpAny_bind (wpAny_pure ?_)
  rw [r1]
  dsimp only
  refine wpAny_bind ?_
  refine wp_if_neg (by rw [sz2]; simp) ?_
  try refine wpAny_bind (wpAny_pure ?_)
  refine wpAny_pure ?_
  dsimp only
  refine wpAny_storeSet_of o1 o3 ?_ (by rw [sz2, sz, sizeLine_eq]; omega)
  have but : Heap.SameBut a s.heap (s.heap.update a (Obj.putSet (order.filterMap (es[·]?)) t')) := Heap.SameBut.update ..
  exact fin _ L' _ (ep + 1) t' but ⟨⟨⟨_, store_at o1 o3, ⟨o2.1, o2.2.1, o2.2.2⟩, rfl⟩, q1, r3, (q2.map (·.2)).nodup_iff.mpr once, by rw [r6]; exact plain, by rw [r5]; exact led, by rw [q2.length_eq, r4]; exact w4⟩,
    fun e m => (keys e (q2.mem_iff.mp m)).past o1 o3 but⟩ q2
/-- s.add(x) -/
theorem add_go (T : SetIn w fo s.heap a L es ep t) {x : Addr} {k : NK} (hx : Kat s.heap k x) (room : A.units + 8 < cLine) (few : L.length + 1 ≤ 1228) {Q : Bool → Shared → Prop}
    (fin : ∀ b h' L' es' ep' t', Heap.SameBut a s.heap h' → SetIn w fo h' a L' es' ep' t' → (k ∈ L.map (·.2) → L' = L) → (k ∉ L.map (·.2) → L'.Perm ((x, k) :: L)) → Q b { s with heap := h' }) :
    wpAny (model P w) A (setAddHashed a (.ref x) (k.hash w)) Q E s := by
  obtain ⟨o, o1, o2, o3⟩ := T.obj
  have gap := T.gap
  have sz := T.size
  unfold setAddHashed
  refine wpAny_holding ?_
  rw [show (100000 : Nat) = 99999 + 1 from rfl, setAddHashedIn_succ]
  refine wpAny_bind (wpAny_setState_of o1 o3 T.fits ?_)
  dsimp only
  refine wp_if_neg (by simp [byScan, Value.scannable]) ?_
  try refine wpAny_bind (wpAny_pure ?_)
  refine wpAny_bind (hunt true T hx room (fun mem r _ => ?_) fun N mem n1 n2 => ?_)
  · dsimp only
    exact wpAny_pure (fin false s.heap L es ep t (Heap.SameBut.refl a s.heap) T (fun _ => rfl) fun z => absurd mem z)
  dsimp only
  refine wpAny_bind (wpAny_setState_of o1 o3 T.fits ?_)
  dsimp only
  obtain ⟨p1, p2, p3, p4, p5, p6, p7, p8, p9⟩ := T.tab.put n1 n2
  generalize t.put (way t.mask (k.hash w) N) = tp at p1 p3 p4 p5 p6 p7 p8 p9 ⊢
  obtain ⟨t1, pl⟩ := tp
  dsimp only at p1 p3 p4 p5 p6 p7 p8 p9 ⊢
  subst p1
  have plain1 : t1.plain = true := by rw [p6]; exact T.plain
  first
    | (refine wpAny_bind ?_; refine wp_if_pos plain1 ?_; refine byVal k _ 8 s hx.is hx.low hx.dry _ _ _ ?_)
    | refine wp_if_pos plain1 (wpAny_bind (byVal k _ 8 s hx.is hx.low hx.dry _ _ _ ?_))
  simp only [if_true]
  have rows1 : (SetTable.insertAt es (SetTable.below t.place (way t.mask (k.hash w) N)) (k.hash w, Value.ref x)).toList = (L.take (SetTable.below t.place (way t.mask (k.hash w) N)) ++ (x, k) :: L.drop (SetTable.below t.place (way t.mask (k.hash w) N))).map (rowE w) := by
    rw [SetTable.toList_insertAt, T.rows, List.map_append, List.map_cons, List.map_take, List.map_drop]
    rfl
  generalize SetTable.below t.place (way t.mask (k.hash w) N) = d at p2 p3 rows1 ⊢
  have pm := put_perm L d (x, k)
  have hs1 : hsE w (L.take d ++ (x, k) :: L.drop d) = (hsE w L).take d ++ k.hash w :: (hsE w L).drop d := by
    unfold hsE
    rw [List.map_append, List.map_cons, List.map_take, List.map_drop]
  rw [← hs1] at p3
  generalize SetTable.insertAt es d (k.hash w, Value.ref x) = es1 at rows1 ⊢
  generalize L.take d ++ (x, k) :: L.drop d = L1 at pm rows1 p3
  have len1 : L1.length = L.length + 1 := pm.length_eq
  have once1 : (L1.map (·.2)).Nodup := by
    refine (pm.map (·.2)).nodup_iff.mpr ?_
    rw [List.map_cons]
    exact List.nodup_cons.mpr ⟨mem, T.once⟩
  have sz1 : es1.size = L.length + 1 := by rw [← Array.length_toList, rows1, List.length_map, len1]
  refine wpAny_bind (wpAny_storeSet_of o1 o3 ?_ (by rw [sz1, sizeLine_eq]; omega))
  have but : Heap.SameBut a s.heap (s.heap.update a (Obj.putSet es1 t1)) := Heap.SameBut.update ..
  have at1 := store_at (es' := es1) (t' := t1) o1 o3
  generalize s.heap.update a (Obj.putSet es1 t1) = h1 at but at1 ⊢
  have keys1 : ∀ e ∈ L1, Kat h1 e.2 e.1 := fun e m => by
    rcases List.mem_cons.mp (pm.mem_iff.mp m) with rfl | m
    · exact hx.past o1 o3 but
    · exact (T.keys e m).past o1 o3 but
  have led1 : fo = true ∨ t1.led = true := by rw [p5]; exact T.led
  have psz1 : t1.place.size = L1.length := by rw [p3.sz, hsE, List.length_map]
  have fill1 : t1.fill = L.length + 1 := by rw [p9, hsE, List.length_map]
  by_cases big : t1.tooFull = true
  · have big2 : (L.length + 1) * 5 ≥ t.mask * 3 := by
      have z := big
      unfold SetTable.tooFull at z
      rw [decide_eq_true_eq, fill1, p4] at z
      exact z
    have two : (t.mask = 7 ∧ L.length = 4) ∨ (t.mask = 31 ∧ L.length = 18) ∨ (t.mask = 127 ∧ L.length = 76) ∨ (t.mask = 511 ∧ L.length = 306) := by
      rcases T.tab.mok with z | z | z | z | z
      · exact .inl ⟨z, by omega⟩
      · exact .inr (.inl ⟨z, by omega⟩)
      · exact .inr (.inr (.inl ⟨z, by omega⟩))
      · exact .inr (.inr (.inr ⟨z, by omega⟩))
      · omega
    first
      | (refine wpAny_bind ?_; refine wp_if_pos (by simp [big]) ?_)
      | (refine wp_if_pos (by simp [big]) ?_; refine wpAny_bind ?_)
    rw [sz]
    have go : ∀ M, SetTable.sizeAbove (SetTable.grown (L.length + 1)) - 1 = M → MaskG M → SetTable.sizeAbove (SetTable.grown (L.length + 1)) ≤ 2048 → (L.length + 1) * 5 < M * 3 →
        wpAny (model P w) A (setRelay a (SetTable.grown (L.length + 1))) (fun _ s' => wpAny (model P w) A (pure true) Q E s') E { s with heap := h1 } := fun M g1 g2 g3 g4 =>
      relay_go (s := { s with heap := h1 }) (fo := fo) at1 ⟨o2.1, o2.2.1, o2.2.2⟩ rfl rows1 psz1 p3.dm (by rw [len1, p4]; rcases two with ⟨z, y⟩ | ⟨z, y⟩ | ⟨z, y⟩ | ⟨z, y⟩ <;> omega) once1 keys1 plain1 led1 g1 g2 g3 (by rw [len1]; exact g4)
        fun h2 L2 es2 ep2 t2 but2 T2 pm2 => wpAny_pure (fin true h2 L2 es2 ep2 t2 (but.trans but2) T2 (fun z => absurd z mem) fun _ => pm2.trans pm)
    rcases two with ⟨_, y⟩ | ⟨_, y⟩ | ⟨_, y⟩ | ⟨_, y⟩
    · exact go 31 (by rw [y, size_20]) (.inr (.inl rfl)) (by rw [y, size_20]; decide) (by omega)
    · exact go 127 (by rw [y, size_76]) (.inr (.inr (.inl rfl))) (by rw [y, size_76]; decide) (by omega)
    · exact go 511 (by rw [y, size_308]) (.inr (.inr (.inr (.inl rfl)))) (by rw [y, size_308]; decide) (by omega)
    · exact go 2047 (by rw [y, size_1228]) (.inr (.inr (.inr (.inr rfl)))) (by rw [y, size_1228]; decide) (by omega)
  · have gap1 : L1.length * 5 < t1.mask * 3 := by
      have z := big
      unfold SetTable.tooFull at z
      rw [decide_eq_true_eq, fill1] at z
      rw [len1]
      omega
    first
      | refine wp_if_neg (by simp [big]) ?_
      | (refine wpAny_bind ?_; refine wp_if_neg (by simp [big]) ?_; refine wpAny_pure ?_)
    exact wpAny_pure (fin true h1 L1 es1 (ep + 1) t1 but ⟨⟨⟨_, at1, ⟨o2.1, o2.2.1, o2.2.2⟩, rfl⟩, rows1, p3, once1, plain1, led1, gap1⟩, keys1⟩ (fun z => absurd z mem) fun _ => pm)
/-- a new set -/
theorem set_new {h : Heap} (o1 : h.get? a = some { cls := .type "set", dict := none, data := .set #[] 0 (.fresh 0 0 (!fo)) }) : SetIn w fo h a [] #[] 0 (.fresh 0 0 (!fo)) where
  obj := ⟨_, o1, ⟨rfl, rfl, rfl⟩, rfl⟩
  rows := rfl
  tab := ⟨.nil, rfl, rfl, .inl rfl, fun i g z => (by simp [hsE] at z)⟩
  once := .nil
  plain := rfl
  led := by cases fo <;> simp <;> rfl
  gap := by
    show 0 * 5 < 7 * 3
    decide
  keys := fun e m => (by cases m)
end
end DN
namespace DN
open PySem PySem.Spec PyProof.Rows L2
section
variable {P : Program} {w : World} {A : Around} {E : Value → Shared → Prop} {s : Shared} {fo : Bool} {a : Addr} {L : List Ent} {es : Array (Int × Value)} {ep : Nat} {t : SetTable}
theorem SetIn.ty (T : SetIn w fo s.heap a L es ep t) : s.TypeIs (.ref a) "set" := by
  obtain ⟨o, o1, o2, _⟩ := T.obj
  exact ⟨o, o1, o2.1⟩
theorem SetIn.bare (T : SetIn w fo s.heap a L es ep t) : ∃ o, s.heap.get? a = some o ∧ o.dict = none := by
  obtain ⟨o, o1, o2, _⟩ := T.obj
  exact ⟨o, o1, o2.2.1⟩
/-- the word behind in and not in -/
theorem asks (T : SetIn w fo s.heap a L es ep t) {x : Addr} {k : NK} (hx : Kat s.heap k x) (room : A.units + 64 < cLine) {Q : Bool → Shared → Prop} (fin : ∀ tk, Q (decide (k ∈ L.map (·.2))) { s with toks := tk }) :
    wpAny (model P w) A (contains (.ref a) (.ref x)) Q E s := by
  unfold contains
  try with_reducible refine wpAny_holding ?_
  refine wpAny_bind (wpAny_specialOf T.ty F.slot_set_contains.lookup ?_)
  show wpAny _ _ (if (some (Value.builtin "set.__contains__") == some Value.none) = true then _ else _) _ E s
  rw [if_neg (by rw [beq_builtin_none]; decide)]
  refine wpAny_bind (wpAny_callSpecialUnlessNone?_slot (name := Str.ofString "__contains__") T.ty F.slot_set_contains (wpAny_call_entry F.slot_set_contains T.ty entry_set_contains ?_ (F.args_set_contains_2 _ _)))
  unfold Builtin.«frozenset.__contains__» Builtin.Frozenset.oneOther
  simp only [List.isEmpty_nil, bind_assoc]
  unfold Builtin.Frozenset.addrOf Builtin.Frozenset.withSetAsKey
  refine wpAny_bind (wpAny_pure ?_)
  try dsimp only
  refine wpAny_bind (wpAny_pure ?_)
  try dsimp only
  refine wpAny_bind (wpAny_tryCatch ?_)
  refine contains_go T hx (by simp only [Around.in1_units]; omega) fun tk => ?_
  show wpAny _ _ (ret (Value.bool _)) _ _ _
  exact wpAny_pure ⟨_, rfl, wpAny_truthy_bool (fin tk)⟩
theorem adds (T : SetIn w fo s.heap a L es ep t) {x : Addr} {k : NK} (hx : Kat s.heap k x) (room : A.units + 64 < cLine) (few : L.length + 1 ≤ 1228) {Q : Value → Shared → Prop}
    (fin : ∀ h' tk L' es' ep' t', Heap.SameBut a s.heap h' → SetIn w fo h' a L' es' ep' t' → (k ∈ L.map (·.2) → L' = L) → (k ∉ L.map (·.2) → L'.Perm ((x, k) :: L)) → Q .none { s with heap := h', toks := tk }) :
    wpAny (model P w) A (call (.builtin "set.add") [.ref a, .ref x]) Q E s := by
  refine wpAny_call_entry F.slot_set_add T.ty F.entry_set_add ?_ (F.args_set_add_2 _ _)
  unfold Builtin.«set.add» Builtin.Frozenset.oneOther
  simp only [List.isEmpty_nil, bind_assoc]
  unfold Builtin.Frozenset.addrOf setAdd
  refine wpAny_bind (wpAny_pure ?_)
  try dsimp only
  refine wpAny_bind (wpAny_pure ?_)
  try dsimp only
  refine wpAny_bind ?_
  refine wpAny_holding ?_
  refine wpAny_bind (pyHash_key k _ _ s _ hx.is (by have := hx.low; simp only [Around.in1_units]; omega) ?_)
  refine add_go (s := { s with toks := s.toks + k.draws }) T hx (by simp only [Around.in1_units]; omega) few fun b h' L' es' ep' t' but T' q1 q2 => ?_
  show wpAny _ _ (ret Value.none) _ _ _
  exact wpAny_pure ⟨_, rfl, fin h' _ L' es' ep' t' but T' q1 q2⟩
end
mutual
def dh : NK → Int
  | .none => reduceHash 0xFCA86420
  | .num i => hashInt i
  | .text _ => 0
  | .tup ks => reduceHash (Builtin.Tuple.tupleHashOf (dhL ks))
def dhL : List NK → List Int
  | [] => []
  | k :: ks => dh k :: dhL ks
end
mutual
theorem dh_eq (w : World) : ∀ k : NK, dry k = true → k.hash w = dh k
  | .none, _ => by simp only [NestedKey.hash, dh]
  | .num i, _ => by simp only [NestedKey.hash, dh]
  | .text _, z => by simp [dry] at z
  | .tup ks, z => by
    simp only [dry] at z
    simp only [NestedKey.hash, dh, dhL_eq w ks z]
theorem dhL_eq (w : World) : ∀ ks : List NK, dryL ks = true → NestedKey.hashes w ks = dhL ks
  | [], _ => by simp only [NestedKey.hashes, dhL]
  | k :: ks, z => by
    simp only [dryL, Bool.and_eq_true] at z
    simp only [NestedKey.hashes, dhL, dh_eq w k z.1, dhL_eq w ks z.2]
end
/-- the object alone, whatever the world -/
def SetD (fo : Bool) (a : Addr) (L : List Ent) (h : Heap) : Prop := ∃ (es : Array (Int × Value)) (ep : Nat) (t : SetTable), (∃ o, h.get? a = some o ∧ o.ExactSet ∧ o.data = .set es ep t) ∧
  es.toList = L.map (fun e => (dh e.2, Value.ref e.1)) ∧ TabG t (L.map fun e => dh e.2) ∧ (L.map (·.2)).Nodup ∧ t.plain = true ∧ (fo = true ∨ t.led = true) ∧ L.length * 5 < t.mask * 3
def SetO (fo : Bool) (a : Addr) (L : List Ent) : HO := .ext (SetD fo a L)
theorem SetIn.d {w : World} {fo : Bool} {h : Heap} {a : Addr} {L : List Ent} {es : Array (Int × Value)} {ep : Nat} {t : SetTable} (T : SetIn w fo h a L es ep t) : SetD fo a L h := by
  have e : ∀ x ∈ L, x.2.hash w = dh x.2 := fun x m => dh_eq w x.2 (T.keys x m).dry
  refine ⟨es, ep, t, T.obj, ?_, ?_, T.once, T.plain, T.led, T.gap⟩
  · rw [T.rows]
    exact List.map_congr_left fun x m => by rw [rowE, e x m]
  · have z := T.tab
    rw [hsE, List.map_congr_left e] at z
    exact z
theorem SetD.in_ {w : World} {fo : Bool} {h : Heap} {a : Addr} {L : List Ent} (T : SetD fo a L h) (keys : ∀ e ∈ L, Kat h e.2 e.1) : ∃ es ep t, SetIn w fo h a L es ep t := by
  have e : ∀ x ∈ L, x.2.hash w = dh x.2 := fun x m => dh_eq w x.2 (keys x m).dry
  obtain ⟨es, ep, t, z1, z2, z3, z4, z5, z6, z7⟩ := T
  refine ⟨es, ep, t, ⟨⟨z1, ?_, ?_, z4, z5, z6, z7⟩, keys⟩⟩
  · rw [z2]
    exact List.map_congr_left fun x m => by rw [rowE, e x m]
  · rw [hsE, List.map_congr_left e]
    exact z3
theorem SetD.ok {P : Program} {w : World} {H : Hp} {h : Heap} {fo : Bool} {a : Addr} {L : List Ent} (T : SetD fo a L h) : ObjOk P w H h a (SetO fo a L) := by
  have ⟨es, ep, t, ⟨o, o1, o2⟩, _⟩ := T
  refine ⟨T, ⟨o, o1⟩, fun h1 h2 T1 k => ?_⟩
  have ⟨es, ep, t, ⟨o, o1, o2⟩, z⟩ := T1
  exact ⟨es, ep, t, ⟨o, k o o1, o2⟩, z⟩
mutual
/-- the value v is the key k -/
def KV (K : PySem.W.Frag) (H : Hp) : NK → V → Prop
  | .none, v => v = .non
  | .num i, v => v = .int i
  | .text x, v => v = .str x
  | .tup ks, v => ∃ a vs, v = .ref a ∧ SqT K H a vs ∧ KVs K H ks vs
def KVs (K : PySem.W.Frag) (H : Hp) : List NK → List V → Prop
  | [], vs => vs = []
  | k :: ks, vs => ∃ v r, vs = v :: r ∧ KV K H k v ∧ KVs K H ks r
end
section
variable {X : Cx} {pins : List (Addr × Obj)} {σ : L2.St} {H : Hp} {s : Shared}
mutual
theorem kv_is (I : Inv X pins σ H s) : ∀ (k : NK) (v : V) (u : Value), KV X.K H k v → RelV v u → NestedIs s.heap k u
  | .none, v, u, z, r => by
    simp only [KV] at z
    subst z
    cases r
    exact .none
  | .num i, v, u, z, r => by
    simp only [KV] at z
    subst z
    obtain ⟨t, rfl⟩ := r
    exact .int i t
  | .text x, v, u, z, r => by
    simp only [KV] at z
    subst z
    obtain ⟨t, rfl⟩ := r
    exact .text x t
  | .tup ks, v, u, z, r => by
    simp only [KV] at z
    obtain ⟨a, vs, rfl, z1, z2⟩ := z
    obtain ⟨its, r1, ⟨o, o1, o2, n, o3⟩, _⟩ := I.tuple z1
    cases r
    exact .tup o1 o2 o3 (by simpa using kvs_are I ks vs its z2 r1)
theorem kvs_are (I : Inv X pins σ H s) : ∀ (ks : List NK) (vs : List V) (us : List Value), KVs X.K H ks vs → Vals vs us → NestedAll s.heap ks us
  | [], vs, us, z, r => by
    simp only [KVs] at z
    subst z
    cases r
    exact .nil
  | k :: ks, vs, us, z, r => by
    simp only [KVs] at z
    obtain ⟨v, q, rfl, z1, z2⟩ := z
    cases r with
    | cons r1 r2 => exact .cons (kv_is I k v _ z1 r1) (kvs_are I ks q _ z2 r2)
end
/-- what a set asks of a member -/
structure Mem (K : PySem.W.Frag) (H : Hp) (k : NK) (b : Addr) : Prop where
  is : KV K H k (.ref b)
  low : k.depth ≤ 8
  dry : dry k = true
/-- what a dict asks of a key -/
structure MemT (K : PySem.W.Frag) (H : Hp) (k : NK) (b : Addr) : Prop where
  is : KV K H k (.ref b)
  low : k.depth ≤ 8
theorem Mem.t {K : PySem.W.Frag} {H : Hp} {k : NK} {b : Addr} (m : Mem K H k b) : MemT K H k b := ⟨m.is, m.low⟩
theorem MemT.kt {k : NK} {b : Addr} (m : MemT X.K H k b) (I : Inv X pins σ H s) : NestedIs s.heap k (.ref b) ∧ k.depth ≤ 8 := ⟨kv_is I k _ _ m.is rfl, m.low⟩
theorem Mem.kat {k : NK} {b : Addr} (m : Mem X.K H k b) (I : Inv X pins σ H s) : Kat s.heap k b := ⟨kv_is I k _ _ m.is rfl, m.low, m.dry⟩
def rNewN (fo : Bool) : List V → Hp → VK → Prop := fun xs H Q => xs = [] ∧ ∀ p, H p = none → Q (.ref p) (upd H p (SetO fo p []))
theorem call_newN : CallR X (.type "set") (rNewN (X.w.params.followText "set-order")) := by
  intro pins s σ H xs us Q I r h
  obtain ⟨rfl, q⟩ := h
  cases r
  refine setR_new fun _ => ?_
  have T : SetIn X.w (X.w.params.followText "set-order") _ s.heap.objs.size [] #[] 0 _ := set_new (Heap.get?_push_size s.heap rfl)
  exact ⟨.ref _, _, I.laid (t' := s.toks) (fun b u e => Heap.get?_push_of_some _ e) (Nat.le_refl _) T.d.ok, rfl, q _ (I.hok.fresh (Nat.le_refl _))⟩
def rAddN (K : PySem.W.Frag) : V → List V → Hp → VK → Prop := fun x xs H Q => ∃ (a b : Addr) (fo : Bool) (k : NK) (L : List Ent), x = V.ref a ∧ xs = [V.ref b] ∧ H a = some (SetO fo a L) ∧ Mem K H k b ∧ (∀ e ∈ L, Mem K H e.2 e.1) ∧ L.length + 1 ≤ 1228 ∧
  ∀ L', (k ∈ L.map (·.2) → L' = L) → (k ∉ L.map (·.2) → L'.Perm ((b, k) :: L)) → Q .non (upd H a (SetO fo a L'))
theorem meth_addN (room : X.A.units + 64 < cLine) : MtR X "set.add" (rAddN X.K) := by
  intro pins s σ H x xs v us Q I rx rxs h
  obtain ⟨a, b, fo, k, L, rfl, rfl, ha, hb, hL, few, q⟩ := h
  cases rx
  rw [Vals.ref1 rxs]
  have D0 : SetD fo a L s.heap := (I.hok a _ ha).1
  obtain ⟨es, ep, t, T⟩ := D0.in_ (w := X.w) fun e m => (hL e m).kat I
  refine adds T (hb.kat I) room few fun h' tk L' es' ep' t' but T' q1 q2 => ?_
  obtain ⟨o, o1, _⟩ := T'.obj
  exact ⟨.non, _, I.write (e := a) (t' := tk) (by rw [ha]; trivial) (.inl rfl) (fun c u hc hu => (but.2 c hc).trans hu) ⟨o, o1⟩ T'.d.ok, rfl, q L' q1 q2⟩
def rInN (K : PySem.W.Frag) (neg : Bool) : R2 := fun x y H Q => ∃ (a b : Addr) (fo : Bool) (k : NK) (L : List Ent), x = V.ref b ∧ y = V.ref a ∧ H a = some (SetO fo a L) ∧ Mem K H k b ∧ (∀ e ∈ L, Mem K H e.2 e.1) ∧ Q (.bl (if neg then !decide (k ∈ L.map (·.2)) else decide (k ∈ L.map (·.2)))) H
theorem op_notN (room : X.A.units + 64 < cLine) : OpR X (compareOp .NotIn) (rInN X.K true) := by
  intro pins s σ H x y v u Q I rx ry h
  obtain ⟨a, b, fo, k, L, rfl, rfl, ha, hb, hL, q⟩ := h
  cases rx
  cases ry
  have D0 : SetD fo a L s.heap := (I.hok a _ ha).1
  obtain ⟨es, ep, t, T⟩ := D0.in_ (w := X.w) fun e m => (hL e m).kat I
  show wpAny _ _ (do return Value.bool (!(← contains (.ref a) (.ref b)))) _ _ s
  refine wpAny_bind (asks T (hb.kat I) room fun tk => wpAny_pure ⟨.bl _, H, I.tok tk, rfl, q⟩)
end
end DN
namespace DN
open PySem PySem.Spec PyProof.Rows L2
/-- what the set has when the first n of the list are in it -/
structure Part (M : List Ent) (n : Nat) (L : List Ent) : Prop where
  old : ∀ e ∈ L, e ∈ M.take n
  all : ∀ e ∈ M.take n, e.2 ∈ L.map (·.2)
  few : L.length ≤ n
theorem Part.next {M L L' : List Ent} {n : Nat} {x : Ent} (g : Part M n L) (h : M[n]? = some x) (c1 : x.2 ∈ L.map (·.2) → L' = L) (c2 : x.2 ∉ L.map (·.2) → L'.Perm (x :: L)) : Part M (n + 1) L' := by
  have tk : M.take (n + 1) = M.take n ++ [x] := by rw [List.take_add_one, h]; rfl
  by_cases c : x.2 ∈ L.map (·.2)
  · rw [c1 c]
    refine ⟨fun e m => ?_, fun e m => ?_, Nat.le_succ_of_le g.few⟩
    · rw [tk]
      exact List.mem_append_left _ (g.old e m)
    · rw [tk] at m
      rcases List.mem_append.mp m with m | m
      · exact g.all e m
      · rw [List.mem_singleton.mp m]
        exact c
  · have pm := c2 c
    refine ⟨fun e m => ?_, fun e m => ?_, by rw [pm.length_eq]; exact Nat.succ_le_succ g.few⟩
    · rw [tk]
      rcases List.mem_cons.mp (pm.mem_iff.mp m) with rfl | m
      · exact List.mem_append_right _ (List.mem_singleton.mpr rfl)
      · exact List.mem_append_left _ (g.old e m)
    · rw [(pm.map (·.2)).mem_iff, List.map_cons]
      rw [tk] at m
      rcases List.mem_append.mp m with m | m
      · exact List.mem_cons_of_mem _ (g.all e m)
      · rw [List.mem_singleton.mp m]
        exact List.mem_cons_self
section
variable {P : Program} {w : World} {A : Around} {E : Value → Shared → Prop} {s : Shared} {fo : Bool}
theorem Kat.kept {h h' : Heap} {k : NK} {b : Addr} (x : Kat h k b) (hk : ∀ c o, h.get? c = some o → h'.get? c = some o) : Kat h' k b := x.move fun c o _ _ z _ => hk c o z
theorem SetIn.kept {h h' : Heap} {a : Addr} {L : List Ent} {es : Array (Int × Value)} {ep : Nat} {t : SetTable} (T : SetIn w fo h a L es ep t) (ha : ∀ o, h.get? a = some o → h'.get? a = some o) (hk : ∀ e ∈ L, Kat h' e.2 e.1) : SetIn w fo h' a L es ep t := by
  obtain ⟨o, o1, o2⟩ := T.obj
  exact ⟨⟨⟨o, ha o o1, o2⟩, T.rows, T.tab, T.once, T.plain, T.led, T.gap⟩, hk⟩
end
end DN
namespace DN
open PySem PySem.Spec PySem.W PyProof.Rows L2
abbrev DEnt := NK × Addr × V
/-- the hash of a key in the world at hand -/
abbrev hw (w : World) : NK → Int := fun k => k.hash w
def rowD (hf : NK → Int) (x : NK × Addr × Value) : DictEntry := ⟨hf x.1, .ref x.2.1, x.2.2⟩
abbrev DRel : List DEnt → List (NK × Addr × Value) → Prop := Paired fun p x => p.1 = x.1 ∧ p.2.1 = x.2.1 ∧ RelV p.2.2 x.2.2
def DictD (hf : NK → Int) (a : Addr) (L : List DEnt) (h : Heap) : Prop := (a == sysModules) = false ∧ ∃ (o : Obj) (es : Array DictEntry) (ep : Nat) (xs : List (NK × Addr × Value)), h.get? a = some o ∧ o.ExactDict ∧ o.data = .dict es ep ∧
  es.toList = xs.map (rowD hf) ∧ (xs.map (·.1)).Nodup ∧ DRel L xs
def DictO (hf : NK → Int) (a : Addr) (L : List DEnt) : HO := .ext (DictD hf a L)
theorem DictD.ok {P : Program} {w : World} {H : Hp} {h : Heap} {hf : NK → Int} {a : Addr} {L : List DEnt} (T : DictD hf a L h) : ObjOk P w H h a (DictO hf a L) := by
  have ⟨z0, o, es, ep, xs, o1, z⟩ := T
  refine ⟨T, ⟨o, o1⟩, fun h1 h2 T1 k => ?_⟩
  have ⟨y0, o', es', ep', xs', o1', z'⟩ := T1
  exact ⟨y0, o', es', ep', xs', k o' o1', z'⟩
theorem DRel.keys : ∀ {L : List DEnt} {xs : List (NK × Addr × Value)}, DRel L xs → L.map (·.1) = xs.map (·.1)
  | _, _, .nil => rfl
  | _, _, .cons h t => by rw [List.map_cons, List.map_cons, h.1, DRel.keys t]
theorem DRel.mem : ∀ {L : List DEnt} {xs : List (NK × Addr × Value)}, DRel L xs → ∀ x ∈ xs, ∃ p ∈ L, p.1 = x.1 ∧ p.2.1 = x.2.1
  | _, _, .nil, x, m => by cases m
  | p :: L, y :: xs, .cons h t, x, m => by
    rcases List.mem_cons.mp m with rfl | m
    · exact ⟨p, List.mem_cons_self, h.1, h.2.1⟩
    · obtain ⟨q, q1, q2⟩ := DRel.mem t x m
      exact ⟨q, List.mem_cons_of_mem _ q1, q2⟩
/-- the value at a key -/
def atE (L : List DEnt) (k : NK) : Option V := (L.find? fun p => decide (p.1 = k)).map (·.2.2)
def putE (L : List DEnt) (k : NK) (b : Addr) (v : V) : List DEnt := if (atE L k).isSome then L.map (fun p => if p.1 = k then (p.1, p.2.1, v) else p) else L ++ [(k, b, v)]
theorem DRel.at : ∀ {L : List DEnt} {xs : List (NK × Addr × Value)} (_ : DRel L xs) (k : NK), (atE L k = none ∧ atKey xs k = none) ∨ ∃ v p, atE L k = some v ∧ atKey xs k = some p ∧ RelV v p.2
  | _, _, .nil, k => .inl ⟨rfl, rfl⟩
  | p :: L, x :: xs, .cons h t, k => by
    by_cases e : p.1 = k
    · refine .inr ⟨p.2.2, x.2, ?_, ?_, h.2.2⟩
      · simp [atE, e]
      · simp [atKey, ← h.1, e]
    · rcases DRel.at t k with ⟨z1, z2⟩ | ⟨v, q, z1, z2, z3⟩
      · exact .inl ⟨by simpa [atE, e] using z1, by simpa [atKey, ← h.1, e] using z2⟩
      · exact .inr ⟨v, q, by simpa [atE, e] using z1, by simpa [atKey, ← h.1, e] using z2, z3⟩
theorem DRel.over {k : NK} {v : V} {u : Value} (r : RelV v u) : ∀ {L : List DEnt} {xs : List (NK × Addr × Value)}, DRel L xs → DRel (L.map (fun p => if p.1 = k then (p.1, p.2.1, v) else p)) (xs.map (putAt k u))
  | _, _, .nil => .nil
  | p :: L, x :: xs, .cons h t => by
    refine .cons ?_ (DRel.over r t)
    unfold putAt
    by_cases e : p.1 = k
    · dsimp only
      rw [if_pos e]
      rw [if_pos (by rw [← h.1]; exact e)]
      exact ⟨h.1, h.2.1, r⟩
    · dsimp only
      rw [if_neg e]
      rw [if_neg (by rw [← h.1]; exact e)]
      exact h
theorem DRel.put {k : NK} {b : Addr} {v : V} {u : Value} (r : RelV v u) {L : List DEnt} {xs : List (NK × Addr × Value)} (h : DRel L xs) : DRel (putE L k b v) (storedH xs k b u) := by
  unfold putE storedH
  rcases h.at k with ⟨z1, z2⟩ | ⟨_, _, z1, z2, _⟩
  · rw [z1, z2]
    exact h.snoc ⟨rfl, rfl, r⟩
  · rw [z1, z2]
    exact h.over r
theorem atE_some {L : List DEnt} {k : NK} : (atE L k).isSome = decide (k ∈ L.map (·.1)) := by
  induction L with
  | nil => rfl
  | cons p L ih =>
    by_cases e : p.1 = k
    · have : k ∈ (p :: L).map (·.1) := by rw [List.map_cons, e]; exact List.mem_cons_self
      rw [decide_eq_true this]
      simp [atE, e]
    · have z : (k ∈ (p :: L).map (·.1)) ↔ k ∈ L.map (·.1) := by
        rw [List.map_cons, List.mem_cons]
        exact ⟨fun h => h.resolve_left fun y => e y.symm, .inr⟩
      rw [decide_eq_decide.mpr z, ← ih]
      simp [atE, e]
section
variable {P : Program} {w : World} {A : Around} {E : Value → Shared → Prop} {s : Shared} {a : Addr} {L : List DEnt}
theorem DictD.in_ {h : Heap} (T : DictD (hw w) a L h) (keys : ∀ e ∈ L, NestedIs h e.1 (.ref e.2.1) ∧ e.1.depth ≤ 8) : ∃ xs, h.DictOfH (nestedKind P w) a xs ∧ DRel L xs := by
  obtain ⟨z0, o, es, ep, xs, o1, o2, o3, o4, o5, r⟩ := T
  have k : ∀ x ∈ xs, NestedIs h x.1 (.ref x.2.1) ∧ x.1.depth ≤ 8 := fun x m => by
    obtain ⟨p, p1, e1, e2⟩ := r.mem x m
    rw [← e1, ← e2]
    exact keys p p1
  exact ⟨xs, ⟨o, es, ep, o1, o2, o3, o4, fun x m => ⟨(k x m).1, (k x m).2⟩, o5⟩, r⟩
theorem DictD.of {h : Heap} {xs : List (NK × Addr × Value)} (lo : (a == sysModules) = false) (T : h.DictOfH (nestedKind P w) a xs) (r : DRel L xs) : DictD (hw w) a L h := by
  obtain ⟨o, es, ep, o1, o2, o3, o4, o5, o6⟩ := T
  exact ⟨lo, o, es, ep, xs, o1, o2, o3, o4, o6, r⟩
theorem DictD.ty {hf : NK → Int} (T : DictD hf a L s.heap) : s.TypeIs (.ref a) "dict" := by
  obtain ⟨z0, o, es, ep, xs, o1, o2, _⟩ := T
  exact ⟨o, o1, o2.1⟩
end
section
variable {X : Cx} {pos : Pos}
theorem dn_empty (hf : NK → Int) (h : Heap) (hb : sysModules < h.objs.size) : DictD hf h.objs.size [] (h.push { cls := .type "dict", data := .dict #[] }) :=
  ⟨beq_eq_false_iff_ne.mpr (Ne.symm (Nat.ne_of_lt hb)), _, #[], 0, [], Heap.get?_push_size _ rfl, ⟨rfl, rfl, rfl⟩, rfl, rfl, List.nodup_nil, .nil⟩
/-- x in d, x not in d -/
def rInM (hf : NK → Int) (K : PySem.W.Frag) (neg : Bool) : R2 := fun x y H Q => ∃ (a b : Addr) (k : NK) (L : List DEnt), x = V.ref b ∧ y = V.ref a ∧ H a = some (DictO hf a L) ∧ MemT K H k b ∧ (∀ e ∈ L, MemT K H e.1 e.2.1) ∧ Q (.bl (if neg then !decide (k ∈ L.map (·.1)) else decide (k ∈ L.map (·.1)))) H
theorem op_notM (room : X.A.units + 64 < cLine) : OpR X (compareOp .NotIn) (rInM (hw X.w) X.K true) := by
  intro pins s σ H x y v u Q I rx ry h
  obtain ⟨a, b, k, L, rfl, rfl, ha, hb, hL, q⟩ := h
  cases rx
  cases ry
  have D0 : DictD (hw X.w) a L s.heap := (I.hok a _ ha).1
  obtain ⟨xs, T, r⟩ := D0.in_ (P := X.prog) (w := X.w) fun e m => (hL e m).kt I
  show wpAny _ _ (do return Value.bool (!(← contains (.ref a) (.ref b)))) _ _ s
  refine wpAny_bind (wpAny_contains_heap (knd := nestedKind X.prog X.w) (by show X.A.in1.units + 8 < cLine; simp only [Around.in1_units]; omega) (hb.kt I) D0.1 T (wpAny_pure ⟨.bl _, H, I.tok _, ?_, q⟩))
  have e : (atKey xs k).isSome = decide (k ∈ L.map (·.1)) := by
    rw [← atE_some]
    rcases r.at k with ⟨z1, z2⟩ | ⟨_, _, z1, z2, _⟩ <;> rw [z1, z2] <;> rfl
  rw [e]
  rfl
/-- d[x] = v -/
def rSetM (hf : NK → Int) (K : PySem.W.Frag) : TSet := fun o i v H Q => ∃ (a b : Addr) (k : NK) (L : List DEnt), o = V.ref a ∧ i = V.ref b ∧ H a = some (DictO hf a L) ∧ MemT K H k b ∧ (∀ e ∈ L, MemT K H e.1 e.2.1) ∧ L.length ≤ 100000 ∧ Q (upd H a (DictO hf a (putE L k b v)))
theorem set_M (room : X.A.units + 64 < cLine) : PSet X (rSetM (hw X.w) X.K) := by
  intro pins s σ H o i v ov iv u Q I ro ri rv h
  obtain ⟨a, b, k, L, rfl, rfl, ha, hb, hL, few, q⟩ := h
  cases (show ov = Value.ref a from ro)
  cases (show iv = Value.ref b from ri)
  have D0 : DictD (hw X.w) a L s.heap := (I.hok a _ ha).1
  obtain ⟨xs, T, r⟩ := D0.in_ (P := X.prog) (w := X.w) fun e m => (hL e m).kt I
  refine wpAny_setItem_heap (knd := nestedKind X.prog X.w) (hsz := by rw [← Paired.length r, sizeLine_eq]; omega) (by show X.A.in1.units + 8 < cLine; simp only [Around.in1_units]; omega) (hb.kt I) T fun h' T' but => ?_
  have D1 : DictD (hw X.w) a (putE L k b v) h' := DictD.of D0.1 T' (r.put rv)
  obtain ⟨o', _, _, o1, _⟩ := T'
  exact ⟨_, I.write (e := a) (t' := s.toks + k.draws) (by rw [ha]; trivial) (.inl rfl) (fun c u hc hu => (but.2 c hc).trans hu) ⟨o', o1⟩ D1.ok, q⟩
end
end DN
namespace DL
open PySem PySem.Spec PyProof.Rows L2
inductive D where
  | non | bl (b : Bool) | int (i : Int) | str (x : Str) | tup (xs : List D) | ref (n : Nat) | ins (C : Addr) (ns : List Str) (vs : List D) | scr (ns : List Int) | ty (n : String) | cls (C : Addr) | exc (a p : Addr) (d : D) | dct (hf : DN.NK → Int) (ks : List DN.NK) (ds : List D)
inductive Cell where
  | lst (xs : List D) | dic (kvs : List (Key × D)) | set (ks : List DN.NK) | map (kvs : List (DN.NK × D))
abbrev GS := List Cell
abbrev Sl := List (Option D)
/-- names of fields that instances may get -/
def FLD : List Str := ["program", "observer", "known", "steps", "tuples", "numbers", "members", "found", "observers", "holder", "texts", "nodes", "met", "ways", "targets"]
/-- a list that nobody writes: locked, or of the written part -/
def FzL (K : PySem.W.Frag) (H : Hp) (a : Addr) (xs : List V) : Prop :=
  (∃ o, H a = some (.frz o (.lst xs))) ∨ ∃ (o : Obj) (its : Array Value) (n : Nat), K.lookup a = some o ∧ o.cls = .type "list" ∧ o.dict = none ∧ o.data = .seq its n ∧ its.size ≤ sizeLine ∧ Vals xs its.toList
theorem FzL.sql {K : PySem.W.Frag} {H : Hp} {a : Addr} {xs : List V} (h : FzL K H a xs) : SqL K H a xs := by
  rcases h with h | h
  · exact .inl (.inr h)
  · exact .inr h
section
variable (K : PySem.W.Frag) (ρ : List Addr) (H : Hp)
mutual
def Is : D → V → Prop
  | .non, v => v = .non
  | .bl b, v => v = .bl b
  | .int i, v => v = .int i
  | .str x, v => v = .str x
  | .tup ds, v => ∃ a vs, v = .ref a ∧ SqT K H a vs ∧ IsL ds vs
  | .ref n, v => ∃ a, v = .ref a ∧ ρ[n]? = some a
  | .ins C ns ds, v => ∃ a dx vs fs, v = .ref a ∧ H a = some (.ins C dx (ns.zip vs ++ fs)) ∧ (ns.length = vs.length ∧ ns ≠ [] ∧ ∀ p ∈ fs, p.1 ∈ FLD) ∧ IsL ds vs
  | .scr ns, v => ∃ a, v = .ref a ∧ FzL K H a (ns.map V.int)
  | .ty n, v => v = .ty n
  | .cls c, v => v = .ref c
  | .exc a p d, v => v = .ref a ∧ ∃ u, H p = some (.xd [(("value" : Str), u)]) ∧ Is d u
  | .dct hf ks ds, v => ∃ a ob L vs, v = .ref a ∧ H a = some (.frz ob (DN.DictO hf a L)) ∧ (L.map (·.1) = ks ∧ (∀ e ∈ L, DN.MemT K H e.1 e.2.1) ∧ L.map (·.2.2) = vs) ∧ IsL ds vs
def IsL : List D → List V → Prop
  | [], vs => vs = []
  | d :: ds, vs => ∃ v r, vs = v :: r ∧ Is d v ∧ IsL ds r
end
def IsK : List (Key × D) → List (Key × V) → Prop := Paired fun p q => p.1 = q.1 ∧ Is K ρ H p.2 q.2
def IsN : List (DN.NK × D) → List DN.DEnt → Prop := Paired fun p e => p.1 = e.1 ∧ DN.MemT K H e.1 e.2.1 ∧ Is K ρ H p.2 e.2.2
/-- what the world tells: the order of sets, the hashes of keys -/
structure Fo where
  b : Bool
  h : DN.NK → Int
def CellIs (fo : Fo) (a : Addr) : Cell → HO → Prop
  | .lst ds, o => ∃ vs, o = .lst vs ∧ IsL K ρ H ds vs
  | .dic kds, o => ∃ kvs, o = .dK kvs ∧ IsK K ρ H kds kvs
  | .map kvs, o => ∃ L, o = DN.DictO fo.h a L ∧ IsN K ρ H kvs L
  | .set ks, o => ∃ L, o = DN.SetO fo.b a L ∧ (∀ e ∈ L, DN.Mem K H e.2 e.1) ∧ (L.map (·.2)).Perm ks
end
def isCell : HO → Bool
  | .lst _ => true
  | .dK _ => true
  | .ext _ => true
  | _ => false
theorem CellIs.cell {K : PySem.W.Frag} {ρ : List Addr} {H : Hp} {fo : Fo} {a : Addr} {c : Cell} {o : HO} (h : CellIs K ρ H fo a c o) : isCell o = true := by
  cases c with
  | lst ds => obtain ⟨_, rfl, _⟩ := h; rfl
  | dic ds => obtain ⟨_, rfl, _⟩ := h; rfl
  | set ks => obtain ⟨_, rfl, _⟩ := h; rfl
  | map ks => obtain ⟨_, rfl, _⟩ := h; rfl
/-- whether the world's sets follow the text -/
abbrev fw (w : World) : Fo := ⟨w.params.followText "set-order", DN.hw w⟩
structure Ct where
  K : PySem.W.Frag
  Ts : List Addr
  fo : Fo
structure Rel (C : Ct) (ρ : List Addr) (G : GS) (H : Hp) : Prop where
  len : ρ.length = G.length
  nd : ρ.Nodup
  cell : ∀ (i : Nat) (c : Cell) (a : Addr), G[i]? = some c → ρ[i]? = some a → ∃ o, H a = some o ∧ CellIs C.K ρ H C.fo a c o
  tab : ∀ P ∈ C.Ts, GxR.TabG H P
/-- what is tracked and no cell stays -/
structure Ext (ρ : List Addr) (H H' : Hp) : Prop where
  keep : ∀ a o, H a = some o → a ∉ ρ → (∀ ps, o ≠ .tbl ps) → H' a = some o
  tbl : ∀ a ps, H a = some (.tbl ps) → ∃ ps', H' a = some (.tbl ps')
theorem Ext.refl (ρ : List Addr) (H : Hp) : Ext ρ H H := ⟨fun _ _ e _ _ => e, fun _ ps e => ⟨ps, e⟩⟩
structure Step (C : Ct) (ρ : List Addr) (H : Hp) (ρ' : List Addr) (G' : GS) (H' : Hp) : Prop where
  pre : ρ <+: ρ'
  ext : Ext ρ H H'
  rel : Rel C ρ' G' H'
  fresh : ∀ a ∈ ρ', a ∉ ρ → H a = none
section
variable {C : Ct} {ρ ρ1 ρ2 ρ' : List Addr} {G G1 G2 G' : GS} {H H1 H2 H' : Hp}
theorem Rel.there (R : Rel C ρ G H) {a : Addr} (h : a ∈ ρ) : ∃ o, H a = some o ∧ isCell o = true := by
  obtain ⟨i, hi, e⟩ := List.getElem_of_mem h
  have hg : i < G.length := by rw [← R.len]; exact hi
  obtain ⟨o, ho, hc⟩ := R.cell i _ a (List.getElem?_eq_getElem hg) (by rw [List.getElem?_eq_getElem hi, e])
  exact ⟨o, ho, hc.cell⟩
theorem Rel.out (R : Rel C ρ G H) {a : Addr} {o : HO} (h : H a = some o) (ho : isCell o = false) : a ∉ ρ := fun z => by
  obtain ⟨o', e, q⟩ := R.there z
  rw [h] at e
  cases e
  rw [ho] at q
  cases q
theorem Step.refl (R : Rel C ρ G H) : Step C ρ H ρ G H := ⟨List.prefix_refl _, Ext.refl _ _, R, fun a h n => absurd h n⟩
theorem Step.trans (s : Step C ρ H ρ1 G1 H1) (t : Step C ρ1 H1 ρ2 G2 H2) : Step C ρ H ρ2 G2 H2 := by
  refine ⟨s.pre.trans t.pre, ⟨fun a o e n nt => ?_, fun a ps e => ?_⟩, t.rel, fun a h n => ?_⟩
  · have e1 := s.ext.keep a o e n nt
    refine t.ext.keep a o e1 (fun z => ?_) nt
    have := s.fresh a z n
    rw [e] at this
    cases this
  · obtain ⟨ps1, e1⟩ := s.ext.tbl a ps e
    exact t.ext.tbl a ps1 e1
  · by_cases h1 : a ∈ ρ1
    · exact s.fresh a h1 n
    · have z := t.fresh a h h1
      cases e : H a with
      | none => rfl
      | some o =>
        exfalso
        by_cases nt : ∃ ps, o = .tbl ps
        · obtain ⟨ps, rfl⟩ := nt
          obtain ⟨ps1, e1⟩ := s.ext.tbl a ps e
          rw [z] at e1; cases e1
        · rw [s.ext.keep a o e n fun ps q => nt ⟨ps, q⟩] at z
          cases z
/-- what is no cell and no table stays -/
structure TExt (H H' : Hp) : Prop where
  keep : ∀ a o, H a = some o → isCell o = false → (∀ ps, o ≠ .tbl ps) → H' a = some o
theorem Ext.text (R : Rel C ρ G H) (x : Ext ρ H H1) : TExt H H1 := ⟨fun a o h ho ht => x.keep a o h (R.out h ho) ht⟩
theorem TExt.sqt {K : PySem.W.Frag} (s : TExt H H1) {a : Addr} {vs : List V} (h : SqT K H a vs) : SqT K H1 a vs := by
  rcases h with (h | ⟨o, h⟩) | h
  · exact .inl (.inl (s.keep _ _ h rfl fun ps q => by cases q))
  · exact .inl (.inr ⟨o, s.keep _ _ h rfl fun ps q => by cases q⟩)
  · exact .inr h
theorem Step.sqt {K : PySem.W.Frag} (R : Rel C ρ G H) (s : Step C ρ H ρ1 G1 H1) {a : Addr} {vs : List V} (h : SqT K H a vs) : SqT K H1 a vs := (s.ext.text R).sqt h
theorem TExt.fzl {K : PySem.W.Frag} (s : TExt H H1) {a : Addr} {vs : List V} (h : FzL K H a vs) : FzL K H1 a vs := by
  rcases h with ⟨o, h1⟩ | h1
  · exact .inl ⟨o, s.keep _ _ h1 rfl fun ps q => by cases q⟩
  · exact .inr h1
theorem Ext.fzl {K : PySem.W.Frag} (R : Rel C ρ G H) (s : Ext ρ H H1) {a : Addr} {vs : List V} (h : FzL K H a vs) : FzL K H1 a vs := (s.text R).fzl h
theorem ix_pre {ρ ρ' : List Addr} (p : ρ <+: ρ') {n : Nat} {a : Addr} (h : ρ[n]? = some a) : ρ'[n]? = some a := by
  obtain ⟨t, rfl⟩ := p
  have hl := (List.getElem?_eq_some_iff.mp h).1
  rw [List.getElem?_append_left hl]
  exact h
mutual
theorem kv_mono {K : PySem.W.Frag} (s : TExt H H1) : ∀ (k : DN.NK) (v : V), DN.KV K H k v → DN.KV K H1 k v
  | .none, v, h => by simpa only [DN.KV] using h
  | .num i, v, h => by simpa only [DN.KV] using h
  | .text x, v, h => by simpa only [DN.KV] using h
  | .tup ks, v, h => by
    simp only [DN.KV] at h ⊢
    obtain ⟨a, vs, e, h1, h2⟩ := h
    exact ⟨a, vs, e, s.sqt h1, kvs_mono s ks vs h2⟩
theorem kvs_mono {K : PySem.W.Frag} (s : TExt H H1) : ∀ (ks : List DN.NK) (vs : List V), DN.KVs K H ks vs → DN.KVs K H1 ks vs
  | [], vs, h => by simpa only [DN.KVs] using h
  | k :: ks, vs, h => by
    simp only [DN.KVs] at h ⊢
    obtain ⟨v, r, e, h1, h2⟩ := h
    exact ⟨v, r, e, kv_mono s k v h1, kvs_mono s ks r h2⟩
end
theorem memt_mono {K : PySem.W.Frag} (s : TExt H H1) {k : DN.NK} {b : Addr} (m : DN.MemT K H k b) : DN.MemT K H1 k b := ⟨kv_mono s k _ m.is, m.low⟩
mutual
theorem Is.mono {K : PySem.W.Frag} (p : ρ <+: ρ1) (s : TExt H H1) : ∀ (d : D) (v : V), Is K ρ H d v → Is K ρ1 H1 d v
  | .non, v, h => by simpa only [Is] using h
  | .bl b, v, h => by simpa only [Is] using h
  | .int i, v, h => by simpa only [Is] using h
  | .str x, v, h => by simpa only [Is] using h
  | .tup ds, v, h => by
    simp only [Is] at h ⊢
    obtain ⟨a, vs, e, h1, h2⟩ := h
    exact ⟨a, vs, e, s.sqt h1, IsL.mono p s ds vs h2⟩
  | .ref n, v, h => by
    simp only [Is] at h ⊢
    obtain ⟨a, e, h1⟩ := h
    exact ⟨a, e, ix_pre p h1⟩
  | .ins c ns ds, v, h => by
    simp only [Is] at h ⊢
    obtain ⟨a, dx, vs, fs, e, h1, h2, h3⟩ := h
    exact ⟨a, dx, vs, fs, e, s.keep _ _ h1 rfl (fun ps q => by cases q), h2, IsL.mono p s ds vs h3⟩
  | .scr ns, v, h => by
    simp only [Is] at h ⊢
    obtain ⟨a, e, h1⟩ := h
    exact ⟨a, e, s.fzl h1⟩
  | .ty n, v, h => by simpa only [Is] using h
  | .cls c, v, h => by simpa only [Is] using h
  | .exc a q d, v, h => by
    simp only [Is] at h ⊢
    obtain ⟨e, u, h1, h2⟩ := h
    exact ⟨e, u, s.keep _ _ h1 rfl (fun ps z => by cases z), Is.mono p s d u h2⟩
  | .dct hf ks ds, v, h => by
    simp only [Is] at h ⊢
    obtain ⟨a, ob, L, vs, e, h1, ⟨h2, h3, h4⟩, h5⟩ := h
    exact ⟨a, ob, L, vs, e, s.keep _ _ h1 rfl (fun ps z => by cases z), ⟨h2, fun x m => memt_mono s (h3 x m), h4⟩, IsL.mono p s ds vs h5⟩
theorem IsL.mono {K : PySem.W.Frag} (p : ρ <+: ρ1) (s : TExt H H1) : ∀ (ds : List D) (vs : List V), IsL K ρ H ds vs → IsL K ρ1 H1 ds vs
  | [], vs, h => by simpa only [IsL] using h
  | d :: ds, vs, h => by
    simp only [IsL] at h ⊢
    obtain ⟨v, r, e, h1, h2⟩ := h
    exact ⟨v, r, e, Is.mono p s d v h1, IsL.mono p s ds r h2⟩
end
theorem Is.step {K : PySem.W.Frag} (R : Rel C ρ G H) (s : Step C ρ H ρ1 G1 H1) {d : D} {v : V} (h : Is K ρ H d v) : Is K ρ1 H1 d v := h.mono s.pre (s.ext.text R)
theorem IsL.step {K : PySem.W.Frag} (R : Rel C ρ G H) (s : Step C ρ H ρ1 G1 H1) {ds : List D} {vs : List V} (h : IsL K ρ H ds vs) : IsL K ρ1 H1 ds vs := h.mono s.pre (s.ext.text R)
theorem IsK.mono {K : PySem.W.Frag} (p : ρ <+: ρ1) (s : TExt H H1) : ∀ {ds : List (Key × D)} {vs : List (Key × V)}, IsK K ρ H ds vs → IsK K ρ1 H1 ds vs
  | _, _, .nil => .nil
  | _, _, .cons h t => .cons ⟨h.1, h.2.mono p s⟩ (IsK.mono p s t)
theorem mem_mono {K : PySem.W.Frag} (s : TExt H H1) {k : DN.NK} {b : Addr} (m : DN.Mem K H k b) : DN.Mem K H1 k b := ⟨kv_mono s k _ m.is, m.low, m.dry⟩
theorem IsN.mono {K : PySem.W.Frag} (p : ρ <+: ρ1) (s : TExt H H1) : ∀ {ds : List (DN.NK × D)} {L : List DN.DEnt}, IsN K ρ H ds L → IsN K ρ1 H1 ds L
  | _, _, .nil => .nil
  | _, _, .cons h t => .cons ⟨h.1, memt_mono s h.2.1, Is.mono p s _ _ h.2.2⟩ (IsN.mono p s t)
theorem CellIs.mono {K : PySem.W.Frag} (p : ρ <+: ρ1) (s : TExt H H1) {fo : Fo} {a : Addr} {c : Cell} {o : HO} (h : CellIs K ρ H fo a c o) : CellIs K ρ1 H1 fo a c o := by
  cases c with
  | set ks =>
    obtain ⟨L, e, h1, h2⟩ := h
    exact ⟨L, e, fun x m => mem_mono s (h1 x m), h2⟩
  | map ks => obtain ⟨L, e, h⟩ := h; exact ⟨L, e, IsN.mono p s h⟩
  | lst ds => obtain ⟨vs, e, h⟩ := h; exact ⟨vs, e, h.mono p s⟩
  | dic ds => obtain ⟨vs, e, h⟩ := h; exact ⟨vs, e, IsK.mono p s h⟩
theorem IsL.len {K : PySem.W.Frag} {ρ : List Addr} {H : Hp} : ∀ {ds : List D} {vs : List V}, IsL K ρ H ds vs → ds.length = vs.length
  | [], vs, h => by simp only [IsL] at h; subst h; rfl
  | d :: ds, vs, h => by
    simp only [IsL] at h
    obtain ⟨v, r, rfl, _, h2⟩ := h
    rw [List.length_cons, List.length_cons, h2.len]
theorem IsL.get {K : PySem.W.Frag} {ρ : List Addr} {H : Hp} : ∀ {ds : List D} {vs : List V} {i : Nat} {d : D}, IsL K ρ H ds vs → ds[i]? = some d → ∃ v, vs[i]? = some v ∧ Is K ρ H d v
  | [], vs, i, d, h, e => by simp at e
  | d0 :: ds, vs, 0, d, h, e => by
    simp only [IsL] at h
    obtain ⟨v, r, rfl, h1, _⟩ := h
    have e : d0 = d := by simpa using e
    subst e
    exact ⟨v, rfl, h1⟩
  | d0 :: ds, vs, i + 1, d, h, e => by
    simp only [IsL] at h
    obtain ⟨v, r, rfl, _, h2⟩ := h
    obtain ⟨w, e1, e2⟩ := h2.get (i := i) (d := d) (by simpa using e)
    exact ⟨w, by simpa using e1, e2⟩
theorem IsL.cons {K : PySem.W.Frag} {ρ : List Addr} {H : Hp} {d : D} {v : V} {ds : List D} {vs : List V} (h : Is K ρ H d v) (t : IsL K ρ H ds vs) : IsL K ρ H (d :: ds) (v :: vs) := by
  simp only [IsL]
  exact ⟨v, vs, rfl, h, t⟩
theorem IsL.nil {K : PySem.W.Frag} {ρ : List Addr} {H : Hp} : IsL K ρ H [] [] := by simp only [IsL]
theorem IsL.app {K : PySem.W.Frag} {ρ : List Addr} {H : Hp} : ∀ {ds es : List D} {vs ws : List V}, IsL K ρ H ds vs → IsL K ρ H es ws → IsL K ρ H (ds ++ es) (vs ++ ws)
  | [], es, vs, ws, h, t => by simp only [IsL] at h; subst h; exact t
  | d :: ds, es, vs, ws, h, t => by
    simp only [IsL] at h
    obtain ⟨v, r, rfl, h1, h2⟩ := h
    exact .cons h1 (h2.app t)
theorem IsL.set {K : PySem.W.Frag} {ρ : List Addr} {H : Hp} {d : D} {v : V} (h : Is K ρ H d v) : ∀ {ds : List D} {vs : List V} {i : Nat}, IsL K ρ H ds vs → IsL K ρ H (ds.set i d) (vs.set i v)
  | [], vs, i, h => by simp only [IsL] at h; subst h; exact .nil
  | d0 :: ds, vs, 0, t => by
    simp only [IsL] at t
    obtain ⟨w, r, rfl, h1, h2⟩ := t
    exact .cons h h2
  | d0 :: ds, vs, i + 1, t => by
    simp only [IsL] at t
    obtain ⟨w, r, rfl, h1, h2⟩ := t
    exact .cons h1 (IsL.set h h2)
theorem IsL.take {K : PySem.W.Frag} {ρ : List Addr} {H : Hp} : ∀ {ds : List D} {vs : List V} (n : Nat), IsL K ρ H ds vs → IsL K ρ H (ds.take n) (vs.take n)
  | _, _, 0, _ => .nil
  | [], vs, n + 1, h => by simp only [IsL] at h; subst h; exact .nil
  | d :: ds, vs, n + 1, h => by
    simp only [IsL] at h
    obtain ⟨v, r, rfl, h1, h2⟩ := h
    exact .cons h1 (h2.take n)
theorem IsL.drop {K : PySem.W.Frag} {ρ : List Addr} {H : Hp} : ∀ {ds : List D} {vs : List V} (n : Nat), IsL K ρ H ds vs → IsL K ρ H (ds.drop n) (vs.drop n)
  | _, _, 0, h => h
  | [], vs, n + 1, h => by simp only [IsL] at h; subst h; exact .nil
  | d :: ds, vs, n + 1, h => by
    simp only [IsL] at h
    obtain ⟨v, r, rfl, h1, h2⟩ := h
    exact h2.drop n
theorem IsL.erase {K : PySem.W.Frag} {ρ : List Addr} {H : Hp} : ∀ {ds : List D} {vs : List V} (n : Nat), IsL K ρ H ds vs → IsL K ρ H (ds.eraseIdx n) (vs.eraseIdx n)
  | [], vs, n, h => by simp only [IsL] at h; subst h; exact .nil
  | d :: ds, vs, 0, h => by
    simp only [IsL] at h
    obtain ⟨v, r, rfl, h1, h2⟩ := h
    exact h2
  | d :: ds, vs, n + 1, h => by
    simp only [IsL] at h
    obtain ⟨v, r, rfl, h1, h2⟩ := h
    exact .cons h1 (h2.erase n)
/-- a new object that is no cell of ours -/
theorem Step.lay (R : Rel C ρ G H) {p : Addr} {o : HO} (hp : H p = none) : Step C ρ H ρ G (upd H p o) := by
  have x : Ext ρ H (upd H p o) := ⟨fun a u e _ _ => by rw [upd_ne (ne_of_none e hp)]; exact e, fun a ps e => ⟨ps, by rw [upd_ne (ne_of_none e hp)]; exact e⟩⟩
  refine ⟨List.prefix_refl _, x, ⟨R.len, R.nd, fun i c a h1 h2 => ?_, fun P hP => ?_⟩, fun a h n => absurd h n⟩
  · obtain ⟨u, e, q⟩ := R.cell i c a h1 h2
    exact ⟨u, by rw [upd_ne (ne_of_none e hp)]; exact e, q.mono (List.prefix_refl _) (x.text R)⟩
  · obtain ⟨ps, e, t⟩ := R.tab P hP
    exact ⟨ps, by rw [upd_ne (ne_of_none e hp)]; exact e, t⟩
/-- a new cell -/
theorem Step.alloc (R : Rel C ρ G H) {p : Addr} {o : HO} {c : Cell} (hp : H p = none) (hc : CellIs C.K ρ H C.fo p c o) : Step C ρ H (ρ ++ [p]) (G ++ [c]) (upd H p o) := by
  have hn : p ∉ ρ := fun z => by
    obtain ⟨u, e, _⟩ := R.there z
    rw [hp] at e; cases e
  have x : Ext ρ H (upd H p o) := ⟨fun a u e _ _ => by rw [upd_ne (ne_of_none e hp)]; exact e, fun a ps e => ⟨ps, by rw [upd_ne (ne_of_none e hp)]; exact e⟩⟩
  have pre : ρ <+: ρ ++ [p] := List.prefix_append _ _
  refine ⟨pre, x, ⟨?_, ?_, fun i d a h1 h2 => ?_, fun P hP => ?_⟩, fun a h n => ?_⟩
  · rw [List.length_append, List.length_append, R.len]; rfl
  · rw [List.nodup_append]
    refine ⟨R.nd, (by simp), fun a ha b hb e => ?_⟩
    rw [List.mem_singleton.mp hb] at e
    subst e
    exact hn ha
  · by_cases hi : i < G.length
    · rw [List.getElem?_append_left hi] at h1
      rw [List.getElem?_append_left (by rw [R.len]; exact hi)] at h2
      obtain ⟨u, e, q⟩ := R.cell i d a h1 h2
      exact ⟨u, by rw [upd_ne (ne_of_none e hp)]; exact e, q.mono pre (x.text R)⟩
    · have e : i = G.length := by
        have := (List.getElem?_eq_some_iff.mp h1).1
        rw [List.length_append, List.length_singleton] at this
        omega
      subst e
      rw [List.getElem?_append_right (Nat.le_refl _), Nat.sub_self] at h1
      rw [← R.len, List.getElem?_append_right (Nat.le_refl _), Nat.sub_self] at h2
      cases h1
      cases h2
      exact ⟨o, upd_same, hc.mono pre (x.text R)⟩
  · obtain ⟨ps, e, t⟩ := R.tab P hP
    exact ⟨ps, by rw [upd_ne (ne_of_none e hp)]; exact e, t⟩
  · rcases List.mem_append.mp h with h | h
    · exact absurd h n
    · rw [List.mem_singleton.mp h]; exact hp
theorem Rel.new_at (R : Rel C ρ G H) {p : Addr} {K : PySem.W.Frag} {H' : Hp} : Is K (ρ ++ [p]) H' (.ref G.length) (.ref p) := by
  simp only [Is]
  exact ⟨p, rfl, by rw [← R.len, List.getElem?_append_right (Nat.le_refl _), Nat.sub_self]; rfl⟩
/-- a cell changes -/
theorem Step.write (R : Rel C ρ G H) {n : Nat} {a : Addr} {o o0 : HO} {c : Cell} (ha : ρ[n]? = some a) (h0 : H a = some o0) (hc : CellIs C.K ρ H C.fo a c o) : Step C ρ H ρ (G.set n c) (upd H a o) := by
  have hm : a ∈ ρ := List.mem_of_getElem? ha
  have nt : ∀ ps, o0 ≠ .tbl ps := fun ps e => by
    obtain ⟨u, e1, q⟩ := R.there hm
    rw [h0, e] at e1; cases e1; cases q
  have x : Ext ρ H (upd H a o) := ⟨fun b u e n _ => by rw [upd_ne (fun z => n (by rw [z]; exact hm))]; exact e, fun b ps e => ⟨ps, by rw [upd_ne (fun z => nt ps (by rw [z, h0] at e; exact Option.some.inj e))]; exact e⟩⟩
  refine ⟨List.prefix_refl _, x, ⟨by rw [List.length_set]; exact R.len, R.nd, fun i d b h1 h2 => ?_, fun P hP => ?_⟩, fun a h n => absurd h n⟩
  · by_cases hi : n = i
    · subst hi
      rw [ha] at h2
      cases h2
      have hl := (List.getElem?_eq_some_iff.mp h1).1
      rw [List.length_set] at hl
      rw [List.getElem?_set_self hl] at h1
      cases h1
      exact ⟨o, upd_same, hc.mono (List.prefix_refl _) (x.text R)⟩
    · rw [List.getElem?_set_ne hi] at h1
      obtain ⟨u, e, q⟩ := R.cell i d b h1 h2
      have hb : b ≠ a := fun z => by
        subst z
        exact hi (nd_ix R.nd ha h2)
      exact ⟨u, by rw [upd_ne hb]; exact e, q.mono (List.prefix_refl _) (x.text R)⟩
  · obtain ⟨ps, e, t⟩ := R.tab P hP
    exact ⟨ps, by rw [upd_ne (fun z => nt ps (by rw [z, h0] at e; exact Option.some.inj e))]; exact e, t⟩
/-- a list that is no cell of ours grows -/
theorem Step.hidden (R : Rel C ρ G H) (st : Step C ρ H ρ1 G1 H1) {p : Addr} {vs ws : List V} (h0 : H p = none) (hn : p ∉ ρ1) (hp : H1 p = some (.lst vs)) : Step C ρ H ρ1 G1 (upd H1 p (.lst ws)) ∧ TExt H1 (upd H1 p (.lst ws)) := by
  have x : TExt H1 (upd H1 p (.lst ws)) := ⟨fun a o h ho ht => by
    rw [upd_ne]
    · exact h
    · intro e
      rw [e, hp] at h
      cases h
      cases ho⟩
  refine ⟨⟨st.pre, ⟨fun a o e n nt => ?_, fun a ps e => ?_⟩, ⟨st.rel.len, st.rel.nd, fun i c a h1 h2 => ?_, fun P hP => ?_⟩, st.fresh⟩, x⟩
  · rw [upd_ne (ne_of_none e h0)]
    exact st.ext.keep a o e n nt
  · rw [upd_ne (ne_of_none e h0)]
    exact st.ext.tbl a ps e
  · obtain ⟨o, e, q⟩ := st.rel.cell i c a h1 h2
    refine ⟨o, ?_, q.mono (List.prefix_refl _) x⟩
    rw [upd_ne]
    · exact e
    · intro z
      subst z
      exact hn (List.mem_of_getElem? h2)
  · obtain ⟨ps, e, t⟩ := st.rel.tab P hP
    refine ⟨ps, ?_, t⟩
    rw [upd_ne]
    · exact e
    · intro z
      rw [z, hp] at e
      cases e
/-- what is free was free -/
theorem Step.back (st : Step C ρ H ρ1 G1 H1) {p : Addr} (h : H1 p = none) : H p = none := by
  cases e : H p with
  | none => rfl
  | some o =>
    exfalso
    by_cases hp : p ∈ ρ
    · have hp1 : p ∈ ρ1 := st.pre.subset hp
      obtain ⟨o1, e1, _⟩ := st.rel.there hp1
      rw [h] at e1; cases e1
    · by_cases nt : ∃ ps, o = .tbl ps
      · obtain ⟨ps, rfl⟩ := nt
        obtain ⟨ps1, e1⟩ := st.ext.tbl p ps e
        rw [h] at e1; cases e1
      · rw [st.ext.keep p o e hp fun ps q => nt ⟨ps, q⟩] at h
        cases h
/-- what a reference tells -/
theorem Rel.lst (R : Rel C ρ G H) {n : Nat} {ds : List D} {v : V} (h : G[n]? = some (.lst ds)) (i : Is C.K ρ H (.ref n) v) : ∃ a vs, v = .ref a ∧ ρ[n]? = some a ∧ H a = some (.lst vs) ∧ IsL C.K ρ H ds vs := by
  simp only [Is] at i
  obtain ⟨a, rfl, ha⟩ := i
  obtain ⟨o, e, vs, rfl, q⟩ := R.cell n _ a h ha
  exact ⟨a, vs, rfl, ha, e, q⟩
theorem Rel.dic (R : Rel C ρ G H) {n : Nat} {ds : List (Key × D)} {v : V} (h : G[n]? = some (.dic ds)) (i : Is C.K ρ H (.ref n) v) : ∃ a vs, v = .ref a ∧ ρ[n]? = some a ∧ H a = some (.dK vs) ∧ IsK C.K ρ H ds vs := by
  simp only [Is] at i
  obtain ⟨a, rfl, ha⟩ := i
  obtain ⟨o, e, vs, rfl, q⟩ := R.cell n _ a h ha
  exact ⟨a, vs, rfl, ha, e, q⟩
structure Sls (K : PySem.W.Frag) (ρ : List Addr) (H : Hp) (σ : L2.St) (s : Sl) : Prop where
  len : σ.length = s.length
  at_ : ∀ (i : Nat) (d : D), s[i]? = some (some d) → ∃ v, σ[i]? = some (some v) ∧ Is K ρ H d v
theorem Sls.step {σ : L2.St} {s : Sl} (R : Rel C ρ G H) (st : Step C ρ H ρ1 G1 H1) (h : Sls C.K ρ H σ s) : Sls C.K ρ1 H1 σ s :=
  ⟨h.len, fun i d e => let ⟨v, e1, e2⟩ := h.at_ i d e; ⟨v, e1, Is.step R st e2⟩⟩
theorem Sls.set {K : PySem.W.Frag} {σ : L2.St} {s : Sl} {i : Nat} {d : D} {v : V} (h : Sls K ρ H σ s) (e : Is K ρ H d v) : Sls K ρ H (σ.set i (some v)) (s.set i (some d)) := by
  refine ⟨by rw [List.length_set, List.length_set]; exact h.len, fun j d' e' => ?_⟩
  by_cases hj : i = j
  · subst hj
    have hl : i < s.length := by
      have := (List.getElem?_eq_some_iff.mp e').1
      rwa [List.length_set] at this
    rw [List.getElem?_set_self hl] at e'
    cases e'
    exact ⟨v, List.getElem?_set_self (by rw [h.len]; exact hl), e⟩
  · rw [List.getElem?_set_ne hj] at e'
    obtain ⟨v', e1, e2⟩ := h.at_ j d' e'
    exact ⟨v', by rw [List.getElem?_set_ne hj]; exact e1, e2⟩
theorem Sls.unset {K : PySem.W.Frag} {σ : L2.St} {s : Sl} {i : Nat} (h : Sls K ρ H σ s) : Sls K ρ H (σ.set i none) (s.set i none) := by
  refine ⟨by rw [List.length_set, List.length_set]; exact h.len, fun j d' e' => ?_⟩
  by_cases hj : i = j
  · subst hj
    have hl : i < s.length := by
      have := (List.getElem?_eq_some_iff.mp e').1
      rwa [List.length_set] at this
    rw [List.getElem?_set_self hl] at e'
    cases e'
  · rw [List.getElem?_set_ne hj] at e'
    obtain ⟨v', e1, e2⟩ := h.at_ j d' e'
    exact ⟨v', by rw [List.getElem?_set_ne hj]; exact e1, e2⟩
inductive R (α : Type) where
  | bad | ok (a : α) (g : GS) | ex (c : Addr) (d : D) (g : GS)
abbrev M (α : Type) := GS → R α
def bnd {α β : Type} (m : M α) (k : α → M β) : M β := fun g => match m g with
  | .bad => .bad
  | .ok a g' => k a g'
  | .ex c d g' => .ex c d g'
def pur {α : Type} (a : α) : M α := fun g => .ok a g
def fail {α : Type} : M α := fun _ => .bad
inductive RS where
  | bad | nx (s : Sl) (g : GS) | rt (d : D) (g : GS) | bk (s : Sl) (g : GS) | ct (s : Sl) (g : GS) | ex (c : Addr) (d : D) (g : GS)
abbrev MS := Sl → GS → RS
/-- an exception as it is wished for -/
def ExOk (C : Ct) (ρ : List Addr) (H : Hp) (E : XK) (c : Addr) (d : D) (G' : GS) : Prop :=
  ∀ p v ρ' H', Step C ρ H ρ' G' H' → H' p = some (.xd [("value", v)]) → Is C.K ρ' H' d v → E (.ref c) (some p) H'
/-- what an outcome makes of a wish; Ok: how a value of α lies in the heap -/
def Run {α β : Type} (C : Ct) (ρ : List Addr) (H : Hp) (Ok : List Addr → Hp → α → β → Prop) (r : R α) (Q : β → Hp → Prop) (E : XK) : Prop := match r with
  | .bad => False
  | .ok d G' => ∀ v ρ' H', Step C ρ H ρ' G' H' → Ok ρ' H' d v → Q v H'
  | .ex c d G' => ExOk C ρ H E c d G'
abbrev okD (C : Ct) : List Addr → Hp → D → V → Prop := fun ρ H d v => Is C.K ρ H d v
abbrev okL (C : Ct) : List Addr → Hp → List D → List V → Prop := fun ρ H d v => IsL C.K ρ H d v
abbrev okB : List Addr → Hp → Bool → Bool → Prop := fun _ _ a b => a = b
abbrev okO : List Addr → Hp → Option Int → Option Int → Prop := fun _ _ a b => a = b
theorem ExOk.step {E : XK} {c : Addr} {d : D} (st : Step C ρ H ρ1 G1 H1) (h : ExOk C ρ H E c d G') : ExOk C ρ1 H1 E c d G' :=
  fun p v ρ' H' s' e i => h p v ρ' H' (st.trans s') e i
theorem Run.step {α β : Type} {Ok : List Addr → Hp → α → β → Prop} {r : R α} {Q : β → Hp → Prop} {E : XK} (st : Step C ρ H ρ1 G1 H1) (h : Run C ρ H Ok r Q E) : Run C ρ1 H1 Ok r Q E := by
  cases r with
  | bad => exact h
  | ok d G' => exact fun v ρ' H' s' i => h v ρ' H' (st.trans s') i
  | ex c d G' => exact ExOk.step st h
/-- the first of two -/
theorem Run.first {α β γ δ : Type} {Ok : List Addr → Hp → α → β → Prop} {Ok2 : List Addr → Hp → γ → δ → Prop} {m : M α} {k : α → M γ} {Q : δ → Hp → Prop} {Q1 : β → Hp → Prop} {E : XK} (h : Run C ρ H Ok2 (bnd m k G) Q E)
    (hk : ∀ a G1 v ρ1 H1, Step C ρ H ρ1 G1 H1 → Ok ρ1 H1 a v → Run C ρ1 H1 Ok2 (k a G1) Q E → Q1 v H1) : Run C ρ H Ok (m G) Q1 E := by
  unfold bnd at h
  cases e : m G with
  | bad => rw [e] at h; exact h
  | ok a G1 =>
    rw [e] at h
    exact fun v ρ1 H1 st i => hk a G1 v ρ1 H1 st i (Run.step st h)
  | ex c d G1 => rw [e] at h; exact h
structure DE (X : Cx) (Ts : List Addr) (E : XK) (e : Expr) (t : TE) (m : Sl → M D) : Prop where
  pe : PE X e t
  rf : ∀ ρ σ H s G Q, Rel ⟨X.K, Ts, fw X.w⟩ ρ G H → Sls X.K ρ H σ s → Run ⟨X.K, Ts, fw X.w⟩ ρ H (okD ⟨X.K, Ts, fw X.w⟩) (m s G) Q E → t σ H Q
structure DT (X : Cx) (Ts : List Addr) (E : XK) (e : Expr) (t : TT) (m : Sl → M Bool) : Prop where
  pe : PT X e t
  rf : ∀ ρ σ H s G Q, Rel ⟨X.K, Ts, fw X.w⟩ ρ G H → Sls X.K ρ H σ s → Run ⟨X.K, Ts, fw X.w⟩ ρ H okB (m s G) Q E → t σ H Q
structure DW (X : Cx) (Ts : List Addr) (E : XK) (e : Expr) (t : TT) (m : Sl → M Bool) : Prop where
  pe : PW X e t
  rf : ∀ ρ σ H s G Q, Rel ⟨X.K, Ts, fw X.w⟩ ρ G H → Sls X.K ρ H σ s → Run ⟨X.K, Ts, fw X.w⟩ ρ H okB (m s G) Q E → t σ H Q
structure DA (X : Cx) (Ts : List Addr) (E : XK) (es : List Expr) (t : TA) (m : Sl → M (List D)) : Prop where
  pe : PA X es t
  rf : ∀ ρ σ H s G Q, Rel ⟨X.K, Ts, fw X.w⟩ ρ G H → Sls X.K ρ H σ s → Run ⟨X.K, Ts, fw X.w⟩ ρ H (okL ⟨X.K, Ts, fw X.w⟩) (m s G) Q E → t σ H Q
structure DO (X : Cx) (Ts : List Addr) (E : XK) (e : Option Expr) (t : TO) (m : Sl → M (Option Int)) : Prop where
  pe : PO X e t
  rf : ∀ ρ σ H s G Q, Rel ⟨X.K, Ts, fw X.w⟩ ρ G H → Sls X.K ρ H σ s → Run ⟨X.K, Ts, fw X.w⟩ ρ H okO (m s G) Q E → t σ H Q
def RunS (C : Ct) (ρ : List Addr) (H : Hp) (r : RS) (Dn : Ends) (E : XK) : Prop := match r with
  | .bad => False
  | .nx s' G' => ∀ σ' ρ' H', Step C ρ H ρ' G' H' → Sls C.K ρ' H' σ' s' → Dn.nx σ' H'
  | .rt d G' => ∀ v ρ' H', Step C ρ H ρ' G' H' → Is C.K ρ' H' d v → Dn.rt v H'
  | .bk s' G' => ∀ σ' ρ' H', Step C ρ H ρ' G' H' → Sls C.K ρ' H' σ' s' → Dn.bk σ' H'
  | .ct s' G' => ∀ σ' ρ' H', Step C ρ H ρ' G' H' → Sls C.K ρ' H' σ' s' → Dn.ct σ' H'
  | .ex c d G' => ExOk C ρ H E c d G'
end
end DL
namespace DL
open PySem PySem.Spec PyProof.Rows L2
open Classical
noncomputable section
def sget (s : Sl) (i : Nat) : M D := fun g => match s[i]? with
  | some (some d) => .ok d g
  | _ => .bad
section
variable {X : Cx} {Ts : List Addr} {E : XK} {a b c e : Expr} {ta tb tc te : TE} {ma mb mc me : Sl → M D} {pos : Pos} {C : Ct}
theorem Run.ret {α β : Type} {ρ : List Addr} {G : GS} {H : Hp} {Ok : List Addr → Hp → α → β → Prop} {d : α} {v : β} {Q : β → Hp → Prop} (R : Rel C ρ G H) (h : Run C ρ H Ok (.ok d G) Q E) (i : Ok ρ H d v) : Q v H := h v ρ H (Step.refl R) i
theorem de_var {i : Nat} {x : Str} (pe : PE X (.Name x pos) (tVar i)) : DE X Ts E (.Name x pos) (tVar i) (fun s => sget s i) := by
  refine ⟨pe, fun ρ σ H s G Q R S h => ?_⟩
  unfold sget at h
  split at h
  · rename_i d e
    obtain ⟨v, e1, e2⟩ := S.at_ i d e
    exact ⟨v, e1, Run.ret (Ok := okD ⟨X.K, Ts, fw X.w⟩) R h e2⟩
  · exact h.elim
theorem de_c {t : TE} {v : V} {d : D} (pe : PE X e t) (ht : t = tC v) (hd : ∀ ρ H, Is X.K ρ H d v) : DE X Ts E e t (fun _ => pur d) := by
  subst ht
  exact ⟨pe, fun ρ σ H s G Q R S h => Run.ret (Ok := okD ⟨X.K, Ts, fw X.w⟩) R h (hd ρ H)⟩
theorem de_int {i j pos} : DE X Ts E (.Constant (.int i) j pos) (tC (.int i)) (fun _ => pur (.int i)) := de_c pe_int rfl fun _ _ => by simp only [Is]
theorem de_bl {b j pos} : DE X Ts E (.Constant (.bool b) j pos) (tC (.bl b)) (fun _ => pur (.bl b)) := de_c pe_bl rfl fun _ _ => by simp only [Is]
theorem de_non {j pos} : DE X Ts E (.Constant .none j pos) (tC .non) (fun _ => pur .non) := de_c pe_non rfl fun _ _ => by simp only [Is]
theorem de_str {x j pos} : DE X Ts E (.Constant (.str x) j pos) (tC (.str x)) (fun _ => pur (.str x)) := de_c pe_str rfl fun _ _ => by simp only [Is]
def OpD (C : Ct) (r : R2) (o : D → D → M D) : Prop := ∀ ρ G H x y u v Q E, Rel C ρ G H → Is C.K ρ H x u → Is C.K ρ H y v → Run C ρ H (okD C) (o x y G) Q E → r u v H Q
theorem rf_op {r : R2} {o : D → D → M D} (hd : OpD ⟨X.K, Ts, fw X.w⟩ r o) (ha : DE X Ts E a ta ma) (hb : DE X Ts E b tb mb) :
    ∀ ρ σ H s G Q, Rel ⟨X.K, Ts, fw X.w⟩ ρ G H → Sls X.K ρ H σ s → Run ⟨X.K, Ts, fw X.w⟩ ρ H (okD ⟨X.K, Ts, fw X.w⟩) (bnd (ma s) (fun x => bnd (mb s) fun y => o x y) G) Q E → tOp r ta tb σ H Q := by
  intro ρ σ H s G Q R S h
  refine ha.rf ρ σ H s G _ R S (Run.first h fun x G1 u ρ1 H1 st i h1 => ?_)
  refine hb.rf ρ1 σ H1 s G1 _ st.rel (S.step R st) (Run.first h1 fun y G2 v ρ2 H2 st2 j h2 => ?_)
  exact hd ρ2 G2 H2 x y u v Q E st2.rel (Is.step st.rel st2 i) j h2
theorem de_op {op : Operator} {r : R2} {o : D → D → M D} (ho : OpR X (binaryOp op) r) (hd : OpD ⟨X.K, Ts, fw X.w⟩ r o) (ha : DE X Ts E a ta ma) (hb : DE X Ts E b tb mb) :
    DE X Ts E (.BinOp a op b pos) (tOp r ta tb) (fun s => bnd (ma s) fun x => bnd (mb s) fun y => o x y) := ⟨pe_op ho ha.pe hb.pe, rf_op hd ha hb⟩
theorem de_cmp {op : CmpOp} {r : R2} {o : D → D → M D} (ho : OpR X (compareOp op) r) (hd : OpD ⟨X.K, Ts, fw X.w⟩ r o) (ha : DE X Ts E a ta ma) (hb : DE X Ts E b tb mb) (hm : behindInMarks op b = false) :
    DE X Ts E (.Compare a [op] [b] pos) (tOp r ta tb) (fun s => bnd (ma s) fun x => bnd (mb s) fun y => o x y) := ⟨pe_cmpR ho ha.pe hb.pe hm, rf_op hd ha hb⟩
theorem OpD.or {r r' : R2} {o o' : D → D → M D} {c : D → D → GS → Bool} (h : OpD C r o) (h' : OpD C r' o') : OpD C (fun x y H Q => r x y H Q ∨ r' x y H Q) (fun x y g => if c x y g then o x y g else o' x y g) := by
  intro ρ G H x y u v Q E R i j z
  have z : Run C ρ H (okD C) (if c x y G then o x y G else o' x y G) Q E := z
  split at z
  · exact .inl (h ρ G H x y u v Q E R i j z)
  · exact .inr (h' ρ G H x y u v Q E R i j z)
def LIM : Nat := 1000000
theorem lim_ok {n : Nat} (h : n ≤ LIM) : n ≤ sizeLine := Nat.le_trans h (by decide)
theorem lim_lt {n : Nat} (h : n < LIM) : n < sizeLine := Nat.lt_of_lt_of_le h (by decide)
def iop (f : Int → Int → D) (x y : D) : M D := match x, y with
  | .int i, .int j => pur (f i j)
  | _, _ => fail
def iopC (c : Int → Int → Bool) (f : Int → Int → D) (x y : D) : M D := match x, y with
  | .int i, .int j => fun g => if c i j then .ok (f i j) g else .bad
  | _, _ => fail
theorem is_int {K : PySem.W.Frag} {ρ : List Addr} {H : Hp} {i : Int} {v : V} (h : Is K ρ H (.int i) v) : v = .int i := by simpa only [Is] using h
theorem is_str {K : PySem.W.Frag} {ρ : List Addr} {H : Hp} {i : Str} {v : V} (h : Is K ρ H (.str i) v) : v = .str i := by simpa only [Is] using h
theorem is_bl {K : PySem.W.Frag} {ρ : List Addr} {H : Hp} {i : Bool} {v : V} (h : Is K ρ H (.bl i) v) : v = .bl i := by simpa only [Is] using h
theorem is_non {K : PySem.W.Frag} {ρ : List Addr} {H : Hp} {v : V} (h : Is K ρ H .non v) : v = .non := by simpa only [Is] using h
theorem opd_i0 {f : Int → Int → D} {g : Int → Int → V} (hfg : ∀ ρ H i j, Is C.K ρ H (f i j) (g i j)) : OpD C (rI0 g) (iop f) := by
  intro ρ G H x y u v Q E R i j h
  unfold iop at h
  split at h
  · have e1 := is_int i
    have e2 := is_int j
    exact ⟨_, _, e1, e2, Run.ret (Ok := okD C) R h (hfg _ _ _ _)⟩
  · exact h.elim
theorem opd_iC {c : Int → Int → Bool} {P : Int → Int → Prop} {f : Int → Int → D} {g : Int → Int → V} (hP : ∀ i j, c i j = true → P i j) (hfg : ∀ ρ H i j, Is C.K ρ H (f i j) (g i j)) : OpD C (rI P g) (iopC c f) := by
  intro ρ G H x y u v Q E R i j h
  unfold iopC at h
  split at h
  · have e1 := is_int i
    have e2 := is_int j
    split at h
    · rename_i hc
      exact ⟨_, _, e1, e2, hP _ _ hc, Run.ret (Ok := okD C) R h (hfg _ _ _ _)⟩
    · exact h.elim
  · exact h.elim
theorem isInt {K : PySem.W.Frag} {ρ : List Addr} {H : Hp} {i : Int} : Is K ρ H (.int i) (.int i) := by simp only [Is]
theorem isBl {K : PySem.W.Frag} {ρ : List Addr} {H : Hp} {i : Bool} : Is K ρ H (.bl i) (.bl i) := by simp only [Is]
theorem isStr {K : PySem.W.Frag} {ρ : List Addr} {H : Hp} {i : Str} : Is K ρ H (.str i) (.str i) := by simp only [Is]
theorem isNon {K : PySem.W.Frag} {ρ : List Addr} {H : Hp} : Is K ρ H .non .non := by simp only [Is]
def subI : D → D → M D := iop fun i j => .int (i - j)
def mulI : D → D → M D := iopC (fun i j => (decide (-(2 ^ 64) < i) && decide (i < 2 ^ 64)) || (decide (-(2 ^ 64) < j) && decide (j < 2 ^ 64))) fun i j => .int (i * j)
def modI : D → D → M D := iopC (fun _ j => decide (0 < j)) fun i j => .int (i % j)
def divI : D → D → M D := iopC (fun _ j => decide (0 < j) && decide (j < 1073741824)) fun i j => .int (i / j)
def ltI : D → D → M D := iop fun i j => .bl (decide (i < j))
def leI : D → D → M D := iop fun i j => .bl (decide (i ≤ j))
def gtI : D → D → M D := iop fun i j => .bl (decide (j < i))
def geI : D → D → M D := iop fun i j => .bl (decide (j ≤ i))
theorem opd_subI : OpD C (rI0 fun i j => .int (i - j)) subI := opd_i0 fun _ _ _ _ => isInt
theorem opd_mulI : OpD C (rI CMul fun i j => .int (i * j)) mulI := opd_iC (fun i j h => by
  simp only [Bool.or_eq_true, Bool.and_eq_true, decide_eq_true_eq] at h
  exact h) fun _ _ _ _ => isInt
theorem opd_modI : OpD C (rI (fun _ j => 0 < j) fun i j => .int (i % j)) modI := opd_iC (fun i j h => of_decide_eq_true h) fun _ _ _ _ => isInt
theorem opd_divI : OpD C (rI CDiv fun i j => .int (i / j)) divI := opd_iC (fun i j h => by
  simp only [Bool.and_eq_true, decide_eq_true_eq] at h
  exact h) fun _ _ _ _ => isInt
theorem opd_ltI : OpD C (rI0 fun i j => .bl (decide (i < j))) ltI := opd_i0 fun _ _ _ _ => isBl
theorem opd_leI : OpD C (rI0 fun i j => .bl (decide (i ≤ j))) leI := opd_i0 fun _ _ _ _ => isBl
theorem opd_gtI : OpD C (rI0 fun i j => .bl (decide (j < i))) gtI := opd_i0 fun _ _ _ _ => isBl
theorem opd_geI : OpD C (rI0 fun i j => .bl (decide (j ≤ i))) geI := opd_i0 fun _ _ _ _ => isBl
def addS (x y : D) : M D := match x, y with
  | .str i, .str j => fun g => if i.length + j.length ≤ LIM then .ok (.str (i ++ j)) g else .bad
  | _, _ => fail
theorem opd_addS : OpD C (fun x y H Q => ∃ i j, x = .str i ∧ y = .str j ∧ i.length + j.length ≤ sizeLine ∧ Q (.str (i ++ j)) H) addS := by
  intro ρ G H x y u v Q E R i j h
  unfold addS at h
  split at h
  · have e1 := is_str i
    have e2 := is_str j
    split at h
    · rename_i hc
      exact ⟨_, _, e1, e2, lim_ok hc, Run.ret (Ok := okD C) R h isStr⟩
    · exact h.elim
  · exact h.elim
theorem is_tup {K : PySem.W.Frag} {ρ : List Addr} {H : Hp} {ds : List D} {v : V} (h : Is K ρ H (.tup ds) v) : ∃ a vs, v = .ref a ∧ SqT K H a vs ∧ IsL K ρ H ds vs := by simpa only [Is] using h
theorem isTup {K : PySem.W.Frag} {ρ : List Addr} {H : Hp} {ds : List D} {a : Addr} {vs : List V} (h : SqT K H a vs) (i : IsL K ρ H ds vs) : Is K ρ H (.tup ds) (.ref a) := by
  simp only [Is]
  exact ⟨a, vs, rfl, h, i⟩
/-- a new tuple -/
theorem Run.newT {ρ : List Addr} {G : GS} {H : Hp} {ds : List D} {vs : List V} {Q : VK} (R : Rel C ρ G H) (h : Run C ρ H (okD C) (.ok (.tup ds) G) Q E) (i : IsL C.K ρ H ds vs) : ∀ p, H p = none → Q (.ref p) (upd H p (.tup vs)) := fun p hp =>
  let st := Step.lay R (o := .tup vs) hp
  h (.ref p) ρ _ st (isTup (SqT.of upd_same) (i.step R st))
/-- a new list -/
theorem Run.newL {ρ : List Addr} {G : GS} {H : Hp} {ds : List D} {vs : List V} {Q : VK} (R : Rel C ρ G H) (h : Run C ρ H (okD C) (.ok (.ref G.length) (G ++ [.lst ds])) Q E) (i : IsL C.K ρ H ds vs) : ∀ p, H p = none → Q (.ref p) (upd H p (.lst vs)) := fun p hp =>
  h (.ref p) _ _ (Step.alloc R (c := .lst ds) hp ⟨vs, rfl, i⟩) R.new_at
def addT (x y : D) : M D := match x, y with
  | .tup xs, .tup ys => fun g => if xs.length + ys.length ≤ LIM then .ok (.tup (xs ++ ys)) g else .bad
  | _, _ => fail
theorem IsL.nil_iff {K : PySem.W.Frag} {ρ : List Addr} {H : Hp} {ds : List D} {vs : List V} (h : IsL K ρ H ds vs) : vs = [] ↔ ds = [] := by
  have := h.len
  constructor
  · intro e
    rw [e] at this
    exact List.length_eq_zero_iff.mp this
  · intro e
    rw [e] at this
    exact List.length_eq_zero_iff.mp this.symm
theorem opd_addT : OpD C (rCatA C.K) addT := by
  intro ρ G H x y u v Q E R i j h
  unfold addT at h
  split at h
  · rename_i xs ys
    obtain ⟨a, vs, rfl, ha, hx⟩ := is_tup i
    obtain ⟨b, ws, rfl, hb, hy⟩ := is_tup j
    split at h
    · rename_i hc
      refine ⟨a, b, vs, ws, rfl, rfl, ha, hb, by rw [← hx.len, ← hy.len]; exact lim_ok hc, fun e => ?_, fun _ e => ?_, fun _ _ => Run.newT R h (hx.app hy)⟩
      · have e' := hx.nil_iff.mp e
        subst e'
        exact Run.ret (Ok := okD C) R h (isTup hb hy)
      · have e' := hy.nil_iff.mp e
        subst e'
        rw [List.append_nil] at h
        exact Run.ret (Ok := okD C) R h (isTup ha hx)
    · exact h.elim
  · exact h.elim
def addL (x y : D) : M D := match x, y with
  | .ref a, .ref b => fun g => match g[a]?, g[b]? with
    | some (.lst xs), some (.lst ys) => if xs.length + ys.length ≤ LIM then .ok (.ref g.length) (g ++ [.lst (xs ++ ys)]) else .bad
    | _, _ => .bad
  | _, _ => fail
theorem opd_addL : OpD C rCat addL := by
  intro ρ G H x y u v Q E R i j h
  unfold addL at h
  split at h
  · split at h
    · rename_i xs ys e1 e2
      obtain ⟨a, vs, rfl, _, ha, hx⟩ := R.lst e1 i
      obtain ⟨b, ws, rfl, _, hb, hy⟩ := R.lst e2 j
      split at h
      · rename_i hc
        exact ⟨a, b, vs, ws, rfl, rfl, ha, hb, by rw [← hx.len, ← hy.len]; exact lim_ok hc, Run.newL R h (hx.app hy)⟩
      · exact h.elim
    · exact h.elim
  · exact h.elim
/-- + of two whatever they are -/
def addD (x y : D) : M D := match x, y with
  | .int i, .int j => pur (.int (i + j))
  | .str _, .str _ => addS x y
  | .tup _, .tup _ => addT x y
  | .ref _, .ref _ => addL x y
  | _, _ => fail
abbrev rAddA (K : PySem.W.Frag) : R2 := fun x y H Q => (rI0 fun i j => .int (i + j)) x y H Q ∨ (∃ i j, x = .str i ∧ y = .str j ∧ i.length + j.length ≤ sizeLine ∧ Q (.str (i ++ j)) H) ∨ rCatA K x y H Q ∨ rCat x y H Q
theorem op_addA : OpR X (binaryOp .Add) (rAddA X.K) := op_add.or (op_add_str.or (op_catA.or op_cat))
theorem opd_addD : OpD C (rAddA C.K) addD := by
  intro ρ G H x y u v Q E R i j h
  unfold addD at h
  split at h
  · exact .inl ⟨_, _, is_int i, is_int j, Run.ret (Ok := okD C) R h isInt⟩
  · exact .inr (.inl (opd_addS ρ G H _ _ u v Q E R i j h))
  · exact .inr (.inr (.inl (opd_addT ρ G H _ _ u v Q E R i j h)))
  · exact .inr (.inr (.inr (opd_addL ρ G H _ _ u v Q E R i j h)))
  · exact h.elim
mutual
def pyD : D → Option PyData
  | .non => some .none
  | .bl b => some (.bool b)
  | .int i => some (.int i)
  | .str x => some (.str x)
  | .tup ds => (pyL ds).map .tuple
  | .ref _ => none
  | .ins _ _ _ => none
  | .scr _ => none
  | .ty _ => none
  | .cls _ => none
  | .exc _ _ _ => none
  | .dct _ _ _ => none
def pyL : List D → Option (List PyData)
  | [] => some []
  | d :: ds => match pyD d, pyL ds with
    | some p, some ps => some (p :: ps)
    | _, _ => none
end
mutual
theorem dp_of {K : PySem.W.Frag} {ρ : List Addr} {H : Hp} : ∀ (d : D) (v : V) (p : PyData), pyD d = some p → Is K ρ H d v → Dp K H v p
  | .non, v, p, e, h => by simp only [pyD] at e; cases e; rw [is_non h]; exact .non
  | .bl b, v, p, e, h => by simp only [pyD] at e; cases e; rw [is_bl h]; exact .bl b
  | .int i, v, p, e, h => by simp only [pyD] at e; cases e; rw [is_int h]; exact .int i
  | .str x, v, p, e, h => by simp only [pyD] at e; cases e; rw [is_str h]; exact .str x
  | .tup ds, v, p, e, h => by
    simp only [pyD] at e
    obtain ⟨a, vs, rfl, ha, hl⟩ := is_tup h
    cases q : pyL ds with
    | none => rw [q] at e; cases e
    | some ps =>
      rw [q] at e
      cases e
      exact .tup ha (dpl_of ds vs ps q hl)
  | .ref n, v, p, e, h => by simp only [pyD] at e; cases e
  | .ins _ _ _, v, p, e, h => by simp only [pyD] at e; cases e
  | .scr _, v, p, e, h => by simp only [pyD] at e; cases e
  | .ty _, v, p, e, h => by simp only [pyD] at e; cases e
  | .cls _, v, p, e, h => by simp only [pyD] at e; cases e
  | .exc _ _ _, v, p, e, h => by simp only [pyD] at e; cases e
  | .dct _ _ _, v, p, e, h => by simp only [pyD] at e; cases e
theorem dpl_of {K : PySem.W.Frag} {ρ : List Addr} {H : Hp} : ∀ (ds : List D) (vs : List V) (ps : List PyData), pyL ds = some ps → IsL K ρ H ds vs → DpAll K H vs ps
  | [], vs, ps, e, h => by
    simp only [pyL] at e
    cases e
    simp only [IsL] at h
    subst h
    exact .nil
  | d :: ds, vs, ps, e, h => by
    simp only [pyL] at e
    simp only [IsL] at h
    obtain ⟨v, r, rfl, h1, h2⟩ := h
    cases q1 : pyD d with
    | none => rw [q1] at e; cases e
    | some p =>
      cases q2 : pyL ds with
      | none => rw [q1, q2] at e; cases e
      | some ps' =>
        rw [q1, q2] at e
        cases e
        exact .cons (dp_of d v p q1 h1) (dpl_of ds r ps' q2 h2)
end
/-- with lists -/
def pyG1 (g : GS) (d : D) : Option PyData := match d with
  | .ref n => match g[n]? with
    | some (.lst ds) => (pyL ds).map .list
    | _ => none
  | d => pyD d
theorem dpg1_of {ρ : List Addr} {G : GS} {H : Hp} (R : Rel C ρ G H) {d : D} {v : V} {p : PyData} (e : pyG1 G d = some p) (h : Is C.K ρ H d v) : Dp C.K H v p := by
  unfold pyG1 at e
  split at e
  · split at e
    · rename_i ds e1
      obtain ⟨a, vs, rfl, _, ha, hl⟩ := R.lst e1 h
      cases q : pyL ds with
      | none => rw [q] at e; cases e
      | some ps =>
        rw [q] at e
        cases e
        exact .lst (SqL.of ha) (dpl_of ds vs ps q hl)
    · cases e
  · exact dp_of _ v p e h
def pyGs (g : GS) : List D → Option (List PyData)
  | [] => some []
  | d :: r => match pyG1 g d, pyGs g r with
    | some p, some ps => some (p :: ps)
    | _, _ => none
/-- tuples may hold lists -/
def pyG (g : GS) (d : D) : Option PyData := match d with
  | .tup ds => match pyD (.tup ds) with
    | some p => some p
    | none => (pyGs g ds).map .tuple
  | d => pyG1 g d
theorem dpgs_of {ρ : List Addr} {G : GS} {H : Hp} (R : Rel C ρ G H) : ∀ (ds : List D) (vs : List V) (ps : List PyData), pyGs G ds = some ps → IsL C.K ρ H ds vs → DpAll C.K H vs ps
  | [], vs, ps, e, h => by
    cases e
    simp only [IsL] at h
    subst h
    exact .nil
  | d :: ds, vs, ps, e, h => by
    simp only [pyGs] at e
    simp only [IsL] at h
    obtain ⟨v, r, rfl, h1, h2⟩ := h
    cases q1 : pyG1 G d with
    | none => rw [q1] at e; cases e
    | some p =>
      cases q2 : pyGs G ds with
      | none => rw [q1, q2] at e; cases e
      | some ps' =>
        rw [q1, q2] at e
        cases e
        exact .cons (dpg1_of R q1 h1) (dpgs_of R ds r ps' q2 h2)
theorem dpg_of {ρ : List Addr} {G : GS} {H : Hp} (R : Rel C ρ G H) {d : D} {v : V} {p : PyData} (e : pyG G d = some p) (h : Is C.K ρ H d v) : Dp C.K H v p := by
  unfold pyG at e
  split at e
  · rename_i ds
    split at e
    · rename_i p' e1
      cases e
      exact dp_of _ v p e1 h
    · cases q : pyGs G ds with
      | none => rw [q] at e; cases e
      | some ps =>
        rw [q] at e
        cases e
        obtain ⟨a, vs, rfl, ha, hl⟩ := is_tup h
        exact .tup ha (dpgs_of R ds vs ps q hl)
  · exact dpg1_of R e h
def eqM (x y : D) (g : GS) : Option Bool := match pyG g x, pyG g y with
  | some p, some q => if SeqAt.shaped p && SeqAt.shaped q then some (PyData.eqv p q) else none
  | _, _ => none
def eqD (x y : D) : M D := fun g => match eqM x y g with
  | some b => .ok (.bl b) g
  | none => .bad
def neD (x y : D) : M D := fun g => match eqM x y g with
  | some b => .ok (.bl (!b)) g
  | none => .bad
theorem eqM_some {x y : D} {g : GS} {b : Bool} (h : eqM x y g = some b) : ∃ p q, pyG g x = some p ∧ pyG g y = some q ∧ SeqAt.shaped p = true ∧ SeqAt.shaped q = true ∧ b = PyData.eqv p q := by
  unfold eqM at h
  split at h
  · rename_i p q e1 e2
    by_cases hc : (SeqAt.shaped p && SeqAt.shaped q) = true
    · rw [if_pos hc] at h
      rw [Bool.and_eq_true] at hc
      exact ⟨p, q, e1, e2, hc.1, hc.2, (Option.some.inj h).symm⟩
    · rw [if_neg hc] at h
      cases h
  · cases h
theorem opd_eqD : OpD C (rEqD C.K) eqD := by
  intro ρ G H x y u v Q E R i j h
  unfold eqD at h
  cases e : eqM x y G with
  | none => rw [e] at h; exact h.elim
  | some b =>
    rw [e] at h
    obtain ⟨p, q, e1, e2, s1, s2, rfl⟩ := eqM_some e
    exact ⟨p, q, dpg_of R e1 i, dpg_of R e2 j, s1, s2, Run.ret (Ok := okD C) R h isBl⟩
theorem opd_neD : OpD C (rNeD C.K) neD := by
  intro ρ G H x y u v Q E R i j h
  unfold neD at h
  cases e : eqM x y G with
  | none => rw [e] at h; exact h.elim
  | some b =>
    rw [e] at h
    obtain ⟨p, q, e1, e2, s1, s2, rfl⟩ := eqM_some e
    exact ⟨p, q, dpg_of R e1 i, dpg_of R e2 j, s1, s2, Run.ret (Ok := okD C) R h isBl⟩
/-- in a list or a tuple -/
def rInA (K : PySem.W.Frag) (neg : Bool) : R2 := fun x y H Q => ∃ d ds, Dp K H x d ∧ (Dp K H y (.list ds) ∧ SeqAt.shaped (.list ds) = true ∨ Dp K H y (.tuple ds) ∧ SeqAt.shaped (.tuple ds) = true) ∧ SeqAt.shaped d = true ∧
  Q (.bl (if neg then !ds.any fun z => PyData.eqv z d else ds.any fun z => PyData.eqv z d)) H
theorem op_inA (hu : X.A.units + 65 < cLine) : OpR X (compareOp .In) (rInA X.K false) := by
  intro pins s σ H x y v u Q I rx ry h
  obtain ⟨d, ds, hd, he, sd, q⟩ := h
  obtain ⟨as, r1⟩ := Dp.reads I d x v hd rx
  rcases he with ⟨he, se⟩ | ⟨he, se⟩
  · obtain ⟨bs, r2⟩ := Dp.reads I _ y u he ry
    exact SeqAt.in_list_reads r2 r1 (SeqAt.canLay_of_shaped se) (SeqAt.canLay_of_shaped sd) (room_in_shaped sd hu) ⟨.bl _, H, I, rfl, q⟩
  · obtain ⟨bs, r2⟩ := Dp.reads I _ y u he ry
    exact SeqAt.in_tuple_reads r2 r1 (SeqAt.canLay_of_shaped se) (SeqAt.canLay_of_shaped sd) (room_in_shaped sd hu) ⟨.bl _, H, I, rfl, q⟩
theorem op_notInA (hu : X.A.units + 65 < cLine) : OpR X (compareOp .NotIn) (rInA X.K true) := by
  intro pins s σ H x y v u Q I rx ry h
  obtain ⟨d, ds, hd, he, sd, q⟩ := h
  obtain ⟨as, r1⟩ := Dp.reads I d x v hd rx
  rcases he with ⟨he, se⟩ | ⟨he, se⟩
  · obtain ⟨bs, r2⟩ := Dp.reads I _ y u he ry
    exact SeqAt.notIn_list_reads r2 r1 (SeqAt.canLay_of_shaped se) (SeqAt.canLay_of_shaped sd) (room_in_shaped sd hu) ⟨.bl _, H, I, rfl, q⟩
  · obtain ⟨bs, r2⟩ := Dp.reads I _ y u he ry
    exact SeqAt.notIn_tuple_reads r2 r1 (SeqAt.canLay_of_shaped se) (SeqAt.canLay_of_shaped sd) (room_in_shaped sd hu) ⟨.bl _, H, I, rfl, q⟩
def inM (x y : D) (g : GS) : Option Bool := match pyG g x, pyG g y with
  | some p, some (.list ds) => if SeqAt.shaped p && SeqAt.shaped (.list ds) then some (ds.any fun z => PyData.eqv z p) else none
  | some p, some (.tuple ds) => if SeqAt.shaped p && SeqAt.shaped (.tuple ds) then some (ds.any fun z => PyData.eqv z p) else none
  | _, _ => none
def inD (neg : Bool) (x y : D) : M D := fun g => match inM x y g with
  | some b => .ok (.bl (if neg then !b else b)) g
  | none => .bad
theorem opd_inD {neg : Bool} : OpD C (rInA C.K neg) (inD neg) := by
  intro ρ G H x y u v Q E R i j h
  unfold inD at h
  cases e : inM x y G with
  | none => rw [e] at h; exact h.elim
  | some b =>
    rw [e] at h
    unfold inM at e
    split at e
    · rename_i p ds e1 e2
      by_cases hc : (SeqAt.shaped p && SeqAt.shaped (.list ds)) = true
      · rw [if_pos hc] at e
        rw [Bool.and_eq_true] at hc
        cases e
        exact ⟨p, ds, dpg_of R e1 i, .inl ⟨dpg_of R e2 j, hc.2⟩, hc.1, Run.ret (Ok := okD C) R h isBl⟩
      · rw [if_neg hc] at e
        cases e
    · rename_i p ds e1 e2
      by_cases hc : (SeqAt.shaped p && SeqAt.shaped (.tuple ds)) = true
      · rw [if_pos hc] at e
        rw [Bool.and_eq_true] at hc
        cases e
        exact ⟨p, ds, dpg_of R e1 i, .inr ⟨dpg_of R e2 j, hc.2⟩, hc.1, Run.ret (Ok := okD C) R h isBl⟩
      · rw [if_neg hc] at e
        cases e
    · cases e
/-- is None -/
def isNonB : D → Bool
  | .non => true
  | _ => false
def isNoneD (neg : Bool) (x y : D) : M D := match y with
  | .non => pur (.bl (isNonB x != neg))
  | _ => fail
theorem is_nonV {K : PySem.W.Frag} {ρ : List Addr} {H : Hp} {d : D} {v : V} (h : Is K ρ H d v) : decide (v = .non) = isNonB d := by
  cases d with
  | non => rw [is_non h]; rfl
  | bl b => rw [is_bl h]; rfl
  | int b => rw [is_int h]; rfl
  | str b => rw [is_str h]; rfl
  | tup ds => obtain ⟨a, vs, rfl, _⟩ := is_tup h; rfl
  | ref n => simp only [Is] at h; obtain ⟨a, rfl, _⟩ := h; rfl
  | ins c ns ds => simp only [Is] at h; obtain ⟨a, _, _, _, rfl, _⟩ := h; rfl
  | scr ns => simp only [Is] at h; obtain ⟨a, rfl, _⟩ := h; rfl
  | ty n => simp only [Is] at h; subst h; rfl
  | cls n => simp only [Is] at h; subst h; rfl
  | exc a p d => simp only [Is] at h; obtain ⟨rfl, _⟩ := h; rfl
  | dct hf ks ds => simp only [Is] at h; obtain ⟨a, _, _, _, rfl, _⟩ := h; rfl
theorem opd_isN : OpD C (fun x y H Q => y = .non ∧ Q (.bl (decide (x = .non))) H) (isNoneD false) := by
  intro ρ G H x y u v Q E R i j h
  unfold isNoneD at h
  split at h
  · refine ⟨is_non j, ?_⟩
    rw [is_nonV i]
    refine Run.ret (Ok := okD C) R h ?_
    rw [Bool.bne_false]
    exact isBl
  · exact h.elim
theorem opd_notN : OpD C (fun x y H Q => y = .non ∧ Q (.bl (!decide (x = .non))) H) (isNoneD true) := by
  intro ρ G H x y u v Q E R i j h
  unfold isNoneD at h
  split at h
  · refine ⟨is_non j, ?_⟩
    rw [is_nonV i]
    refine Run.ret (Ok := okD C) R h ?_
    rw [Bool.bne_true]
    exact isBl
  · exact h.elim
end
end
end DL
namespace DL
open PySem PySem.Spec PyProof.Rows L2
open Classical
noncomputable section
variable {X : Cx} {Ts : List Addr} {E : XK} {a b c e : Expr} {ta tb tc te : TE} {ma mb mc me : Sl → M D} {pos : Pos} {C : Ct} {es : List Expr} {t u : TT} {mt mu : Sl → M Bool}
def asB (d : D) : M Bool := match d with
  | .bl b => pur b
  | _ => fail
theorem Run.map {α β γ δ : Type} {ρ : List Addr} {G : GS} {H : Hp} {Ok : List Addr → Hp → α → β → Prop} {Ok2 : List Addr → Hp → γ → δ → Prop} {m : M α} {k : α → M γ} {Q : δ → Hp → Prop} {Q1 : β → Hp → Prop} (R : Rel C ρ G H) (h : Run C ρ H Ok2 (bnd m k G) Q E)
    (hk : ∀ a G1 v ρ1 H1, Rel C ρ1 G1 H1 → Ok ρ1 H1 a v → Run C ρ1 H1 Ok2 (k a G1) Q E → Q1 v H1) : Run C ρ H Ok (m G) Q1 E :=
  Run.first h fun a G1 v ρ1 H1 st i h1 => hk a G1 v ρ1 H1 st.rel i h1
theorem run_asB {ρ : List Addr} {G : GS} {H : Hp} {d : D} {v : V} {Q : Bool → Hp → Prop} (R : Rel C ρ G H) (i : Is C.K ρ H d v) (h : Run C ρ H okB (asB d G) Q E) : ∃ k, v = .bl k ∧ Q k H := by
  unfold asB at h
  split at h
  · exact ⟨_, is_bl i, Run.ret (Ok := okB) R h rfl⟩
  · exact h.elim
/-- a comparison as a test -/
theorem dt_cmp {op : CmpOp} {r : R2} {o : D → D → M D} (ho : OpR X (compareOp op) r) (hd : OpD ⟨X.K, Ts, fw X.w⟩ r o) (ha : DE X Ts E a ta ma) (hb : DE X Ts E b tb mb) (hm : behindInMarks op b = false) :
    DT X Ts E (.Compare a [op] [b] pos) (tTest (tOp r ta tb)) (fun s => bnd (bnd (ma s) fun x => bnd (mb s) fun y => o x y) asB) := by
  refine ⟨pt_cmpR ho ha.pe hb.pe hm, fun ρ σ H s G Q R S h => ?_⟩
  refine rf_op hd ha hb ρ σ H s G _ R S (Run.map R h fun d G1 v ρ1 H1 R1 i h1 => run_asB R1 i h1)
def truM (d : D) : M Bool := fun g => match d with
  | .non => .ok false g
  | .bl b => .ok b g
  | .int i => .ok (i != 0) g
  | .str x => if x.length ≤ LIM then .ok ((x.length : Int) != 0) g else .bad
  | .tup ds => .ok (!ds.isEmpty) g
  | .ref n => match g[n]? with
    | some (.lst ds) => .ok (!ds.isEmpty) g
    | some (.dic ds) => .ok (!ds.isEmpty) g
    | _ => .bad
  | .ins _ _ _ => .bad
  | .scr ns => .ok (!ns.isEmpty) g
  | .ty _ => .bad
  | .cls _ => .bad
  | .exc _ _ _ => .bad
  | .dct _ _ _ => .bad
theorem empty_of {α β : Type} {xs : List α} {ys : List β} (h : xs.length = ys.length) : xs.isEmpty = ys.isEmpty := by
  cases xs <;> cases ys <;> first | rfl | simp at h
theorem IsK.len {K : PySem.W.Frag} {ρ : List Addr} {H : Hp} {ds : List (Key × D)} {vs : List (Key × V)} (h : IsK K ρ H ds vs) : ds.length = vs.length := Paired.length h
theorem run_tru {ρ : List Addr} {G : GS} {H : Hp} {d : D} {v : V} {Q : Bool → Hp → Prop} (R : Rel C ρ G H) (i : Is C.K ρ H d v) (h : Run C ρ H okB (truM d G) Q E) : ∃ k, TruV C.K v H k ∧ Q k H := by
  unfold truM at h
  cases d with
  | non => rw [is_non i]; exact ⟨false, rfl, Run.ret (Ok := okB) R h rfl⟩
  | bl b => rw [is_bl i]; exact ⟨b, rfl, Run.ret (Ok := okB) R h rfl⟩
  | int b => rw [is_int i]; exact ⟨_, rfl, Run.ret (Ok := okB) R h rfl⟩
  | str x =>
    rw [is_str i]
    dsimp only at h
    split at h
    · rename_i hc
      exact ⟨_, ⟨lim_ok hc, rfl⟩, Run.ret (Ok := okB) R h rfl⟩
    · exact h.elim
  | tup ds =>
    obtain ⟨p, vs, rfl, hp, hl⟩ := is_tup i
    exact ⟨_, .inr (.inl ⟨vs, hp, by rw [empty_of hl.len]⟩), Run.ret (Ok := okB) R h rfl⟩
  | ref n =>
    dsimp only at h
    split at h
    · rename_i ds e1
      obtain ⟨p, vs, rfl, _, hp, hl⟩ := R.lst e1 i
      exact ⟨_, .inl ⟨vs, SqL.of hp, by rw [empty_of hl.len]⟩, Run.ret (Ok := okB) R h rfl⟩
    · rename_i ds e1
      obtain ⟨p, vs, rfl, _, hp, hl⟩ := R.dic e1 i
      exact ⟨_, .inr (.inr ⟨vs, hp, by rw [empty_of hl.len]⟩), Run.ret (Ok := okB) R h rfl⟩
    · exact h.elim
  | ins _ _ _ => exact h.elim
  | scr ns =>
    simp only [Is] at i
    obtain ⟨p, rfl, hp⟩ := i
    exact ⟨_, .inl ⟨_, hp.sql, by cases ns <;> rfl⟩, Run.ret (Ok := okB) R h rfl⟩
  | ty _ => exact h.elim
  | cls _ => exact h.elim
  | exc _ _ _ => exact h.elim
  | dct _ _ _ => exact h.elim
theorem dt_tru (ha : DE X Ts E a ta ma) (he : ∀ whole, isTrue a X.env whole = (do let v ← whole; standAt a.pos; holding [v] (truthy v)) := by intro _; rfl) :
    DT X Ts E a (fun σ H Q => ta σ H fun x H' => ∃ k, TruV X.K x H' k ∧ Q k H') (fun s => bnd (ma s) truM) := by
  refine ⟨pt_truth ha.pe he, fun ρ σ H s G Q R S h => ?_⟩
  exact ha.rf ρ σ H s G _ R S (Run.map R h fun d G1 v ρ1 H1 R1 i h1 => run_tru (C := ⟨X.K, Ts, fw X.w⟩) R1 i h1)
theorem dt_not (ha : DT X Ts E a t mt) : DT X Ts E (.UnaryOp .Not a pos) (tNot t) (fun s => bnd (mt s) fun b => pur (!b)) := by
  refine ⟨pt_not ha.pe, fun ρ σ H s G Q R S h => ?_⟩
  exact ha.rf ρ σ H s G _ R S (Run.map R h fun d G1 v ρ1 H1 R1 i h1 => by
    have i : d = v := i
    subst i
    exact Run.ret (Ok := okB) R1 h1 rfl)
theorem DW.dt (h : DW X Ts E e t mt) : DT X Ts E e t mt := ⟨h.pe.pt, h.rf⟩
theorem dw_and1 (ha : DT X Ts E a t mt) : DW X Ts E (.BoolOp .And [a] pos) t mt := ⟨pw_and1 ha.pe, ha.rf⟩
theorem dw_or1 (ha : DT X Ts E a t mt) : DW X Ts E (.BoolOp .Or [a] pos) t mt := ⟨pw_or1 ha.pe, ha.rf⟩
theorem dw_and {rest : List Expr} (ha : DT X Ts E a t mt) (hb : DW X Ts E (.BoolOp .And (b :: rest) pos) u mu) : DW X Ts E (.BoolOp .And (a :: b :: rest) pos) (tAnd t u) (fun s => bnd (mt s) fun x => if x then mu s else pur false) := by
  refine ⟨pw_and ha.pe hb.pe, fun ρ σ H s G Q R S h => ?_⟩
  refine ha.rf ρ σ H s G _ R S (Run.first h fun d G1 v ρ1 H1 st i h1 => ?_)
  have i : d = v := i
  subst i
  cases d with
  | true => exact hb.rf ρ1 σ H1 s G1 Q st.rel (S.step R st) h1
  | false => exact Run.ret (Ok := okB) st.rel h1 rfl
theorem dw_or {rest : List Expr} (ha : DT X Ts E a t mt) (hb : DW X Ts E (.BoolOp .Or (b :: rest) pos) u mu) : DW X Ts E (.BoolOp .Or (a :: b :: rest) pos) (tOr t u) (fun s => bnd (mt s) fun x => if x then pur true else mu s) := by
  refine ⟨pw_or ha.pe hb.pe, fun ρ σ H s G Q R S h => ?_⟩
  refine ha.rf ρ σ H s G _ R S (Run.first h fun d G1 v ρ1 H1 st i h1 => ?_)
  have i : d = v := i
  subst i
  cases d with
  | true => exact Run.ret (Ok := okB) st.rel h1 rfl
  | false => exact hb.rf ρ1 σ H1 s G1 Q st.rel (S.step R st) h1
/-- as values: all but the last truth values -/
theorem de_one {op} (ha : DE X Ts E a ta ma) : DE X Ts E (.BoolOp op [a] pos) ta ma := ⟨pe_one ha.pe, ha.rf⟩
theorem de_and {rest : List Expr} (ha : DE X Ts E a ta ma) (hb : DE X Ts E (.BoolOp .And (b :: rest) pos) tb mb) : DE X Ts E (.BoolOp .And (a :: b :: rest) pos) (tAndV ta tb) (fun s => bnd (ma s) fun d => bnd (asB d) fun x => if x then mb s else pur (.bl false)) := by
  refine ⟨pe_and ha.pe hb.pe, fun ρ σ H s G Q R S h => ?_⟩
  refine ha.rf ρ σ H s G _ R S (Run.first h fun d G1 v ρ1 H1 st i h1 => ?_)
  unfold asB at h1
  cases d with
  | bl k =>
    refine ⟨k, is_bl i, ?_⟩
    cases k with
    | true => exact hb.rf ρ1 σ H1 s G1 Q st.rel (S.step R st) h1
    | false => exact Run.ret (Ok := okD ⟨X.K, Ts, fw X.w⟩) st.rel h1 isBl
  | _ => exact h1.elim
theorem de_or {rest : List Expr} (ha : DE X Ts E a ta ma) (hb : DE X Ts E (.BoolOp .Or (b :: rest) pos) tb mb) : DE X Ts E (.BoolOp .Or (a :: b :: rest) pos) (tOrV ta tb) (fun s => bnd (ma s) fun d => bnd (asB d) fun x => if x then pur (.bl true) else mb s) := by
  refine ⟨pe_or ha.pe hb.pe, fun ρ σ H s G Q R S h => ?_⟩
  refine ha.rf ρ σ H s G _ R S (Run.first h fun d G1 v ρ1 H1 st i h1 => ?_)
  unfold asB at h1
  cases d with
  | bl k =>
    refine ⟨k, is_bl i, ?_⟩
    cases k with
    | true => exact Run.ret (Ok := okD ⟨X.K, Ts, fw X.w⟩) st.rel h1 isBl
    | false => exact hb.rf ρ1 σ H1 s G1 Q st.rel (S.step R st) h1
  | _ => exact h1.elim
theorem de_if (hc : DT X Ts E c t mt) (ha : DE X Ts E a ta ma) (hb : DE X Ts E b tb mb) : DE X Ts E (.IfExp c a b pos) (tIf t ta tb) (fun s => bnd (mt s) fun x => if x then ma s else mb s) := by
  refine ⟨pe_ifExp hc.pe ha.pe hb.pe, fun ρ σ H s G Q R S h => ?_⟩
  refine hc.rf ρ σ H s G _ R S (Run.first h fun d G1 v ρ1 H1 st i h1 => ?_)
  have i : d = v := i
  subst i
  cases d with
  | true => exact ha.rf ρ1 σ H1 s G1 Q st.rel (S.step R st) h1
  | false => exact hb.rf ρ1 σ H1 s G1 Q st.rel (S.step R st) h1
/-- a op1 b op2 c -/
theorem rf_chain {r r' : R2} {o o' : D → D → M D} (hd : OpD ⟨X.K, Ts, fw X.w⟩ r o) (hd' : OpD ⟨X.K, Ts, fw X.w⟩ r' o') (ha : DE X Ts E a ta ma) (hb : DE X Ts E b tb mb) (hc : DE X Ts E c tc mc) :
    ∀ ρ σ H s G Q, Rel ⟨X.K, Ts, fw X.w⟩ ρ G H → Sls X.K ρ H σ s → Run ⟨X.K, Ts, fw X.w⟩ ρ H (okD ⟨X.K, Ts, fw X.w⟩) (bnd (ma s) (fun x => bnd (mb s) fun y => bnd (o x y) fun d => bnd (asB d) fun k => if k then bnd (mc s) (fun z => o' y z) else pur (.bl false)) G) Q E → tChain r r' ta tb tc σ H Q := by
  intro ρ σ H s G Q R S h
  refine ha.rf ρ σ H s G _ R S (Run.first h fun x G1 u ρ1 H1 st i h1 => ?_)
  refine hb.rf ρ1 σ H1 s G1 _ st.rel (S.step R st) (Run.first h1 fun y G2 v ρ2 H2 st2 j h2 => ?_)
  refine hd ρ2 G2 H2 x y u v _ E st2.rel (Is.step st.rel st2 i) j (Run.first h2 fun d G3 w ρ3 H3 st3 l h3 => ?_)
  unfold asB at h3
  cases d with
  | bl k =>
    refine ⟨k, is_bl l, ?_⟩
    cases k with
    | true =>
      rw [if_pos rfl]
      refine hc.rf ρ3 σ H3 s G3 _ st3.rel (((S.step R st).step st.rel st2).step st2.rel st3) (Run.first h3 fun z G4 w4 ρ4 H4 st4 l4 h4 => ?_)
      exact hd' ρ4 G4 H4 y z v w4 Q E st4.rel (Is.step st3.rel st4 (Is.step st2.rel st3 j)) l4 h4
    | false =>
      rw [if_neg Bool.false_ne_true]
      exact Run.ret (Ok := okD ⟨X.K, Ts, fw X.w⟩) st3.rel h3 isBl
  | _ => exact h3.elim
theorem de_chain {op op' : CmpOp} {r r' : R2} {o o' : D → D → M D} (ho : OpR X (compareOp op) r) (ho' : OpR X (compareOp op') r') (hd : OpD ⟨X.K, Ts, fw X.w⟩ r o) (hd' : OpD ⟨X.K, Ts, fw X.w⟩ r' o') (ha : DE X Ts E a ta ma) (hb : DE X Ts E b tb mb) (hc : DE X Ts E c tc mc)
    (hm : lastMarks [op, op'] [b, c] = false := by with_unfolding_all rfl) : DE X Ts E (.Compare a [op, op'] [b, c] pos) (tChain r r' ta tb tc) (fun s => bnd (ma s) fun x => bnd (mb s) fun y => bnd (o x y) fun d => bnd (asB d) fun k => if k then bnd (mc s) (fun z => o' y z) else pur (.bl false)) :=
  ⟨pe_chain ho ho' ha.pe hb.pe hc.pe hm, rf_chain hd hd' ha hb hc⟩
theorem da_nil : DA X Ts E [] tNil (fun _ => pur []) := ⟨pa_nil, fun ρ σ H s G Q R S h => Run.ret (Ok := okL ⟨X.K, Ts, fw X.w⟩) R h .nil⟩
variable {tr : TA} {mr : Sl → M (List D)}
theorem da_cons (ha : DE X Ts E e te me) (hr : DA X Ts E es tr mr) (hs : starEach (e :: es) X.env = (false, eval e X.env) :: starEach es X.env := by rfl) : DA X Ts E (e :: es) (tCons te tr) (fun s => bnd (me s) fun x => bnd (mr s) fun r => pur (x :: r)) := by
  refine ⟨pa_cons ha.pe hr.pe hs, fun ρ σ H s G Q R S h => ?_⟩
  refine ha.rf ρ σ H s G _ R S (Run.first h fun x G1 u ρ1 H1 st i h1 => ?_)
  refine hr.rf ρ1 σ H1 s G1 _ st.rel (S.step R st) (Run.first h1 fun y G2 v ρ2 H2 st2 j h2 => ?_)
  exact Run.ret (Ok := okL ⟨X.K, Ts, fw X.w⟩) st2.rel h2 (.cons (Is.step st.rel st2 i) j)
def mkT (ds : List D) : M D := fun g => if ds.length ≤ LIM then .ok (.tup ds) g else .bad
def mkL (ds : List D) : M D := fun g => if ds.length ≤ LIM then .ok (.ref g.length) (g ++ [.lst ds]) else .bad
theorem de_tup {k : Nat} (ha : DA X Ts E es tr mr) : DE X Ts E (.Tuple es k pos) (tTup tr) (fun s => bnd (mr s) mkT) := by
  refine ⟨pe_tup ha.pe, fun ρ σ H s G Q R S h => ?_⟩
  refine ha.rf ρ σ H s G _ R S (Run.map R h fun ds G1 vs ρ1 H1 R1 i h1 => ?_)
  have i : IsL X.K ρ1 H1 ds vs := i
  unfold mkT at h1
  split at h1
  · rename_i hc
    exact ⟨by rw [← i.len]; exact lim_ok hc, Run.newT (C := ⟨X.K, Ts, fw X.w⟩) R1 h1 i⟩
  · exact h1.elim
theorem de_lst (ha : DA X Ts E es tr mr) : DE X Ts E (.List es pos) (tLst tr) (fun s => bnd (mr s) mkL) := by
  refine ⟨pe_lst ha.pe, fun ρ σ H s G Q R S h => ?_⟩
  refine ha.rf ρ σ H s G _ R S (Run.map R h fun ds G1 vs ρ1 H1 R1 i h1 => ?_)
  have i : IsL X.K ρ1 H1 ds vs := i
  unfold mkL at h1
  split at h1
  · rename_i hc
    exact ⟨by rw [← i.len]; exact lim_ok hc, Run.newL (C := ⟨X.K, Ts, fw X.w⟩) R1 h1 i⟩
  · exact h1.elim
theorem IsL.atI {K : PySem.W.Frag} {ρ : List Addr} {H : Hp} {ds : List D} {vs : List V} {i : Int} {d : D} (h : IsL K ρ H ds vs) (e : L2.atI ds i = some d) : ∃ v, L2.atI vs i = some v ∧ Is K ρ H d v := by
  unfold L2.atI at e ⊢
  rw [← h.len]
  cases q : ixN ds.length i with
  | none => rw [q] at e; cases e
  | some j =>
    rw [q] at e
    exact h.get (i := j) e
def ixD (x y : D) : M D := fun g => match x, y with
  | .tup ds, .int i => match atI ds i with
    | some d => .ok d g
    | none => .bad
  | .ref n, .int i => match g[n]? with
    | some (.lst ds) => match atI ds i with
      | some d => .ok d g
      | none => .bad
    | _ => .bad
  | .str z, .int i => if z.length ≤ LIM then match atI z.cps.toList i with
      | some k => .ok (.str ⟨#[k]⟩) g
      | none => .bad
    else .bad
  | _, _ => .bad
theorem opd_ix : OpD C (rIx C.K) ixD := by
  intro ρ G H x y u v Q E R i j h
  unfold ixD at h
  split at h
  · rename_i ds k
    obtain ⟨p, vs, rfl, hp, hl⟩ := is_tup i
    split at h
    · rename_i d e
      obtain ⟨w, e1, e2⟩ := hl.atI e
      exact .inr (.inl ⟨p, vs, k, w, rfl, is_int j, hp, e1, Run.ret (Ok := okD C) R h e2⟩)
    · exact h.elim
  · rename_i n k
    split at h
    · rename_i ds e0
      obtain ⟨p, vs, rfl, _, hp, hl⟩ := R.lst e0 i
      split at h
      · rename_i d e
        obtain ⟨w, e1, e2⟩ := hl.atI e
        exact .inl ⟨p, vs, k, w, rfl, is_int j, SqL.of hp, e1, Run.ret (Ok := okD C) R h e2⟩
      · exact h.elim
    · exact h.elim
  · rename_i z k
    split at h
    · rename_i hc
      split at h
      · rename_i q e
        exact .inr (.inr ⟨z, k, q, is_str i, is_int j, lim_ok hc, e, Run.ret (Ok := okD C) R h isStr⟩)
      · exact h.elim
    · exact h.elim
  · exact h.elim
theorem de_ix (ha : DE X Ts E a ta ma) (hb : DE X Ts E b tb mb) (hs : PlainIx b) : DE X Ts E (.Subscript a b pos) (tOp (rIx X.K) ta tb) (fun s => bnd (ma s) fun x => bnd (mb s) fun y => ixD x y) :=
  ⟨pe_ix ix_seq ha.pe hb.pe hs, rf_op (opd_ix (C := ⟨X.K, Ts, fw X.w⟩)) ha hb⟩
theorem do_none : DO X Ts E none tNoPart (fun _ => pur none) := ⟨po_none, fun ρ σ H s G Q R S h => Run.ret (Ok := okO) R h rfl⟩
def asI (d : D) : M (Option Int) := match d with
  | .int i => pur (some i)
  | _ => fail
theorem do_some (he : DE X Ts E e te me) : DO X Ts E (some e) (tPart te) (fun s => bnd (me s) asI) := by
  refine ⟨po_some he.pe, fun ρ σ H s G Q R S h => ?_⟩
  refine he.rf ρ σ H s G _ R S (Run.map R h fun d G1 v ρ1 H1 R1 i h1 => ?_)
  unfold asI at h1
  split at h1
  · exact ⟨_, is_int i, Run.ret (Ok := okO) R1 h1 rfl⟩
  · exact h1.elim
def cutD {α : Type} (xs : List α) (lo hi : Option Int) : List α := (xs.drop (HT.sIx xs.length 0 lo)).take (HT.sIx xs.length xs.length hi - HT.sIx xs.length 0 lo)
theorem IsL.cut {K : PySem.W.Frag} {ρ : List Addr} {H : Hp} {ds : List D} {vs : List V} {lo hi : Option Int} (h : IsL K ρ H ds vs) : IsL K ρ H (cutD ds lo hi) (cutV vs lo hi) := by
  unfold cutD cutV
  rw [← h.len]
  exact (h.drop _).take _
theorem cut_whole {α : Type} {xs : List α} {lo hi : Option Int} (h : HT.sIx xs.length 0 lo = 0 ∧ HT.sIx xs.length xs.length hi = xs.length) : cutD xs lo hi = xs := by
  unfold cutD
  rw [h.1, h.2]
  simp
def slD (x : D) (lo hi : Option Int) : M D := fun g => match x with
  | .tup ds => .ok (.tup (cutD ds lo hi)) g
  | .ref n => match g[n]? with
    | some (.lst ds) => .ok (.ref g.length) (g ++ [.lst (cutD ds lo hi)])
    | _ => .bad
  | _ => .bad
abbrev rSlAll (K : PySem.W.Frag) : V → Option Int → Option Int → Hp → VK → Prop := fun x lo hi H Q => rSlA K x lo hi H Q ∨ rSlL K x lo hi H Q
theorem rf_sl {ρ : List Addr} {G : GS} {H : Hp} {x : D} {v : V} {lo hi : Option Int} {Q : VK} (R : Rel C ρ G H) (i : Is C.K ρ H x v) (h : Run C ρ H (okD C) (slD x lo hi G) Q E) : rSlAll C.K v lo hi H Q := by
  unfold slD at h
  split at h
  · rename_i ds
    obtain ⟨p, vs, rfl, hp, hl⟩ := is_tup i
    refine .inl ⟨p, vs, rfl, hp, fun w => ?_, fun _ => Run.newT R h hl.cut⟩
    rw [← hl.len] at w
    rw [cut_whole w] at h
    exact Run.ret (Ok := okD C) R h (isTup hp hl)
  · split at h
    · rename_i ds e0
      obtain ⟨p, vs, rfl, _, hp, hl⟩ := R.lst e0 i
      exact .inr ⟨p, vs, rfl, SqL.of hp, Run.newL R h hl.cut⟩
    · exact h.elim
  · exact h.elim
variable {tl th : TO} {ml mh : Sl → M (Option Int)} {lo hi : Option Expr} {p2 : Pos}
theorem de_sl (he : DE X Ts E e te me) (hl : DO X Ts E lo tl ml) (hh : DO X Ts E hi th mh) : DE X Ts E (.Subscript e (.Slice lo hi none p2) pos) (tSl (rSlAll X.K) te tl th) (fun s => bnd (me s) fun x => bnd (ml s) fun l => bnd (mh s) fun u => slD x l u) := by
  refine ⟨pe_slice (sl_tupA.or sl_list) he.pe hl.pe hh.pe, fun ρ σ H s G Q R S h => ?_⟩
  refine he.rf ρ σ H s G _ R S (Run.first h fun x G1 u ρ1 H1 st i h1 => ?_)
  refine hl.rf ρ1 σ H1 s G1 _ st.rel (S.step R st) (Run.first h1 fun l G2 l' ρ2 H2 st2 j h2 => ?_)
  have j : l = l' := j
  subst j
  refine hh.rf ρ2 σ H2 s G2 _ st2.rel ((S.step R st).step st.rel st2) (Run.first h2 fun l2 G3 l2' ρ3 H3 st3 j3 h3 => ?_)
  have j3 : l2 = l2' := j3
  subst j3
  exact rf_sl (C := ⟨X.K, Ts, fw X.w⟩) st3.rel (Is.step st2.rel st3 (Is.step st.rel st2 i)) h3
end
end DL
namespace DL
open PySem PySem.Spec PyProof.Rows L2
open Classical
noncomputable section
variable {X : Cx} {Ts : List Addr} {E : XK} {a b c e : Expr} {ta tb tc te : TE} {ma mb mc me : Sl → M D} {pos : Pos} {C : Ct} {es : List Expr} {t u : TT} {mt mu : Sl → M Bool} {tr : TA} {mr : Sl → M (List D)}
structure Itm where
  items : List D
  watch : Option (Nat × List D)
def Itm.ok (w : Itm) (g : GS) : Prop := match w.watch with
  | none => True
  | some (n, ds) => g[n]? = some (.lst ds)
structure Walk (C : Ct) (w : Itm) (ρ0 : List Addr) (H0 : Hp) (J : It) : Prop where
  go : ∀ i ρ G H d, Step C ρ0 H0 ρ G H → w.ok G → w.items[i]? = some d → J.go i H
  yld : ∀ i ρ G H x H' d, Step C ρ0 H0 ρ G H → w.ok G → w.items[i]? = some d → J.yld i H x H' → Step C ρ H ρ G H' ∧ Is C.K ρ H' d x
  stop : ∀ ρ G H, Step C ρ0 H0 ρ G H → w.ok G → J.stop w.items.length H
abbrev okW (C : Ct) : List Addr → Hp → Itm → It → Prop := fun ρ H w J => Walk C w ρ H J
structure DI (X : Cx) (Ts : List Addr) (E : XK) (tg iter : Expr) (wi : TI) (m : Sl → M Itm) : Prop where
  pe : PI X tg iter wi
  rf : ∀ ρ σ H s G R, Rel ⟨X.K, Ts, fw X.w⟩ ρ G H → Sls X.K ρ H σ s → Run ⟨X.K, Ts, fw X.w⟩ ρ H (okW ⟨X.K, Ts, fw X.w⟩) (m s G) R E → wi σ H R
/-- a list or a tuple -/
def iSeq (K : PySem.W.Frag) (tl : TE) : TI := fun σ H R => tl σ H fun x H1 => ∃ p, x = .ref p ∧ ((∃ xs, SqL K H1 p xs) ∧ R (Itl K p) H1 ∨ (∃ xs, SqT K H1 p xs) ∧ R (Itt K p) H1)
theorem pi_seq {tg l : Expr} {tl : TE} (hl : PE X l tl) : PI X tg l (iSeq X.K tl) := by
  refine ⟨fun pins s σ H R I h => thn (hl.run pins s σ H _ I h) fun v s1 ⟨x, H1, I1, r1, p, ex, q⟩ => ?_⟩
  subst ex
  cases (show v = Value.ref p from r1)
  rcases q with ⟨⟨xs, hq⟩, q⟩ | ⟨⟨xs, hq⟩, q⟩
  · obtain ⟨its, rv, pl, hz⟩ := I1.list hq
    exact wpAny_pyIter_list pl.isList ⟨s1.heap.objs.size, [s1.heap.objs.size], _, _, H1, rfl, I1.kept (t' := s1.toks) fun b o e => Heap.get?_push_of_some _ e, turn_list p _, ⟨_, Heap.get?_push_size _ rfl, rfl, rfl⟩, fun b hb => by
      rw [List.mem_singleton.mp hb]
      exact I1.fpOk (Nat.le_refl _) (I1.hok.fresh (Nat.le_refl _)), q⟩
  · obtain ⟨its, rv, pl, hz⟩ := I1.tuple hq
    exact wpAny_pyIter_tuple (show s1.heap.IsTuple p its.toArray from pl) ⟨s1.heap.objs.size, [s1.heap.objs.size], _, _, H1, rfl, I1.kept (t' := s1.toks) fun b o e => Heap.get?_push_of_some _ e, turn_tuple p _, ⟨_, Heap.get?_push_size _ rfl, rfl, rfl⟩, fun b hb => by
      rw [List.mem_singleton.mp hb]
      exact I1.fpOk (Nat.le_refl _) (I1.hok.fresh (Nat.le_refl _)), q⟩
def seqW (d : D) : M Itm := fun g => match d with
  | .tup ds => .ok ⟨ds, none⟩ g
  | .scr ns => .ok ⟨ns.map D.int, none⟩ g
  | .ref n => match g[n]? with
    | some (.lst ds) => .ok ⟨ds, some (n, ds)⟩ g
    | _ => .bad
  | _ => .bad
theorem walk_tup {ρ : List Addr} {G : GS} {H : Hp} {p : Addr} {vs : List V} {ds : List D} (R : Rel C ρ G H) (hp : SqT C.K H p vs) (hl : IsL C.K ρ H ds vs) : Walk C ⟨ds, none⟩ ρ H (Itt C.K p) := by
  refine ⟨fun i ρ1 G1 H1 d st ok hd => ?_, fun i ρ1 G1 H1 x H' d st ok hd y => ?_, fun ρ1 G1 H1 st ok => ?_⟩
  · obtain ⟨w, e1, _⟩ := hl.get hd
    exact ⟨vs, w, st.sqt R hp, e1⟩
  · obtain ⟨rfl, y⟩ := y
    obtain ⟨w, e1, e2⟩ := (hl.step R st).get hd
    have e3 := y vs (st.sqt R hp)
    rw [e1] at e3
    cases e3
    exact ⟨Step.refl st.rel, e2⟩
  · exact ⟨vs, st.sqt R hp, by rw [← hl.len]; exact Nat.le_refl _⟩
theorem ints_get {ns : List Int} {i : Nat} {d : D} (h : (ns.map D.int)[i]? = some d) : ∃ n, d = .int n ∧ (ns.map V.int)[i]? = some (.int n) := by
  rw [List.getElem?_map] at h
  cases e : ns[i]? with
  | none => rw [e] at h; cases h
  | some n =>
    rw [e] at h
    cases h
    exact ⟨n, rfl, by rw [List.getElem?_map, e]; rfl⟩
theorem walk_scr {ρ : List Addr} {G : GS} {H : Hp} {p : Addr} {ns : List Int} (R : Rel C ρ G H) (hp : FzL C.K H p (ns.map V.int)) : Walk C ⟨ns.map D.int, none⟩ ρ H (Itl C.K p) := by
  refine ⟨fun i ρ1 G1 H1 d st ok hd => ?_, fun i ρ1 G1 H1 x H' d st ok hd y => ?_, fun ρ1 G1 H1 st ok => ?_⟩
  · obtain ⟨n, rfl, e1⟩ := ints_get hd
    exact ⟨_, _, (st.ext.fzl R hp).sql, e1⟩
  · obtain ⟨rfl, y⟩ := y
    obtain ⟨n, rfl, e1⟩ := ints_get hd
    have e3 := y _ (st.ext.fzl R hp).sql
    rw [e1] at e3
    cases e3
    exact ⟨Step.refl st.rel, isInt⟩
  · refine ⟨_, (st.ext.fzl R hp).sql, ?_⟩
    show (ns.map V.int).length ≤ (ns.map D.int).length
    simp
theorem walk_lst {ρ : List Addr} {G : GS} {H : Hp} {p : Addr} {n : Nat} {ds : List D} (R : Rel C ρ G H) (hp : ρ[n]? = some p) : Walk C ⟨ds, some (n, ds)⟩ ρ H (Itl C.K p) := by
  have at_ : ∀ {ρ1 : List Addr} {G1 : GS} {H1 : Hp}, Step C ρ H ρ1 G1 H1 → (⟨ds, some (n, ds)⟩ : Itm).ok G1 → ∃ vs, H1 p = some (.lst vs) ∧ IsL C.K ρ1 H1 ds vs := fun {ρ1 G1 H1} st ok => by
    have i : Is C.K ρ1 H1 (.ref n) (.ref p) := by simp only [Is]; exact ⟨p, rfl, ix_pre st.pre hp⟩
    obtain ⟨q, vs, e, _, h1, h2⟩ := st.rel.lst ok i
    cases e
    exact ⟨vs, h1, h2⟩
  refine ⟨fun i ρ1 G1 H1 d st ok hd => ?_, fun i ρ1 G1 H1 x H' d st ok hd y => ?_, fun ρ1 G1 H1 st ok => ?_⟩
  · obtain ⟨vs, h1, h2⟩ := at_ st ok
    obtain ⟨w, e1, _⟩ := h2.get hd
    exact ⟨vs, w, SqL.of h1, e1⟩
  · obtain ⟨rfl, y⟩ := y
    obtain ⟨vs, h1, h2⟩ := at_ st ok
    obtain ⟨w, e1, e2⟩ := h2.get hd
    have e3 := y vs (SqL.of h1)
    rw [e1] at e3
    cases e3
    exact ⟨Step.refl st.rel, e2⟩
  · obtain ⟨vs, h1, h2⟩ := at_ st ok
    exact ⟨vs, SqL.of h1, by rw [← h2.len]; exact Nat.le_refl _⟩
theorem di_seq {tg : Expr} (he : DE X Ts E e te me) : DI X Ts E tg e (iSeq X.K te) (fun s => bnd (me s) seqW) := by
  refine ⟨pi_seq he.pe, fun ρ σ H s G Rk R S h => ?_⟩
  refine he.rf ρ σ H s G _ R S (Run.map R h fun d G1 v ρ1 H1 R1 i h1 => ?_)
  unfold seqW at h1
  cases d with
  | tup ds =>
    obtain ⟨p, vs, rfl, hp, hl⟩ := is_tup i
    exact ⟨p, rfl, .inr ⟨⟨vs, hp⟩, Run.ret (Ok := okW ⟨X.K, Ts, fw X.w⟩) R1 h1 (walk_tup (C := ⟨X.K, Ts, fw X.w⟩) R1 hp hl)⟩⟩
  | scr ns =>
    simp only [Is] at i
    obtain ⟨p, rfl, hp⟩ := i
    exact ⟨p, rfl, .inl ⟨⟨_, hp.sql⟩, Run.ret (Ok := okW ⟨X.K, Ts, fw X.w⟩) R1 h1 (walk_scr (C := ⟨X.K, Ts, fw X.w⟩) R1 hp)⟩⟩
  | ref n =>
    dsimp only at h1
    split at h1
    · rename_i ds e1
      obtain ⟨p, vs, rfl, hn, hp, hl⟩ := R1.lst e1 i
      exact ⟨p, rfl, .inl ⟨⟨vs, SqL.of hp⟩, Run.ret (Ok := okW ⟨X.K, Ts, fw X.w⟩) R1 h1 (walk_lst (C := ⟨X.K, Ts, fw X.w⟩) R1 hn)⟩⟩
    · exact h1.elim
  | _ => exact h1.elim
/-- range -/
def rngItems (lo hi : Int) : List D := (List.range (hi - lo).toNat).map fun i => .int (lo + (i : Nat))
theorem walk_rng {ρ : List Addr} {G : GS} {H : Hp} {lo hi : Int} (R : Rel C ρ G H) : Walk C ⟨rngItems lo hi, none⟩ ρ H (Itr lo (hi - lo).toNat) := by
  have get : ∀ {i : Nat} {d : D}, (rngItems lo hi)[i]? = some d → i < (hi - lo).toNat ∧ d = .int (lo + (i : Nat)) := fun {i d} h => by
    unfold rngItems at h
    rw [List.getElem?_map] at h
    by_cases hi' : i < (hi - lo).toNat
    · rw [List.getElem?_range hi'] at h
      cases h
      exact ⟨hi', rfl⟩
    · rw [List.getElem?_eq_none (by simpa using hi')] at h
      cases h
  refine ⟨fun i ρ1 G1 H1 d st ok hd => (get hd).1, fun i ρ1 G1 H1 x H' d st ok hd y => ?_, fun ρ1 G1 H1 st ok => ?_⟩
  · obtain ⟨rfl, rfl⟩ := y
    rw [(get hd).2]
    exact ⟨Step.refl st.rel, isInt⟩
  · show (hi - lo).toNat ≤ (rngItems lo hi).length
    unfold rngItems
    simp
def rngW (ds : List D) : M Itm := fun g => match ds with
  | [.int j] => if -(2 ^ 62) ≤ j ∧ j < 2 ^ 62 then .ok ⟨rngItems 0 j, none⟩ g else .bad
  | [.int i, .int j] => if (-(2 ^ 62) ≤ i ∧ i < 2 ^ 62) ∧ (-(2 ^ 62) ≤ j ∧ j < 2 ^ 62) then .ok ⟨rngItems i j, none⟩ g else .bad
  | _ => .bad
theorem isl_one {K : PySem.W.Frag} {ρ : List Addr} {H : Hp} {d : D} {vs : List V} (h : IsL K ρ H [d] vs) : ∃ v, vs = [v] ∧ Is K ρ H d v := by
  simp only [IsL] at h
  obtain ⟨v, r, rfl, h1, rfl⟩ := h
  exact ⟨v, rfl, h1⟩
theorem isl_two {K : PySem.W.Frag} {ρ : List Addr} {H : Hp} {d d2 : D} {vs : List V} (h : IsL K ρ H [d, d2] vs) : ∃ v w, vs = [v, w] ∧ Is K ρ H d v ∧ Is K ρ H d2 w := by
  simp only [IsL] at h
  obtain ⟨v, r, rfl, h1, w, r2, rfl, h2, rfl⟩ := h
  exact ⟨v, w, rfl, h1, h2⟩
theorem di_range1 {tg : Expr} {p pos : Pos} (hg : Gl X "range") (hm : X.mg "range" = none) (ha : DA X Ts E [a] tr mr) (hs : starEach [a] X.env = [(false, eval a X.env)] := by rfl) : DI X Ts E tg (.Call (.Name "range" p) [a] [] pos) (iRng1 tr) (fun s => bnd (mr s) fun ds => match ds with | [d] => rngW [d] | _ => fail) := by
  refine ⟨pi_range1 hg hm ha.pe hs, fun ρ σ H s G Rk R S h => ?_⟩
  refine ha.rf ρ σ H s G _ R S (Run.map R h fun ds G1 vs ρ1 H1 R1 i h1 => ?_)
  split at h1
  · rename_i d
    unfold rngW at h1
    split at h1
    · rename_i j heq
      cases heq
      obtain ⟨v, rfl, i2⟩ := isl_one i
      split at h1
      · rename_i hc
        have q := Run.ret (Ok := okW ⟨X.K, Ts, fw X.w⟩) R1 h1 (walk_rng (C := ⟨X.K, Ts, fw X.w⟩) R1)
        rw [Int.sub_zero] at q
        exact ⟨j, by rw [is_int i2], hc.1, hc.2, q⟩
      · exact h1.elim
    · rename_i heq
      cases heq
    · exact h1.elim
  · exact h1.elim
theorem di_range2 {tg : Expr} {p pos : Pos} (hg : Gl X "range") (hm : X.mg "range" = none) (ha : DA X Ts E [a, b] tr mr) (hs : starEach [a, b] X.env = [(false, eval a X.env), (false, eval b X.env)] := by rfl) (hs2 : starEach [b] X.env = [(false, eval b X.env)] := by rfl) :
    DI X Ts E tg (.Call (.Name "range" p) [a, b] [] pos) (iRng2 tr) (fun s => bnd (mr s) fun ds => match ds with | [d, d'] => rngW [d, d'] | _ => fail) := by
  refine ⟨pi_range2 hg hm ha.pe hs hs2, fun ρ σ H s G Rk R S h => ?_⟩
  refine ha.rf ρ σ H s G _ R S (Run.map R h fun ds G1 vs ρ1 H1 R1 i h1 => ?_)
  split at h1
  · rename_i d d'
    unfold rngW at h1
    split at h1
    · rename_i heq
      cases heq
    · rename_i j j' heq
      cases heq
      obtain ⟨v, w, rfl, i2, i3⟩ := isl_two i
      split at h1
      · rename_i hc
        exact ⟨j, j', by rw [is_int i2, is_int i3], ⟨hc.1.1, hc.1.2, hc.2.1, hc.2.2⟩, Run.ret (Ok := okW ⟨X.K, Ts, fw X.w⟩) R1 h1 (walk_rng (C := ⟨X.K, Ts, fw X.w⟩) R1)⟩
      · exact h1.elim
    · exact h1.elim
  · exact h1.elim
/-- a target: what it makes of the slots; own: the slots that it stores -/
abbrev okG (C : Ct) (own : List Nat) (σ : L2.St) : List Addr → Hp → Sl → L2.St → Prop := fun ρ' H' s' σ' => Sls C.K ρ' H' σ' s' ∧ σ'.length = σ.length ∧ ∀ i, i ∉ own → σ'[i]? = σ[i]?
structure DG (X : Cx) (Ts : List Addr) (E : XK) (tg : Expr) (g : TG) (mg : D → Sl → M Sl) (own : List Nat) : Prop where
  pe : PG X tg g
  rf : ∀ ρ σ H s G d v (Q : L2.St → Hp → Prop), Rel ⟨X.K, Ts, fw X.w⟩ ρ G H → Sls X.K ρ H σ s → Is X.K ρ H d v → Run ⟨X.K, Ts, fw X.w⟩ ρ H (okG ⟨X.K, Ts, fw X.w⟩ own σ) (mg d s G) Q E → g v σ H Q
def tgN (i : Nat) (d : D) (s : Sl) : M Sl := pur (s.set i (some d))
theorem dg_name {i : Nat} {x : Str} (pe : PG X (.Name x pos) (gName i)) : DG X Ts E (.Name x pos) (gName i) (tgN i) [i] := by
  refine ⟨pe, fun ρ σ H s G d v Q R S i' h => ?_⟩
  exact h (σ.set i (some v)) ρ H (Step.refl R) ⟨S.set i', List.length_set, fun j hj => by
    rw [List.getElem?_set_ne]
    intro e
    subst e
    exact hj (List.mem_singleton.mpr rfl)⟩
/-- a, b = .. -/
def tgT2 (i j : Nat) (d : D) (s : Sl) : M Sl := match d with
  | .tup [x, y] => pur ((s.set i (some x)).set j (some y))
  | _ => fail
def tgT3 (i j k : Nat) (d : D) (s : Sl) : M Sl := match d with
  | .tup [x, y, z] => pur (((s.set i (some x)).set j (some y)).set k (some z))
  | _ => fail
theorem set_out {α : Type} {l : List α} {i j : Nat} {x : α} {own : List Nat} (hi : i ∈ own) (hj : j ∉ own) : (l.set i x)[j]? = l[j]? := by
  rw [List.getElem?_set_ne]
  intro e
  subst e
  exact hj hi
theorem dg_tup2 {i j k : Nat} {x y : Expr} (pe : PG X (.Tuple [x, y] k pos) (gTup X.K 2 (gCons (gName i) (gCons (gName j) gNil)))) : DG X Ts E (.Tuple [x, y] k pos) (gTup X.K 2 (gCons (gName i) (gCons (gName j) gNil))) (tgT2 i j) [i, j] := by
  refine ⟨pe, fun ρ σ H s G d v Q R S i' h => ?_⟩
  unfold tgT2 at h
  split at h
  · rename_i d d1 d2
    obtain ⟨p, vs, rfl, hp, hl⟩ := is_tup i'
    obtain ⟨v1, v2, rfl, h1, h2⟩ := isl_two hl
    refine ⟨p, _, rfl, hp, rfl, v1, [v2], rfl, v2, [], rfl, rfl, ?_⟩
    refine h _ ρ H (Step.refl R) ⟨(S.set h1).set h2, by simp, fun n hn => ?_⟩
    rw [set_out (List.mem_cons_of_mem _ List.mem_cons_self) hn, set_out List.mem_cons_self hn]
  · exact h.elim
theorem isl_three {K : PySem.W.Frag} {ρ : List Addr} {H : Hp} {d d2 d3 : D} {vs : List V} (h : IsL K ρ H [d, d2, d3] vs) : ∃ v w u, vs = [v, w, u] ∧ Is K ρ H d v ∧ Is K ρ H d2 w ∧ Is K ρ H d3 u := by
  simp only [IsL] at h
  obtain ⟨v, r, rfl, h1, w, r2, rfl, h2, u, r3, rfl, h3, rfl⟩ := h
  exact ⟨v, w, u, rfl, h1, h2, h3⟩
theorem dg_tup3 {i j l k : Nat} {x y z : Expr} (pe : PG X (.Tuple [x, y, z] k pos) (gTup X.K 3 (gCons (gName i) (gCons (gName j) (gCons (gName l) gNil))))) : DG X Ts E (.Tuple [x, y, z] k pos) (gTup X.K 3 (gCons (gName i) (gCons (gName j) (gCons (gName l) gNil)))) (tgT3 i j l) [i, j, l] := by
  refine ⟨pe, fun ρ σ H s G d v Q R S i' h => ?_⟩
  unfold tgT3 at h
  split at h
  · rename_i d d1 d2 d3
    obtain ⟨p, vs, rfl, hp, hl⟩ := is_tup i'
    obtain ⟨v1, v2, v3, rfl, h1, h2, h3⟩ := isl_three hl
    refine ⟨p, _, rfl, hp, rfl, v1, [v2, v3], rfl, v2, [v3], rfl, v3, [], rfl, rfl, ?_⟩
    refine h _ ρ H (Step.refl R) ⟨((S.set h1).set h2).set h3, by simp, fun n hn => ?_⟩
    rw [set_out (by simp) hn, set_out (by simp) hn, set_out List.mem_cons_self hn]
  · exact h.elim
def wipeD (s : Sl) : List Nat → Sl
  | [] => s
  | v :: vs => (wipeD s vs).set v none
theorem Sls.wipe {K : PySem.W.Frag} {ρ : List Addr} {H : Hp} {σ : L2.St} {s : Sl} (S : Sls K ρ H σ s) : ∀ vs : List Nat, Sls K ρ H (L2.wipe σ vs) (wipeD s vs)
  | [] => S
  | v :: vs => (S.wipe vs).unset
theorem wipe_in {σ : L2.St} : ∀ {vs : List Nat} {i : Nat}, i ∈ vs → i < σ.length → (L2.wipe σ vs)[i]? = some none
  | v :: vs, i, hi, hl => by
    show ((L2.wipe σ vs).set v none)[i]? = some none
    by_cases e : v = i
    · subst e
      rw [List.getElem?_set_self (by rw [L2.wipe_length]; exact hl)]
    · rw [List.getElem?_set_ne e]
      exact wipe_in ((List.mem_cons.mp hi).resolve_left fun z => e z.symm) hl
theorem wipe_eq {σ τ : L2.St} {vs : List Nat} (hl : τ.length = σ.length) (h : ∀ i, i ∉ vs → τ[i]? = (L2.wipe σ vs)[i]?) : L2.wipe τ vs = L2.wipe σ vs := by
  apply List.ext_getElem?
  intro i
  by_cases hi : i ∈ vs
  · by_cases hb : i < σ.length
    · rw [wipe_in hi hb, wipe_in hi (by rw [hl]; exact hb)]
    · rw [List.getElem?_eq_none (by rw [L2.wipe_length, hl]; omega), List.getElem?_eq_none (by rw [L2.wipe_length]; omega)]
  · rw [L2.wipe_out hi]
    exact h i hi
/-- the elements of a comprehension, one after the other -/
def compM (w : Itm) (tg : D → Sl → M Sl) (cond : Sl → M Bool) (elt : Sl → M D) (s : Sl) : List D → M (List D)
  | [] => fun g => if w.ok g then .ok [] g else .bad
  | x :: xs => fun g => if w.ok g then match tg x s g with
      | .ok s1 g1 => match cond s1 g1 with
        | .ok true g2 => match elt s1 g2 with
          | .ok d g3 => match compM w tg cond elt s xs g3 with
            | .ok r g4 => .ok (d :: r) g4
            | .bad => .bad
            | .ex _ _ _ => .bad
          | _ => .bad
        | .ok false g2 => compM w tg cond elt s xs g2
        | _ => .bad
      | _ => .bad
    else .bad
/-- a clause's tests -/
structure DTs (X : Cx) (Ts : List Addr) (ifs : List Expr) (t : TT) (m : Sl → M Bool) : Prop where
  pe : PTs X ifs t
  rf : ∀ ρ σ H s G Q, Rel ⟨X.K, Ts, fw X.w⟩ ρ G H → Sls X.K ρ H σ s → Run ⟨X.K, Ts, fw X.w⟩ ρ H okB (m s G) Q E0 → t σ H Q
theorem dts_nil : DTs X Ts [] tYes (fun _ => pur true) := ⟨pts_nil, fun ρ σ H s G Q R S h => Run.ret (Ok := okB) R h rfl⟩
theorem dts_one (h : DT X Ts E0 c t mt) : DTs X Ts [c] t mt := ⟨pts_one h.pe, h.rf⟩
theorem compM_noex (w : Itm) (tg : D → Sl → M Sl) (cond : Sl → M Bool) (elt : Sl → M D) (s : Sl) : ∀ (xs : List D) (g : GS) (c : Addr) (d : D) (g' : GS), compM w tg cond elt s xs g ≠ .ex c d g'
  | [], g, c, d, g' => by
    unfold compM
    split <;> intro h <;> cases h
  | x :: xs, g, c, d, g' => by
    unfold compM
    split
    · split
      · split
        · split
          · split
            · intro h; cases h
            · intro h; cases h
            · intro h; cases h
          · intro h; cases h
        · exact compM_noex w tg cond elt s xs _ c d g'
        · intro h; cases h
      · intro h; cases h
    · intro h; cases h
/-- a comprehension's reading, the list at hand told by what is done with it -/
theorem rf_comp {wi : TI} {g : TG} {tt : TT} {te : TE} {vs : List Nat} {mi : Sl → M Itm} {tgm : D → Sl → M Sl} {mcond : Sl → M Bool} {melt : Sl → M D} {tg iter : Expr}
    (hi : DI X Ts E tg iter wi mi) (hg : ∀ ρ σ H s G d v (Q : L2.St → Hp → Prop), Rel ⟨X.K, Ts, fw X.w⟩ ρ G H → Sls X.K ρ H σ s → Is X.K ρ H d v → Run ⟨X.K, Ts, fw X.w⟩ ρ H (okG ⟨X.K, Ts, fw X.w⟩ vs σ) (tgm d s G) Q E0 → g v σ H Q)
    (ht : ∀ ρ σ H s G Q, Rel ⟨X.K, Ts, fw X.w⟩ ρ G H → Sls X.K ρ H σ s → Run ⟨X.K, Ts, fw X.w⟩ ρ H okB (mcond s G) Q E0 → tt σ H Q)
    (he : ∀ ρ σ H s G Q, Rel ⟨X.K, Ts, fw X.w⟩ ρ G H → Sls X.K ρ H σ s → Run ⟨X.K, Ts, fw X.w⟩ ρ H (okD ⟨X.K, Ts, fw X.w⟩) (melt s G) Q E0 → te σ H Q)
    {ρ : List Addr} {σ : L2.St} {H : Hp} {s : Sl} {G : GS} {Q : VK} (R : Rel ⟨X.K, Ts, fw X.w⟩ ρ G H) (S : Sls X.K ρ H σ s)
    (h : Run ⟨X.K, Ts, fw X.w⟩ ρ H (fun ρ' H' ds D => H D = none ∧ ∃ vs, H' D = some (.lst vs) ∧ D ∉ ρ' ∧ IsL X.K ρ' H' ds vs) (bnd (mi s) (fun w => bnd (compM w tgm mcond melt (wipeD s vs) w.items) fun ds => if ds.length ≤ LIM then pur ds else fail) G) (fun D H' => Q (.ref D) H') E) : tLc wi g tt te vs σ H Q := by
  refine hi.rf ρ σ H s G _ R S (Run.first h fun w G1 J ρ1 H1 st1 wk h1 => ?_)
  intro Dl hD
  have wk : Walk ⟨X.K, Ts, fw X.w⟩ w ρ1 H1 J := wk
  -- from turn i on, with acc so far
  let Word : Nat → Hp → Prop := fun i H' => ∃ ρ' G' acc vacc, Step ⟨X.K, Ts, fw X.w⟩ ρ1 H1 ρ' G' H' ∧ Dl ∉ ρ' ∧ H' Dl = some (.lst vacc) ∧ IsL X.K ρ' H' acc vacc ∧ i ≤ w.items.length ∧
    ∃ r G'', compM w tgm mcond melt (wipeD s vs) (w.items.drop i) G' = .ok r G'' ∧ (acc ++ r).length ≤ LIM ∧ ∀ ρ2 H2 vs2, Step ⟨X.K, Ts, fw X.w⟩ ρ1 H1 ρ2 G'' H2 → Dl ∉ ρ2 → H2 Dl = some (.lst vs2) → IsL X.K ρ2 H2 (acc ++ r) vs2 → Q (.ref Dl) H2
  have hDn : Dl ∉ ρ1 := fun z => by
    obtain ⟨o, e, _⟩ := st1.rel.there z
    rw [hD] at e; cases e
  have hstep : ∀ {ρ' : List Addr} {G' : GS} {H' H2 : Hp} {ρ2 : List Addr} {G2 : GS} {vacc : List V}, Step ⟨X.K, Ts, fw X.w⟩ ρ' H' ρ2 G2 H2 → Dl ∉ ρ' → H' Dl = some (.lst vacc) → H2 Dl = some (.lst vacc) ∧ Dl ∉ ρ2 := fun {ρ' G' H' H2 ρ2 G2 vacc} st hn e => by
    refine ⟨st.ext.keep Dl _ e hn (fun ps z => nomatch z), fun z => ?_⟩
    have := st.fresh Dl z hn
    rw [e] at this; cases this
  refine ⟨fun i m H' => m = w.items.length - i ∧ Word i H', ⟨w.items.length, by simp, ?_⟩, ?_⟩
  · -- the start
    have st2 : Step ⟨X.K, Ts, fw X.w⟩ ρ1 H1 ρ1 G1 (upd H1 Dl (.lst [])) := Step.lay st1.rel hD
    unfold bnd at h1
    cases e : compM w tgm mcond melt (wipeD s vs) w.items G1 with
    | bad => rw [e] at h1; exact h1.elim
    | ex c d g => exact absurd e (compM_noex _ _ _ _ _ _ _ _ _ _)
    | ok r G'' =>
      rw [e] at h1
      dsimp only at h1
      split at h1
      · rename_i hc
        refine ⟨ρ1, G1, [], [], st2, hDn, upd_same, .nil, Nat.zero_le _, r, G'', e, hc, fun ρ2 H2 vs2 st3 hn e2 i2 => ?_⟩
        exact h1 Dl ρ2 H2 st3 ⟨st1.back hD, vs2, e2, hn, i2⟩
      · exact h1.elim
  · rintro i m H' ⟨rfl, ρ', G', acc, vacc, st, hn, eD, hacc, hile, r, G'', er, hlen, fin⟩
    by_cases hi : i < w.items.length
    · have hd : w.items.drop i = w.items[i] :: w.items.drop (i + 1) := List.drop_eq_getElem_cons hi
      have hx : w.items[i]? = some w.items[i] := List.getElem?_eq_getElem hi
      rw [hd] at er
      unfold compM at er
      split at er
      · rename_i hok
        refine .inr ⟨wk.go i ρ' G' H' _ st hok hx, fun H2 => Word (i + 1) H2, fun H2 w2 => ⟨w.items.length - (i + 1), by omega, rfl, w2⟩, fun x H2 hy => ?_⟩
        obtain ⟨st2, hx2⟩ := wk.yld i ρ' G' H' x H2 _ st hok hx hy
        have S2 : Sls X.K ρ' H2 (L2.wipe σ vs) (wipeD s vs) := ((((S.step R st1).step st1.rel st).step st.rel st2).wipe vs)
        have st2' := st.trans st2
        obtain ⟨eD2, hn2⟩ := hstep (G' := G') st2 hn eD
        have hacc2 : IsL X.K ρ' H2 acc vacc := IsL.step st.rel st2 hacc
        refine hg ρ' (L2.wipe σ vs) H2 (wipeD s vs) G' _ x _ st2.rel S2 hx2 ?_
        cases e1 : tgm w.items[i] (wipeD s vs) G' with
        | bad => rw [e1] at er; cases er
        | ex _ _ _ => rw [e1] at er; cases er
        | ok s1 g1 =>
          rw [e1] at er
          intro σ3 ρ3 H3 st3 ⟨S3, hl3, hσ3⟩
          have hl3 : σ3.length = σ.length := by rw [hl3, L2.wipe_length]
          refine ⟨wipe_eq hl3 hσ3, ?_⟩
          obtain ⟨eD3, hn3⟩ := hstep (G' := G') st3 hn2 eD2
          have hacc3 : IsL X.K ρ3 H3 acc vacc := IsL.step st2.rel st3 hacc2
          refine ht ρ3 σ3 H3 s1 g1 _ st3.rel S3 ?_
          dsimp only at er
          cases e2 : mcond s1 g1 with
          | bad => rw [e2] at er; cases er
          | ex _ _ _ => rw [e2] at er; cases er
          | ok bb g2 =>
            rw [e2] at er
            intro b' ρ4 H4 st4 eb
            have eb : bb = b' := eb
            subst eb
            obtain ⟨eD4, hn4⟩ := hstep (G' := g1) st4 hn3 eD3
            have hacc4 : IsL X.K ρ4 H4 acc vacc := IsL.step st3.rel st4 hacc3
            have st04 := (st2'.trans st3).trans st4
            cases bb with
            | false =>
              rw [if_neg Bool.false_ne_true]
              exact ⟨ρ4, g2, acc, vacc, st04, hn4, eD4, hacc4, hi, r, G'', er, hlen, fin⟩
            | true =>
              rw [if_pos rfl]
              dsimp only at er
              refine he ρ4 σ3 H4 s1 g2 _ st4.rel (S3.step st3.rel st4) ?_
              cases e3 : melt s1 g2 with
              | bad => rw [e3] at er; cases er
              | ex _ _ _ => rw [e3] at er; cases er
              | ok d g3 =>
                rw [e3] at er
                intro y ρ5 H5 st5 iy
                have iy : Is X.K ρ5 H5 d y := iy
                obtain ⟨eD5, hn5⟩ := hstep (G' := g2) st5 hn4 eD4
                have hacc5 : IsL X.K ρ5 H5 acc vacc := IsL.step st4.rel st5 hacc4
                dsimp only at er
                cases e4 : compM w tgm mcond melt (wipeD s vs) (List.drop (i + 1) w.items) g3 with
                | bad => rw [e4] at er; cases er
                | ex _ _ _ => rw [e4] at er; cases er
                | ok r' g4 =>
                  rw [e4] at er
                  cases er
                  have hlim : acc.length < LIM := by
                    rw [List.length_append, List.length_cons] at hlen
                    omega
                  refine ⟨vacc, eD5, by rw [← hacc5.len]; exact lim_lt hlim, ?_⟩
                  obtain ⟨st6, x6⟩ := Step.hidden (ws := vacc ++ [y]) st1.rel (st04.trans st5) hD hn5 eD5
                  refine ⟨ρ5, g3, acc ++ [d], vacc ++ [y], st6, hn5, upd_same, (hacc5.app (.cons iy .nil)).mono (List.prefix_refl _) x6, hi, r', _, e4, ?_, ?_⟩
                  · rw [List.append_assoc]
                    exact hlen
                  · rw [List.append_assoc]
                    exact fin
      · cases er
    · have e : i = w.items.length := by omega
      subst e
      rw [List.drop_length] at er
      unfold compM at er
      split at er
      · rename_i hok
        cases er
        rw [List.append_nil] at fin
        exact .inl ⟨wk.stop ρ' G' H' st hok, fin ρ' H' vacc st hn eD hacc⟩
      · cases er
def compD (mi : Sl → M Itm) (tgm : D → Sl → M Sl) (mcond : Sl → M Bool) (melt : Sl → M D) (vs : List Nat) (s : Sl) : M (List D) := bnd (mi s) fun w => bnd (compM w tgm mcond melt (wipeD s vs) w.items) fun ds => if ds.length ≤ LIM then pur ds else fail
def newL (ds : List D) : M D := fun g => .ok (.ref g.length) (g ++ [.lst ds])
/-- the hidden list comes to light -/
theorem Step.adopt {ρ ρ1 : List Addr} {G1 : GS} {H H1 : Hp} (st : Step C ρ H ρ1 G1 H1) {p : Addr} {vs : List V} {ds : List D} (h0 : H p = none) (hn : p ∉ ρ1) (hp : H1 p = some (.lst vs)) (i : IsL C.K ρ1 H1 ds vs) : Step C ρ H (ρ1 ++ [p]) (G1 ++ [.lst ds]) H1 := by
  have pre : ρ1 <+: ρ1 ++ [p] := List.prefix_append _ _
  have x : TExt H1 H1 := ⟨fun _ _ e _ _ => e⟩
  refine ⟨st.pre.trans pre, st.ext, ⟨?_, ?_, fun j d a h1 h2 => ?_, st.rel.tab⟩, fun a h n => ?_⟩
  · rw [List.length_append, List.length_append, st.rel.len]; rfl
  · rw [List.nodup_append]
    refine ⟨st.rel.nd, by simp, fun a ha b hb e => ?_⟩
    rw [List.mem_singleton.mp hb] at e
    subst e
    exact hn ha
  · by_cases hi : j < G1.length
    · rw [List.getElem?_append_left hi] at h1
      rw [List.getElem?_append_left (by rw [st.rel.len]; exact hi)] at h2
      obtain ⟨u, e, q⟩ := st.rel.cell j d a h1 h2
      exact ⟨u, e, q.mono pre x⟩
    · have e : j = G1.length := by
        have := (List.getElem?_eq_some_iff.mp h1).1
        rw [List.length_append, List.length_singleton] at this
        omega
      subst e
      rw [List.getElem?_append_right (Nat.le_refl _), Nat.sub_self] at h1
      rw [← st.rel.len, List.getElem?_append_right (Nat.le_refl _), Nat.sub_self] at h2
      cases h1
      cases h2
      exact ⟨_, hp, vs, rfl, i.mono pre x⟩
  · rcases List.mem_append.mp h with h | h
    · exact st.fresh a h n
    · rw [List.mem_singleton.mp h]; exact h0
theorem new_ref {ρ1 : List Addr} {G1 : GS} {H1 : Hp} {p : Addr} {K : PySem.W.Frag} (R : Rel C ρ1 G1 H1) : Is K (ρ1 ++ [p]) H1 (.ref G1.length) (.ref p) := R.new_at
/-- to a list -/
theorem run_newL {ρ : List Addr} {G : GS} {H : Hp} {m : M (List D)} {Q : VK} (h : Run C ρ H (okD C) (bnd m newL G) Q E) : Run C ρ H (fun ρ' H' ds D => H D = none ∧ ∃ vs, H' D = some (.lst vs) ∧ D ∉ ρ' ∧ IsL C.K ρ' H' ds vs) (m G) (fun D H' => Q (.ref D) H') E := by
  unfold bnd at h
  cases e : m G with
  | bad => rw [e] at h; exact h
  | ex c d g => rw [e] at h; exact h
  | ok ds g =>
    rw [e] at h
    intro Dl ρ' H' st ⟨h0, vs, e1, hn, i⟩
    exact h (.ref Dl) _ H' (st.adopt h0 hn e1 i) (new_ref st.rel)
end
end DL
namespace DL
open PySem PySem.Spec PyProof.Rows L2
open Classical
noncomputable section
variable {X : Cx} {Ts : List Addr} {E : XK} {a b c e : Expr} {ta tb tc te : TE} {ma mb mc me : Sl → M D} {pos : Pos} {C : Ct} {es : List Expr} {t u : TT} {mt mu : Sl → M Bool} {tr : TA} {mr : Sl → M (List D)}
theorem de_lc {elt tg iter : Expr} {ifs : List Expr} {scope : Scope} {own : List (Str × Nat)} {wi : TI} {g : TG} {tt : TT} {te : TE} {mi : Sl → M Itm} {tgm : D → Sl → M Sl} {mcond : Sl → M Bool} {melt : Sl → M D} {vs : List Nat} (hc : X.calm = true) (hN : X.N.Nodup) (hi : DI X Ts E tg iter wi mi) (ok : BlkOk X.N X.env.scope scope own)
    (hvs : own.map (·.2) = vs)
    (hg : ∀ (s : Shared) (H : Hp) (C : Addr) (cl : List (Str × Addr)) (fp : List Addr), DG (X.blk s H scope (compEnvC scope cl C X.env) fp) Ts E0 tg g tgm vs)
    (ht : ∀ (s : Shared) (H : Hp) (C : Addr) (cl : List (Str × Addr)) (fp : List Addr), DTs (X.blk s H scope (compEnvC scope cl C X.env) fp) Ts ifs tt mcond)
    (he : ∀ (s : Shared) (H : Hp) (C : Addr) (cl : List (Str × Addr)) (fp : List Addr), DE (X.blk s H scope (compEnvC scope cl C X.env) fp) Ts E0 elt te melt) (hs : ∀ x, foldedSetIterable iter X.env x = pure x := by intro _; rfl) :
    DE X Ts E (.ListComp elt [⟨tg, iter, ifs, 0⟩] scope pos) (tLc wi g tt te (own.map (·.2))) (fun s => bnd (compD mi tgm mcond melt vs s) newL) := by
  subst hvs
  refine ⟨pe_lc hc hN hi.pe ok (fun s H C cl fp => (hg s H C cl fp).pe) (fun s H C cl fp => (ht s H C cl fp).pe) (fun s H C cl fp => (he s H C cl fp).pe) hs, fun ρ σ H s G Q R S h => ?_⟩
  exact rf_comp hi (hg {} (fun _ => none) 0 [] []).rf (ht {} (fun _ => none) 0 [] []).rf (he {} (fun _ => none) 0 [] []).rf R S (run_newL (C := ⟨X.K, Ts, fw X.w⟩) h)
def CallD (C : Ct) (r : List V → Hp → VK → Prop) (o : List D → M D) : Prop := ∀ ρ G H ds vs Q E, Rel C ρ G H → IsL C.K ρ H ds vs → Run C ρ H (okD C) (o ds G) Q E → r vs H Q
theorem de_callB {id : String} {r : List V → Hp → VK → Prop} {o : List D → M D} {x : Str} {p pos : Pos} (hc : CallR X (.builtin id) r) (hd : CallD ⟨X.K, Ts, fw X.w⟩ r o) (hg : Gl X x) (hm : X.mg x = none) (hv : bootBuiltins x = some (.builtin id)) (ha : DA X Ts E (e :: es) tr mr)
    (hn : x ≠ "__name__" := by decide) (hdb : (x == ("__debug__" : Str)) = false := by decide)
    (he : starEach (e :: es) X.env = (false, eval e X.env) :: starEach es X.env := by rfl) (hpl : (backTo pos (starEach es X.env)).any (·.1) = false := by rfl) : DE X Ts E (.Call (.Name x p) (e :: es) [] pos) (tCB r tr) (fun s => bnd (mr s) o) := by
  refine ⟨pe_callB hc hg hm hv ha.pe hn hdb he hpl, fun ρ σ H s G Q R S h => ?_⟩
  exact ha.rf ρ σ H s G _ R S (Run.map R h fun ds G1 vs ρ1 H1 R1 i h1 => hd ρ1 G1 H1 ds vs Q E R1 i h1)
theorem de_callTy {T : String} {r : List V → Hp → VK → Prop} {o : List D → M D} {x : Str} {p pos : Pos} (hc : CallR X (.type T) r) (hd : CallD ⟨X.K, Ts, fw X.w⟩ r o) (hg : Gl X x) (hm : X.mg x = none) (hv : bootBuiltins x = some (.type T)) (ha : DA X Ts E (e :: es) tr mr)
    (hn : x ≠ "__name__" := by decide) (hdb : (x == ("__debug__" : Str)) = false := by decide)
    (he : starEach (e :: es) X.env = (false, eval e X.env) :: starEach es X.env := by rfl) (hpl : (backTo pos (starEach es X.env)).any (·.1) = false := by rfl) : DE X Ts E (.Call (.Name x p) (e :: es) [] pos) (tCB r tr) (fun s => bnd (mr s) o) := by
  refine ⟨pe_callTy hc hg hm hv ha.pe hn hdb he hpl, fun ρ σ H s G Q R S h => ?_⟩
  exact ha.rf ρ σ H s G _ R S (Run.map R h fun ds G1 vs ρ1 H1 R1 i h1 => hd ρ1 G1 H1 ds vs Q E R1 i h1)
/-- len of a list or a tuple -/
def lenD (ds : List D) : M D := fun g => match ds with
  | [.tup xs] => .ok (.int xs.length) g
  | [.scr ns] => .ok (.int ns.length) g
  | [.ref n] => match g[n]? with
    | some (.lst xs) => .ok (.int xs.length) g
    | _ => .bad
  | _ => .bad
theorem calld_len : CallD C (fun xs H Q => ∃ p ys, xs = [.ref p] ∧ (SqL C.K H p ys ∨ SqT C.K H p ys) ∧ Q (.int ys.length) H) lenD := by
  intro ρ G H ds vs Q E R i h
  unfold lenD at h
  split at h
  · obtain ⟨v, rfl, i2⟩ := isl_one i
    obtain ⟨p, ws, rfl, hp, hl⟩ := is_tup i2
    exact ⟨p, ws, rfl, .inr hp, by rw [← hl.len]; exact Run.ret (Ok := okD C) R h isInt⟩
  · obtain ⟨v, rfl, i2⟩ := isl_one i
    simp only [Is] at i2
    obtain ⟨p, rfl, hp⟩ := i2
    exact ⟨p, _, rfl, .inl hp.sql, by rw [List.length_map]; exact Run.ret (Ok := okD C) R h isInt⟩
  · obtain ⟨v, rfl, i2⟩ := isl_one i
    split at h
    · rename_i e1
      obtain ⟨p, ws, rfl, _, hp, hl⟩ := R.lst e1 i2
      exact ⟨p, ws, rfl, .inl (SqL.of hp), by rw [← hl.len]; exact Run.ret (Ok := okD C) R h isInt⟩
    · exact h.elim
  · exact h.elim
/-- int(n), int(b) -/
def intD (ds : List D) : M D := match ds with
  | [.int i] => pur (.int i)
  | [.bl b] => pur (.int (if b then 1 else 0))
  | _ => fail
theorem calld_int : CallD C (fun xs H Q => (∃ i, xs = [.int i] ∧ Q (.int i) H) ∨ ∃ k, xs = [.bl k] ∧ Q (.int (if k then 1 else 0)) H) intD := by
  intro ρ G H ds vs Q E R i h
  unfold intD at h
  split at h
  · obtain ⟨v, rfl, i2⟩ := isl_one i
    exact .inl ⟨_, by rw [is_int i2], Run.ret (Ok := okD C) R h isInt⟩
  · obtain ⟨v, rfl, i2⟩ := isl_one i
    exact .inr ⟨_, by rw [is_bl i2], Run.ret (Ok := okD C) R h isInt⟩
  · exact h.elim
/-- list(xs): a new one -/
def listD (ds : List D) : M D := fun g => match ds with
  | [.tup xs] => .ok (.ref g.length) (g ++ [.lst xs])
  | [.scr ns] => .ok (.ref g.length) (g ++ [.lst (ns.map D.int)])
  | [.ref n] => match g[n]? with
    | some (.lst xs) => .ok (.ref g.length) (g ++ [.lst xs])
    | _ => .bad
  | _ => .bad
theorem isl_ints {K : PySem.W.Frag} {ρ : List Addr} {H : Hp} : ∀ ns : List Int, IsL K ρ H (ns.map D.int) (ns.map V.int)
  | [] => .nil
  | n :: ns => .cons isInt (isl_ints ns)
theorem calld_list : CallD C (fun xs H Q => ∃ p ys, xs = [.ref p] ∧ (SqL C.K H p ys ∨ SqT C.K H p ys) ∧ ∀ l, H l = none → Q (.ref l) (upd H l (.lst ys))) listD := by
  intro ρ G H ds vs Q E R i h
  unfold listD at h
  split at h
  · obtain ⟨v, rfl, i2⟩ := isl_one i
    obtain ⟨p, ws, rfl, hp, hl⟩ := is_tup i2
    exact ⟨p, ws, rfl, .inr hp, Run.newL R h hl⟩
  · obtain ⟨v, rfl, i2⟩ := isl_one i
    simp only [Is] at i2
    obtain ⟨p, rfl, hp⟩ := i2
    exact ⟨p, _, rfl, .inl hp.sql, Run.newL R h (isl_ints _)⟩
  · obtain ⟨v, rfl, i2⟩ := isl_one i
    split at h
    · rename_i e1
      obtain ⟨p, ws, rfl, _, hp, hl⟩ := R.lst e1 i2
      exact ⟨p, ws, rfl, .inl (SqL.of hp), Run.newL R h hl⟩
    · exact h.elim
  · exact h.elim
/-- tuple(xs) -/
def tupleD (ds : List D) : M D := fun g => match ds with
  | [.tup xs] => .ok (.tup xs) g
  | [.scr ns] => .ok (.tup (ns.map D.int)) g
  | [.ref n] => match g[n]? with
    | some (.lst xs) => .ok (.tup xs) g
    | _ => .bad
  | _ => .bad
theorem calld_tuple : CallD C (fun xs H Q => ∃ p ys, xs = [.ref p] ∧ ((SqL C.K H p ys ∧ ∀ l, H l = none → Q (.ref l) (upd H l (.tup ys))) ∨ (SqT C.K H p ys ∧ Q (.ref p) H))) tupleD := by
  intro ρ G H ds vs Q E R i h
  unfold tupleD at h
  split at h
  · obtain ⟨v, rfl, i2⟩ := isl_one i
    obtain ⟨p, ws, rfl, hp, hl⟩ := is_tup i2
    exact ⟨p, ws, rfl, .inr ⟨hp, Run.ret (Ok := okD C) R h (isTup hp hl)⟩⟩
  · obtain ⟨v, rfl, i2⟩ := isl_one i
    simp only [Is] at i2
    obtain ⟨p, rfl, hp⟩ := i2
    exact ⟨p, _, rfl, .inl ⟨hp.sql, Run.newT R h (isl_ints _)⟩⟩
  · obtain ⟨v, rfl, i2⟩ := isl_one i
    split at h
    · rename_i e1
      obtain ⟨p, ws, rfl, _, hp, hl⟩ := R.lst e1 i2
      exact ⟨p, ws, rfl, .inl ⟨SqL.of hp, Run.newT R h hl⟩⟩
    · exact h.elim
  · exact h.elim
/-- tuple([.. for ..]) -/
theorem de_tupLc {elt tg iter : Expr} {ifs : List Expr} {scope : Scope} {own : List (Str × Nat)} {wi : TI} {g : TG} {tt : TT} {te : TE} {mi : Sl → M Itm} {tgm : D → Sl → M Sl} {mcond : Sl → M Bool} {melt : Sl → M D} {vs : List Nat} {p pos lpos : Pos}
    (hgl : Gl X "tuple") (hm : X.mg "tuple" = none) (hb : bootBuiltins "tuple" = some (.type "tuple")) (hc : X.calm = true) (hN : X.N.Nodup) (hi : DI X Ts E tg iter wi mi) (ok : BlkOk X.N X.env.scope scope own)
    (hvs : own.map (·.2) = vs)
    (hg : ∀ (s : Shared) (H : Hp) (C : Addr) (cl : List (Str × Addr)) (fp : List Addr), DG (X.blk s H scope (compEnvC scope cl C X.env) fp) Ts E0 tg g tgm vs)
    (ht : ∀ (s : Shared) (H : Hp) (C : Addr) (cl : List (Str × Addr)) (fp : List Addr), DTs (X.blk s H scope (compEnvC scope cl C X.env) fp) Ts ifs tt mcond)
    (he : ∀ (s : Shared) (H : Hp) (C : Addr) (cl : List (Str × Addr)) (fp : List Addr), DE (X.blk s H scope (compEnvC scope cl C X.env) fp) Ts E0 elt te melt) (hs : ∀ x, foldedSetIterable iter X.env x = pure x := by intro _; rfl)
    (hst : starEach [.ListComp elt [⟨tg, iter, ifs, 0⟩] scope lpos] X.env = (false, eval (.ListComp elt [⟨tg, iter, ifs, 0⟩] scope lpos) X.env) :: starEach [] X.env := by rfl) :
    DE X Ts E (.Call (.Name "tuple" p) [.ListComp elt [⟨tg, iter, ifs, 0⟩] scope lpos] [] pos) (tCB (fun xs H Q => ∃ p ys, xs = [.ref p] ∧ ((SqL X.K H p ys ∧ ∀ l, H l = none → Q (.ref l) (upd H l (.tup ys))) ∨ (SqT X.K H p ys ∧ Q (.ref p) H))) (tCons (tLc wi g tt te (own.map (·.2))) tNil))
      (fun s => bnd (compD mi tgm mcond melt vs s) fun ds => pur (.tup ds)) := by
  subst hvs
  refine ⟨pe_callTy call_tuple_of hgl hm hb (pa_cons (pe_lc hc hN hi.pe ok (fun s H C cl fp => (hg s H C cl fp).pe) (fun s H C cl fp => (ht s H C cl fp).pe) (fun s H C cl fp => (he s H C cl fp).pe) hs) pa_nil hst) (by decide) (by decide) hst rfl, fun ρ σ H s G Q R S h => ?_⟩
  refine rf_comp (Q := fun x H' => tNil σ H' fun xs H2 => ∃ p ys, x :: xs = [.ref p] ∧ ((SqL X.K H2 p ys ∧ ∀ l, H2 l = none → Q (.ref l) (upd H2 l (.tup ys))) ∨ (SqT X.K H2 p ys ∧ Q (.ref p) H2))) hi (hg {} (fun _ => none) 0 [] []).rf (ht {} (fun _ => none) 0 [] []).rf (he {} (fun _ => none) 0 [] []).rf R S ?_
  have h : Run ⟨X.K, Ts, fw X.w⟩ ρ H (okD ⟨X.K, Ts, fw X.w⟩) (bnd (compD mi tgm mcond melt (own.map (·.2)) s) (fun ds => pur (.tup ds)) G) Q E := h
  show Run ⟨X.K, Ts, fw X.w⟩ ρ H _ (compD mi tgm mcond melt (own.map (·.2)) s G) _ E
  unfold bnd at h
  cases e : compD mi tgm mcond melt (own.map (·.2)) s G with
  | bad => rw [e] at h; exact h
  | ex c d g => rw [e] at h; exact h
  | ok ds g =>
    rw [e] at h
    intro Dl ρ' H' st ⟨h0, ws, e1, hn, i⟩
    refine ⟨Dl, ws, rfl, .inl ⟨SqL.of e1, fun l hl => ?_⟩⟩
    have st2 := Step.lay st.rel (o := .tup ws) hl
    exact h (.ref l) ρ' _ (st.trans st2) (isTup (SqT.of upd_same) (IsL.step st.rel st2 i))
def genM (w : Itm) (tg : D → Sl → M Sl) (elt : Sl → M D) (stop : Bool) (s : Sl) : List D → M D
  | [] => fun g => if w.ok g then .ok (.bl (!stop)) g else .bad
  | x :: xs => fun g => if w.ok g then match tg x s g with
      | .ok s1 g1 => match elt s1 g1 with
        | .ok (.bl b) g2 => if b = stop then .ok (.bl stop) g2 else genM w tg elt stop s xs g2
        | _ => .bad
      | _ => .bad
    else .bad
theorem Step.tabbed {ρ : List Addr} {G : GS} {H H2 : Hp} {P : Addr} (R : Rel C ρ G H) (hP : P ∈ C.Ts) (t : GxR.Tabbed P H H2) : Step C ρ H ρ G H2 := by
  obtain ⟨ps, eP, _⟩ := R.tab P hP
  have ne : ∀ a o, H a = some o → (∀ ps, o ≠ .tbl ps) → a ≠ P := fun a o e n z => by
    rw [z, eP] at e
    exact n ps (Option.some.inj e).symm
  have x : Ext ρ H H2 := ⟨fun a o e _ n => by rw [t.2 a (ne a o e n)]; exact e, fun a qs e => by
    by_cases z : a = P
    · obtain ⟨rs, e2, _⟩ := t.1
      exact ⟨rs, by rw [z]; exact e2⟩
    · exact ⟨qs, by rw [t.2 a z]; exact e⟩⟩
  refine ⟨List.prefix_refl _, x, ⟨R.len, R.nd, fun i c a h1 h2 => ?_, fun P' hP' => ?_⟩, fun a h n => absurd h n⟩
  · obtain ⟨o, e, q⟩ := R.cell i c a h1 h2
    refine ⟨o, ?_, q.mono (List.prefix_refl _) (x.text R)⟩
    rw [t.2 a (ne a o e fun ps z => by have := q.cell; rw [z] at this; cases this)]
    exact e
  · by_cases z : P' = P
    · rw [z]; exact t.1
    · obtain ⟨qs, e, tr⟩ := R.tab P' hP'
      exact ⟨qs, by rw [t.2 P' z]; exact e, tr⟩
theorem rf_gen {wi : TI} {g : TG} {te : TE} {vs : List Nat} {mi : Sl → M Itm} {tgm : D → Sl → M Sl} {melt : Sl → M D} {tg iter : Expr} {P : Addr} {stop : Bool} (hP : P ∈ Ts)
    (hi : DI X Ts E tg iter wi mi) (hg : ∀ ρ σ H s G d v (Q : L2.St → Hp → Prop), Rel ⟨X.K, Ts, fw X.w⟩ ρ G H → Sls X.K ρ H σ s → Is X.K ρ H d v → Run ⟨X.K, Ts, fw X.w⟩ ρ H (okG ⟨X.K, Ts, fw X.w⟩ vs σ) (tgm d s G) Q E0 → g v σ H Q)
    (he : ∀ ρ σ H s G Q, Rel ⟨X.K, Ts, fw X.w⟩ ρ G H → Sls X.K ρ H σ s → Run ⟨X.K, Ts, fw X.w⟩ ρ H (okD ⟨X.K, Ts, fw X.w⟩) (melt s G) Q E0 → te σ H Q)
    {ρ : List Addr} {σ : L2.St} {H : Hp} {s : Sl} {G : GS} {Q : VK} (R : Rel ⟨X.K, Ts, fw X.w⟩ ρ G H) (S : Sls X.K ρ H σ s)
    (h : Run ⟨X.K, Ts, fw X.w⟩ ρ H (okD ⟨X.K, Ts, fw X.w⟩) (bnd (mi s) (fun w => genM w tgm melt stop (wipeD s vs) w.items) G) Q E) : GA.tGen P wi g te vs stop σ H Q := by
  refine hi.rf ρ σ H s G _ R S (Run.first h fun w G1 J ρ1 H1 st1 wk h1 => ?_)
  have wk : Walk ⟨X.K, Ts, fw X.w⟩ w ρ1 H1 J := wk
  refine ⟨st1.rel.tab P hP, fun H2 tb => ?_⟩
  have st2 : Step ⟨X.K, Ts, fw X.w⟩ ρ1 H1 ρ1 G1 H2 := Step.tabbed st1.rel hP tb
  let Word : Nat → Hp → Prop := fun i H' => ∃ ρ' G', Step ⟨X.K, Ts, fw X.w⟩ ρ1 H1 ρ' G' H' ∧ i ≤ w.items.length ∧ Run ⟨X.K, Ts, fw X.w⟩ ρ' H' (okD ⟨X.K, Ts, fw X.w⟩) (genM w tgm melt stop (wipeD s vs) (w.items.drop i) G') Q E
  refine ⟨fun i m H' => m = w.items.length - i ∧ Word i H', ⟨w.items.length, by simp, ρ1, G1, st2, Nat.zero_le _, Run.step st2 h1⟩, ?_⟩
  rintro i m H' ⟨rfl, ρ', G', st, hile, er⟩
  by_cases hi : i < w.items.length
  · have hd : w.items.drop i = w.items[i] :: w.items.drop (i + 1) := List.drop_eq_getElem_cons hi
    have hx : w.items[i]? = some w.items[i] := List.getElem?_eq_getElem hi
    rw [hd] at er
    unfold genM at er
    split at er
    · rename_i hok
      refine .inr ⟨wk.go i ρ' G' H' _ st hok hx, fun H2 => Word (i + 1) H2, fun H2 w2 => ⟨w.items.length - (i + 1), by omega, rfl, w2⟩, fun x H2 hy => ?_⟩
      obtain ⟨st2, hx2⟩ := wk.yld i ρ' G' H' x H2 _ st hok hx hy
      have S2 : Sls X.K ρ' H2 (L2.wipe σ vs) (wipeD s vs) := ((((S.step R st1).step st1.rel st).step st.rel st2).wipe vs)
      have st2' := st.trans st2
      refine hg ρ' (L2.wipe σ vs) H2 (wipeD s vs) G' _ x _ st2.rel S2 hx2 ?_
      cases e1 : tgm w.items[i] (wipeD s vs) G' with
      | bad => rw [e1] at er; exact er.elim
      | ex _ _ _ => rw [e1] at er; exact er.elim
      | ok s1 g1 =>
        rw [e1] at er
        intro σ3 ρ3 H3 st3 ⟨S3, hl3, hσ3⟩
        have hl3 : σ3.length = σ.length := by rw [hl3, L2.wipe_length]
        refine ⟨wipe_eq hl3 hσ3, ?_⟩
        refine he ρ3 σ3 H3 s1 g1 _ st3.rel S3 ?_
        dsimp only at er
        cases e3 : melt s1 g1 with
        | bad => rw [e3] at er; exact er.elim
        | ex _ _ _ => rw [e3] at er; exact er.elim
        | ok d g3 =>
          rw [e3] at er
          intro y ρ5 H5 st5 iy
          have iy : Is X.K ρ5 H5 d y := iy
          have st25 := (st2.trans st3).trans st5
          cases d with
          | bl b =>
            dsimp only at er
            refine ⟨b, is_bl iy, ?_⟩
            by_cases hb : b = stop
            · rw [if_pos hb] at er ⊢
              exact er (.bl stop) ρ5 H5 st25 isBl
            · rw [if_neg hb] at er ⊢
              exact ⟨ρ5, g3, st.trans st25, hi, Run.step st25 er⟩
          | _ => exact er.elim
    · exact er.elim
  · have e : i = w.items.length := by omega
    subst e
    rw [List.drop_length] at er
    unfold genM at er
    split at er
    · rename_i hok
      exact .inl ⟨wk.stop ρ' G' H' st hok, Run.ret (Ok := okD ⟨X.K, Ts, fw X.w⟩) st.rel er isBl⟩
    · exact er.elim
def genD (mi : Sl → M Itm) (tgm : D → Sl → M Sl) (melt : Sl → M D) (stop : Bool) (vs : List Nat) (s : Sl) : M D := bnd (mi s) fun w => genM w tgm melt stop (wipeD s vs) w.items
end
end DL
namespace DL
open PySem PySem.Spec PyProof.Rows L2
open Classical
noncomputable section
variable {X : Cx} {Ts : List Addr} {E : XK} {a b c e : Expr} {ta tb tc te : TE} {ma mb mc me : Sl → M D} {pos : Pos} {C : Ct} {es : List Expr} {t u : TT} {mt mu : Sl → M Bool} {tr : TA} {mr : Sl → M (List D)}
section
variable {elt iter : Expr} {x : Str} {px p gpos : Pos} {scope : Scope} {own : List (Str × Nat)} {wi : TI} {g : TG} {te : TE} {k : Nat} {mi : Sl → M Itm} {tgm : D → Sl → M Sl} {melt : Sl → M D} {vs : List Nat} {cc P : Addr}
theorem de_all (hr : Room (k + 3) X.A) (hgl : Gl X "all") (hm : X.mg "all" = none) (TB : GxR.TabB X.base X.mg cc P) (hcode : X.env.code = .ref cc) (hP : P ∈ Ts) (hcalm : X.calm = true) (hN : X.N.Nodup) (hco : scope.isCoroutine = false) (hcell : ∀ y ∈ scope.names, y.2 ≠ .cell) (hdot : scope.names.lookup (".0" : Str) = some NameKind.local)
    (ok : BlkOk X.N X.env.scope scope own) (hvs : own.map (·.2) = vs) (hi : DI X Ts E (.Name x px) iter wi mi)
    (hg : ∀ (s : Shared) (H : Hp) (C : Addr) (cl : List (Str × Addr)) (code : Value) (fp : List Addr) (pn : List (Addr × Obj)), DG (GA.gcx X s H (genEnv scope cl C code builtinsNs X.env) fp pn) Ts E0 (.Name x px) g tgm vs)
    (he : ∀ (s : Shared) (H : Hp) (C : Addr) (cl : List (Str × Addr)) (code : Value) (fp : List Addr) (pn : List (Addr × Obj)), Room k (GA.gcx X s H (genEnv scope cl C code builtinsNs X.env) fp pn).A → DE (GA.gcx X s H (genEnv scope cl C code builtinsNs X.env) fp pn) Ts E0 elt te melt)
    (hs : ∀ v, genFold iter X.env v = pure v := by intro _; rfl)
    (hst : starEach [.GeneratorExp elt [⟨.Name x px, iter, [], 0⟩] scope gpos] X.env = (false, eval (.GeneratorExp elt [⟨.Name x px, iter, [], 0⟩] scope gpos) X.env) :: starEach [] X.env := by rfl) :
    DE X Ts E (.Call (.Name "all" p) [.GeneratorExp elt [⟨.Name x px, iter, [], 0⟩] scope gpos] [] pos) (GA.tGen P wi g te (own.map (·.2)) false) (genD mi tgm melt false vs) := by
  subst hvs
  refine ⟨GA.pe_allG hr hgl hm PyProof.Rows.boot_all TB hcode hcalm hN hco hcell hdot ok hi.pe (fun s H C cl code fp pn => (hg s H C cl code fp pn).pe) (fun s H C cl code fp pn r => (he s H C cl code fp pn r).pe) hs hst, fun ρ σ H s G Q R S h => ?_⟩
  exact rf_gen hP hi (hg {} (fun _ => none) 0 [] .none [] []).rf (he {} (fun _ => none) 0 [] .none [] [] (hr.in1.in1.deeper _)).rf R S h
end
def starD (d : D) : M (List D) := fun g => match d with
  | .tup ds => .ok ds g
  | .ref n => match g[n]? with
    | some (.lst ds) => .ok ds g
    | _ => .bad
  | _ => .bad
theorem da_star {p : Pos} (ha : DE X Ts E e te me) (hr : DA X Ts E es tr mr) (hs : starEach (.Starred e p :: es) X.env = (true, eval e X.env) :: starEach es X.env := by rfl) : DA X Ts E (.Starred e p :: es) (StX.tStar X.K te tr) (fun s => bnd (me s) fun x => bnd (starD x) fun xs => bnd (mr s) fun r => pur (xs ++ r)) := by
  refine ⟨StX.pa_star ha.pe hr.pe hs, fun ρ σ H s G Q R S h => ?_⟩
  refine ha.rf ρ σ H s G _ R S (Run.first h fun x G1 u ρ1 H1 st i h1 => ?_)
  have tail : ∀ {p : Addr} {ws : List V} {ds : List D}, IsL X.K ρ1 H1 ds ws → (SqT X.K H1 p ws ∨ SqL X.K H1 p ws) → u = .ref p → Run ⟨X.K, Ts, fw X.w⟩ ρ1 H1 (okL ⟨X.K, Ts, fw X.w⟩) (bnd (mr s) (fun r => pur (ds ++ r)) G1) Q E → ∃ p xs, u = V.ref p ∧ (SqT X.K H1 p xs ∨ SqL X.K H1 p xs) ∧ tr σ H1 fun ys H2 => Q (xs ++ ys) H2 := fun {p ws ds} hl hp e h2 => by
    refine ⟨p, ws, e, hp, ?_⟩
    refine hr.rf ρ1 σ H1 s G1 _ st.rel (S.step R st) (Run.first h2 fun y G2 v ρ2 H2 st2 j h3 => ?_)
    exact Run.ret (Ok := okL ⟨X.K, Ts, fw X.w⟩) st2.rel h3 ((IsL.step st.rel st2 hl).app j)
  unfold starD at h1
  cases x with
  | tup ds =>
    obtain ⟨p, ws, e, hp, hl⟩ := is_tup i
    exact tail hl (.inl hp) e h1
  | ref n =>
    unfold bnd at h1
    dsimp only at h1
    cases e1 : G1[n]? with
    | none => rw [e1] at h1; exact h1.elim
    | some cl =>
      rw [e1] at h1
      cases cl with
      | lst ds =>
        obtain ⟨p, ws, e, _, hp, hl⟩ := st.rel.lst e1 i
        exact tail hl (.inr (SqL.of hp)) e h1
      | dic _ => exact h1.elim
      | set _ => exact h1.elim
      | map _ => exact h1.elim
  | _ => exact h1.elim
def tyD (d : D) (g : GS) : Option String := match d with
  | .non => some "NoneType"
  | .bl _ => some "bool"
  | .int _ => some "int"
  | .str _ => some "str"
  | .tup _ => some "tuple"
  | .ref n => match g[n]? with
    | some (.lst _) => some "list"
    | some (.dic _) => some "dict"
    | _ => none
  | .scr _ => some "list"
  | .ins _ _ _ => none
  | .ty _ => none
  | .cls _ => none
  | .exc _ _ _ => none
  | .dct _ _ _ => none
def isiD (T : String) (ds : List D) : M D := fun g => match ds with
  | [x, .ty T'] => if T' = T then match tyD x g with
      | some a => match kitB a T with
        | some r => .ok (.bl r) g
        | none => .bad
      | none => .bad
    else .bad
  | _ => .bad
theorem tyx_of {ρ : List Addr} {G : GS} {H : Hp} (R : Rel C ρ G H) {d : D} {v : V} {a : String} (h : tyD d G = some a) (i : Is C.K ρ H d v) : TyX C.K H v (.type a) := by
  unfold tyD at h
  cases d with
  | non => cases h; rw [is_non i]; exact .base .non
  | bl b => cases h; rw [is_bl i]; exact .base (.bl b)
  | int b => cases h; rw [is_int i]; exact .base (.int b)
  | str b => cases h; rw [is_str i]; exact .base (.str b)
  | tup ds =>
    cases h
    obtain ⟨p, vs, rfl, hp, _⟩ := is_tup i
    rcases hp with (hp | ⟨o, hp⟩) | ⟨o, its, n, hk, hc, _⟩
    · exact .base (.tup hp)
    · exact .fTuple hp
    · exact .kTuple hk hc
  | ref n =>
    dsimp only at h
    split at h
    · rename_i ds e1
      cases h
      obtain ⟨p, vs, rfl, _, hp, _⟩ := R.lst e1 i
      exact .base (.lst hp)
    · rename_i ds e1
      cases h
      obtain ⟨p, vs, rfl, _, hp, _⟩ := R.dic e1 i
      exact .base (.dK hp)
    · cases h
  | scr ns =>
    cases h
    simp only [Is] at i
    obtain ⟨p, rfl, hp⟩ := i
    rcases hp with ⟨o, hp⟩ | ⟨o, its, n, hk, hc, _⟩
    · exact .base (.frz hp)
    · exact .kList hk hc
  | ins _ _ _ => cases h
  | ty _ => cases h
  | cls _ => cases h
  | exc _ _ _ => cases h
  | dct _ _ _ => cases h
theorem calld_isi {T : String} : CallD C (rIsi C.K) (isiD T) := by
  intro ρ G H ds vs Q E R i h
  unfold isiD at h
  split at h
  · rename_i x T'
    obtain ⟨v, w, rfl, i1, i2⟩ := isl_two i
    split at h
    · rename_i hT
      subst hT
      split at h
      · rename_i a ea
        split at h
        · rename_i r er
          have e2 : w = .ty T' := by simpa only [Is] using i2
          exact ⟨v, w, _, _, r, rfl, by rw [e2]; exact .ty _, tyx_of R ea i1, kit_ty er, Run.ret (Ok := okD C) R h isBl⟩
        · exact h.elim
      · exact h.elim
    · exact h.elim
  · exact h.elim
theorem de_ty {x : Str} {T : String} {p : Pos} (hg : Gl X x) (hm : X.mg x = none) (hv : bootBuiltins x = some (.type T)) (hn : x ≠ "__name__" := by decide) (hd : (x == ("__debug__" : Str)) = false := by decide) : DE X Ts E (.Name x p) (tC (.ty T)) (fun _ => pur (.ty T)) :=
  de_c (pe_bltn hg hm hv rfl hn hd) rfl fun _ _ => by simp only [Is]
def fldD (C0 : Addr) (f : Str) (x : D) : M D := match x with
  | .ins C ns ds => if C = C0 then match (ns.zip ds).lookup f with
      | some d => pur d
      | none => fail
    else fail
  | _ => fail
theorem lookup_zip {K : PySem.W.Frag} {ρ : List Addr} {H : Hp} {f : Str} {d : D} : ∀ {ns : List Str} {ds : List D} {vs : List V}, IsL K ρ H ds vs → (ns.zip ds).lookup f = some d → ∃ v, (ns.zip vs).lookup f = some v ∧ Is K ρ H d v
  | [], ds, vs, h, e => by simp at e
  | n :: ns, [], vs, h, e => by simp at e
  | n :: ns, d0 :: ds, vs, h, e => by
    simp only [IsL] at h
    obtain ⟨v, r, rfl, h1, h2⟩ := h
    rw [List.zip_cons_cons, List.lookup_cons] at e ⊢
    cases q : f == n with
    | true =>
      rw [q] at e
      cases e
      exact ⟨v, rfl, h1⟩
    | false =>
      rw [q] at e
      exact lookup_zip h2 e
theorem de_fld {C0 : Addr} {f : Str} (c : Cls X.K C0) (n : NoAttr X.K C0 f) (ha : DE X Ts E a ta ma) (hb : attributeBase a f X.env (eval a X.env) = eval a X.env := by rfl) : DE X Ts E (.Attribute a f pos) (tFld X.K ta f) (fun s => bnd (ma s) (fldD C0 f)) := by
  refine ⟨pe_fld ha.pe hb, fun ρ σ H s G Q R S h => ?_⟩
  refine ha.rf ρ σ H s G _ R S (Run.map R h fun d G1 v ρ1 H1 R1 i h1 => ?_)
  unfold fldD at h1
  cases d with
  | ins C ns ds =>
    dsimp only at h1
    by_cases hC : C = C0
    · subst hC
      rw [if_pos rfl] at h1
      simp only [Is] at i
      obtain ⟨p, dx, ws, fs, rfl, hp, hl, hi⟩ := i
      cases e : (ns.zip ds).lookup f with
      | some d =>
        rw [e] at h1
        obtain ⟨w, e1, e2⟩ := lookup_zip hi e
        have e1 : (ns.zip ws ++ fs).lookup f = some w := by rw [List.lookup_append, e1]; rfl
        exact ⟨p, C, dx, _, w, rfl, hp, c, n, e1, Run.ret (Ok := okD ⟨X.K, Ts, fw X.w⟩) R1 h1 e2⟩
      | none =>
        rw [e] at h1
        exact h1.elim
    · rw [if_neg hC] at h1
      exact h1.elim
  | _ => exact h1.elim
def MtD (C : Ct) (r : V → List V → Hp → VK → Prop) (T : String) (o : D → List D → M D) : Prop := ∀ ρ G H x ds u vs Q E, Rel C ρ G H → Is C.K ρ H x u → IsL C.K ρ H ds vs → Run C ρ H (okD C) (o x ds G) Q E → r u vs H Q
/-- the receiver is of that type, whatever the arguments do -/
def tyM (T : String) (x : D) : M D := fun g => if tyD x g = some T then .ok x g else .bad
theorem tyv_of {ρ : List Addr} {G : GS} {H : Hp} {T : String} (R : Rel C ρ G H) {d : D} {v : V} (hT : T = "list" ∨ T = "dict" ∨ T = "str") (h : tyD d G = some T) (i : Is C.K ρ H d v) : tyV C.K T v H := by
  unfold tyD at h
  cases d with
  | str x => cases h; rw [is_str i]; rfl
  | ref n =>
    dsimp only at h
    split at h
    · rename_i ds e1
      cases h
      obtain ⟨p, vs, rfl, _, hp, _⟩ := R.lst e1 i
      exact .inl ⟨rfl, vs, SqL.of hp⟩
    · rename_i ds e1
      cases h
      obtain ⟨p, vs, rfl, _, hp, _⟩ := R.dic e1 i
      exact .inr (.inr (.inl ⟨rfl, .inl ⟨vs, hp⟩⟩))
    · cases h
  | scr ns =>
    cases h
    simp only [Is] at i
    obtain ⟨p, rfl, hp⟩ := i
    exact .inl ⟨rfl, _, hp.sql⟩
  | non => cases h; simp at hT
  | bl b => cases h; simp at hT
  | int b => cases h; simp at hT
  | tup ds => cases h; simp at hT
  | ins _ _ _ => cases h
  | ty _ => cases h
  | cls _ => cases h
  | exc _ _ _ => cases h
  | dct _ _ _ => cases h
theorem de_bm {T id : String} {name : Str} {apos cpos : Pos} {r : V → List V → Hp → VK → Prop} {o : D → List D → M D} {ob : Expr} {to : TE} {mo : Sl → M D} (hT : T = "list" ∨ T = "dict" ∨ T = "str") (pa : PlainAttrs T) (slot : Slot T name id) (hty : typeOf (.builtin id) = pure (.type "method_descriptor")) (hm : MtR X id r) (hd : MtD ⟨X.K, Ts, fw X.w⟩ r T o) (ho : DE X Ts E ob to mo) (ha : DA X Ts E (e :: es) tr mr)
    (hbase : attributeBase ob name X.env (eval ob X.env) = eval ob X.env := by rfl)
    (hfew : ((backTo cpos (starEach (e :: es) X.env)).all (fun x => !x.1) && (backToKw cpos (keywordEach [] X.env)).all (fun x => x.1.isSome)
      && decide ((e :: es).length + ([] : List Keyword).length + (if ([] : List Keyword).isEmpty then 0 else 1) < 30)) = true := by rfl)
    (hline : (apos.endLine == cpos.line) = true := by rfl) (hs : starEach (e :: es) X.env = (false, eval e X.env) :: starEach es X.env := by rfl) (hplain : (backTo cpos (starEach es X.env)).any (·.1) = false := by rfl) :
    DE X Ts E (.Call (.Attribute ob name apos) (e :: es) [] cpos) (tBM X.K T r to tr) (fun s => bnd (mo s) fun x => bnd (tyM T x) fun x => bnd (mr s) (o x)) := by
  refine ⟨pe_bm pa slot hty hm ho.pe ha.pe hbase hfew hline hs hplain, fun ρ σ H s G Q R S h => ?_⟩
  refine ho.rf ρ σ H s G _ R S (Run.first h fun x G1 u ρ1 H1 st i h1 => ?_)
  unfold tyM at h1
  unfold bnd at h1
  dsimp only at h1
  split at h1
  · cases h1
  · rename_i x' g' e1
    split at e1
    · rename_i hx
      cases e1
      refine ⟨tyv_of (C := ⟨X.K, Ts, fw X.w⟩) st.rel hT hx i, ?_⟩
      exact ha.rf ρ1 σ H1 s G1 _ st.rel (S.step R st) (Run.first (k := o x) h1 fun ds G2 vs ρ2 H2 st2 j h2 => hd ρ2 G2 H2 x ds u vs Q E st2.rel (Is.step st.rel st2 i) j h2)
    · cases e1
  · rename_i e1
    split at e1 <;> cases e1
def appendD (x : D) (ds : List D) : M D := fun g => match x, ds with
  | .ref n, [d] => match g[n]? with
    | some (.lst xs) => if xs.length < LIM then .ok .non (g.set n (.lst (xs ++ [d]))) else .bad
    | _ => .bad
  | _, _ => .bad
theorem mtd_append : MtD C rAppend "list" appendD := by
  intro ρ G H x ds u vs Q E R i j h
  unfold appendD at h
  split at h
  · rename_i n d
    split at h
    · rename_i xs e1
      split at h
      · rename_i hc
        obtain ⟨p, ws, rfl, hn, hp, hl⟩ := R.lst e1 i
        obtain ⟨w, rfl, j2⟩ := isl_one j
        refine ⟨p, ws, w, rfl, rfl, hp, by rw [← hl.len]; exact lim_lt hc, ?_⟩
        exact h .non ρ _ (Step.write R hn hp (c := .lst (xs ++ [d])) ⟨_, rfl, hl.app (.cons j2 .nil)⟩) isNon
      · exact h.elim
    · exact h.elim
  · exact h.elim
def popAtD (x : D) (ds : List D) : M D := fun g => match x, ds with
  | .ref n, [.int i] => match g[n]? with
    | some (.lst xs) => if -(2 ^ 63) ≤ i ∧ i < 2 ^ 63 then match seqIndex? i xs.length with
        | some k => match xs[k]? with
          | some d => .ok d (g.set n (.lst (xs.eraseIdx k)))
          | none => .bad
        | none => .bad
      else .bad
    | _ => .bad
  | _, _ => .bad
theorem mtd_popAt : MtD C rPopAt "list" popAtD := by
  intro ρ G H x ds u vs Q E R i j h
  unfold popAtD at h
  split at h
  · rename_i n k0
    split at h
    · rename_i xs e1
      split at h
      · rename_i hc
        split at h
        · rename_i k ek
          split at h
          · rename_i d ed
            obtain ⟨p, ws, rfl, hn, hp, hl⟩ := R.lst e1 i
            obtain ⟨w, rfl, j2⟩ := isl_one j
            obtain ⟨y, e2, e3⟩ := hl.get ed
            refine ⟨p, ws, k0, k, y, rfl, by rw [is_int j2], hp, hc.1, hc.2, by rw [← hl.len]; exact ek, e2, ?_⟩
            have st := Step.write R hn hp (c := .lst (xs.eraseIdx k)) ⟨_, rfl, hl.erase k⟩
            exact h y ρ _ st (Is.step R st e3)
          · exact h.elim
        · exact h.elim
      · exact h.elim
    · exact h.elim
  · exact h.elim
end
end DL
namespace DL
open PySem PySem.Spec PyProof.Rows L2
open Classical
noncomputable section
variable {X : Cx} {Ts : List Addr} {E : XK} {a b c e : Expr} {ta tb tc te : TE} {ma mb mc me : Sl → M D} {pos : Pos} {C : Ct} {es : List Expr} {t u : TT} {mt mu : Sl → M Bool} {tr : TA} {mr : Sl → M (List D)}
structure DS (X : Cx) (Ts : List Addr) (E : XK) (st : Stmt) (t : TS) (m : MS) : Prop where
  pe : PS X st t
  rf : ∀ ρ σ H s G Dn, Rel ⟨X.K, Ts, fw X.w⟩ ρ G H → Sls X.K ρ H σ s → RunS ⟨X.K, Ts, fw X.w⟩ ρ H (m s G) Dn E → t Dn σ H
structure DSs (X : Cx) (Ts : List Addr) (E : XK) (st : List Stmt) (t : TS) (m : MS) : Prop where
  pe : PSs X st t
  rf : ∀ ρ σ H s G Dn, Rel ⟨X.K, Ts, fw X.w⟩ ρ G H → Sls X.K ρ H σ s → RunS ⟨X.K, Ts, fw X.w⟩ ρ H (m s G) Dn E → t Dn σ H
def bndS {α : Type} (m : M α) (k : α → GS → RS) : GS → RS := fun g => match m g with
  | .bad => .bad
  | .ok a g' => k a g'
  | .ex c d g' => .ex c d g'
theorem RunS.step {ρ ρ1 : List Addr} {G1 : GS} {H H1 : Hp} {r : RS} {Dn : Ends} (st : Step C ρ H ρ1 G1 H1) (h : RunS C ρ H r Dn E) : RunS C ρ1 H1 r Dn E := by
  cases r with
  | bad => exact h
  | nx d G' => exact fun v ρ' H' s' i => h v ρ' H' (st.trans s') i
  | rt d G' => exact fun v ρ' H' s' i => h v ρ' H' (st.trans s') i
  | bk d G' => exact fun v ρ' H' s' i => h v ρ' H' (st.trans s') i
  | ct d G' => exact fun v ρ' H' s' i => h v ρ' H' (st.trans s') i
  | ex c d G' => exact ExOk.step st h
theorem RunS.first {α β : Type} {ρ : List Addr} {G : GS} {H : Hp} {Ok : List Addr → Hp → α → β → Prop} {m : M α} {k : α → GS → RS} {Dn : Ends} {Q1 : β → Hp → Prop} (h : RunS C ρ H (bndS m k G) Dn E)
    (hk : ∀ a G1 v ρ1 H1, Step C ρ H ρ1 G1 H1 → Ok ρ1 H1 a v → RunS C ρ1 H1 (k a G1) Dn E → Q1 v H1) : Run C ρ H Ok (m G) Q1 E := by
  unfold bndS at h
  cases e : m G with
  | bad => rw [e] at h; exact h
  | ok a G1 =>
    rw [e] at h
    exact fun v ρ1 H1 st i => hk a G1 v ρ1 H1 st i (RunS.step st h)
  | ex c d G1 => rw [e] at h; exact h
theorem RunS.nx {ρ : List Addr} {G : GS} {H : Hp} {s : Sl} {σ : L2.St} {Dn : Ends} (R : Rel C ρ G H) (S : Sls C.K ρ H σ s) (h : RunS C ρ H (.nx s G) Dn E) : Dn.nx σ H := h σ ρ H (Step.refl R) S
def seqS (m1 m2 : MS) : MS := fun s g => match m1 s g with
  | .nx s' g' => m2 s' g'
  | r => r
def skipS : MS := fun s g => .nx s g
theorem dss_nil : DSs X Ts E [] tNext skipS := ⟨pss_nil, fun ρ σ H s G Dn R S h => RunS.nx R S h⟩
variable {st : Stmt} {sts sts2 : List Stmt} {tS uS : TS} {m1 m2 : MS}
theorem rf_seq (h1 : ∀ ρ σ H s G Dn, Rel ⟨X.K, Ts, fw X.w⟩ ρ G H → Sls X.K ρ H σ s → RunS ⟨X.K, Ts, fw X.w⟩ ρ H (m1 s G) Dn E → tS Dn σ H) (h2 : ∀ ρ σ H s G Dn, Rel ⟨X.K, Ts, fw X.w⟩ ρ G H → Sls X.K ρ H σ s → RunS ⟨X.K, Ts, fw X.w⟩ ρ H (m2 s G) Dn E → uS Dn σ H)
    (ρ : List Addr) (σ : L2.St) (H : Hp) (s : Sl) (G : GS) (Dn : Ends) (R : Rel ⟨X.K, Ts, fw X.w⟩ ρ G H) (S : Sls X.K ρ H σ s) (h : RunS ⟨X.K, Ts, fw X.w⟩ ρ H (seqS m1 m2 s G) Dn E) : tSeq tS uS Dn σ H := by
  refine h1 ρ σ H s G _ R S ?_
  unfold seqS at h
  cases e : m1 s G with
  | nx s' g' =>
    rw [e] at h
    intro σ' ρ' H' st' S'
    exact h2 ρ' σ' H' s' g' Dn st'.rel S' (RunS.step st' h)
  | bad => rw [e] at h; exact h
  | rt d g' => rw [e] at h; exact h
  | bk d g' => rw [e] at h; exact h
  | ct d g' => rw [e] at h; exact h
  | ex c d g' => rw [e] at h; exact h
theorem dss_cons (h1 : DS X Ts E st tS m1) (h2 : DSs X Ts E sts uS m2) : DSs X Ts E (st :: sts) (tSeq tS uS) (seqS m1 m2) := ⟨pss_cons h1.pe h2.pe, rf_seq h1.rf h2.rf⟩
def dropS (me : Sl → M D) : MS := fun s => bndS (me s) fun _ g => .nx s g
theorem ds_expr (he : DE X Ts E e te me) (hs : swapsWith e none pos.line X.env = pure false := by rfl) : DS X Ts E (.Expr e pos) (tDrop te) (dropS me) := by
  refine ⟨ps_expr he.pe hs, fun ρ σ H s G Dn R S h => ?_⟩
  exact he.rf ρ σ H s G _ R S (RunS.first h fun d G1 v ρ1 H1 st i h1 => RunS.nx st.rel (S.step R st) h1)
def brkS : MS := fun s g => .bk s g
theorem ds_break : DS X Ts E (.Break pos) tBreak brkS := ⟨ps_break, fun ρ σ H s G Dn R S h => h σ ρ H (Step.refl R) S⟩
def retS (me : Sl → M D) : MS := fun s => bndS (me s) fun d g => .rt d g
theorem ds_ret (he : DE X Ts E e te me) : DS X Ts E (.Return (some e) pos) (tRet te) (retS me) := by
  refine ⟨ps_ret he.pe, fun ρ σ H s G Dn R S h => ?_⟩
  exact he.rf ρ σ H s G _ R S (RunS.first h fun d G1 v ρ1 H1 st i h1 => h1 v ρ1 H1 (Step.refl st.rel) i)
def ifS (mc : Sl → M Bool) (m1 m2 : MS) : MS := fun s => bndS (mc s) fun b g => if b = true then m1 s g else m2 s g
theorem ds_if (hc : DT X Ts E c t mt) (ha : DSs X Ts E sts tS m1) (hb : DSs X Ts E sts2 uS m2) : DS X Ts E (.If c sts sts2 pos) (tIfS t tS uS) (ifS mt m1 m2) := by
  refine ⟨ps_if hc.pe ha.pe hb.pe, fun ρ σ H s G Dn R S h => ?_⟩
  refine hc.rf ρ σ H s G _ R S (RunS.first h fun d G1 v ρ1 H1 st i h1 => ?_)
  have i : d = v := i
  subst i
  cases d with
  | true =>
    rw [if_pos rfl] at h1 ⊢
    exact ha.rf ρ1 σ H1 s G1 Dn st.rel (S.step R st) h1
  | false =>
    rw [if_neg Bool.false_ne_true] at h1 ⊢
    exact hb.rf ρ1 σ H1 s G1 Dn st.rel (S.step R st) h1
def asgS (me : Sl → M D) (mg : D → Sl → M Sl) : MS := fun s => bndS (me s) fun d => bndS (mg d s) fun s' g => .nx s' g
theorem rf_asg {g : TG} {mg : D → Sl → M Sl} {own : List Nat} (he : ∀ ρ σ H s G Q, Rel ⟨X.K, Ts, fw X.w⟩ ρ G H → Sls X.K ρ H σ s → Run ⟨X.K, Ts, fw X.w⟩ ρ H (okD ⟨X.K, Ts, fw X.w⟩) (me s G) Q E → te σ H Q)
    (hg : ∀ ρ σ H s G d v (Q : L2.St → Hp → Prop), Rel ⟨X.K, Ts, fw X.w⟩ ρ G H → Sls X.K ρ H σ s → Is X.K ρ H d v → Run ⟨X.K, Ts, fw X.w⟩ ρ H (okG ⟨X.K, Ts, fw X.w⟩ own σ) (mg d s G) Q E → g v σ H Q)
    (ρ : List Addr) (σ : L2.St) (H : Hp) (s : Sl) (G : GS) (Dn : Ends) (R : Rel ⟨X.K, Ts, fw X.w⟩ ρ G H) (S : Sls X.K ρ H σ s) (h : RunS ⟨X.K, Ts, fw X.w⟩ ρ H (asgS me mg s G) Dn E) : tAsg te g Dn σ H := by
  refine he ρ σ H s G _ R S (RunS.first h fun d G1 v ρ1 H1 st i h1 => ?_)
  refine hg ρ1 σ H1 s G1 d v _ st.rel (S.step R st) i (RunS.first h1 fun s' G2 σ' ρ2 H2 st2 i2 h2 => ?_)
  exact RunS.nx st2.rel i2.1 h2
theorem ds_asg {tg : Expr} {g : TG} {mg : D → Sl → M Sl} {own : List Nat} (he : DE X Ts E e te me) (hg : DG X Ts E tg g mg own) (hs : swapsWithSole [tg] e pos.line X.env = pure false := by rfl) (hw : swappedStores [tg] e X.env = pure none := by rfl)
    (h1 : (assignEach [tg] X.env).map (·.2) = [assign tg X.env] := by rfl) : DS X Ts E (.Assign [tg] e pos) (tAsg te g) (asgS me mg) := ⟨ps_asg he.pe hg.pe hs hw h1, rf_asg he.rf hg.rf⟩
theorem ds_set {i : Nat} {x : Str} {pos' : Pos} (hN : X.N.Nodup) (hi : X.N[i]? = some x) (hx : Loc X.env.scope x) (he : DE X Ts E e te me) (hs : swapsWith e (some (.Name x pos')) pos.line X.env = pure false := by rfl)
    (hf : X.fn x = true ∨ X.env.scope.names.lookup x = some .local := by first | exact .inl rfl | exact .inr rfl | assumption) : DS X Ts E (.Assign [.Name x pos'] e pos) (tAsg te (gName i)) (asgS me (tgN i)) :=
  ⟨ps_set hN hi hx he.pe hs hf, rf_asg he.rf (dg_name (X := X) (E := E) (Ts := Ts) (pg_name (pos := pos') hN hi hx hf)).rf⟩
/-- o[i] = .. of a list -/
def setD (x i d : D) : M Unit := fun g => match x, i with
  | .ref n, .int k => match g[n]? with
    | some (.lst xs) => match ixN xs.length k with
      | some j => .ok () (g.set n (.lst (xs.set j d)))
      | none => .bad
    | _ => .bad
  | _, _ => .bad
def subG (mo mi : Sl → M D) (d : D) (s : Sl) : M Sl := bnd (mo s) fun x => bnd (mi s) fun i => bnd (setD x i d) fun _ => pur s
theorem run_set {ρ : List Addr} {G : GS} {H : Hp} {x i d : D} {u v w : V} {Q : Hp → Prop} {γ δ : Type} {Ok : List Addr → Hp → γ → δ → Prop} {k : Unit → M γ} {Q2 : δ → Hp → Prop} (R : Rel C ρ G H) (hx : Is C.K ρ H x u) (hi : Is C.K ρ H i v) (hd : Is C.K ρ H d w) (h : Run C ρ H Ok (bnd (setD x i d) k G) Q2 E)
    (hk : ∀ G1 H1, Step C ρ H ρ G1 H1 → Run C ρ H1 Ok (k () G1) Q2 E → Q H1) : rSetL u v w H Q := by
  unfold bnd setD at h
  cases x with
  | ref n =>
    cases i with
    | int k0 =>
      dsimp only at h
      cases e1 : G[n]? with
      | none => rw [e1] at h; exact h.elim
      | some cl =>
        cases cl with
        | dic _ => rw [e1] at h; exact h.elim
        | set _ => rw [e1] at h; exact h.elim
        | map _ => rw [e1] at h; exact h.elim
        | lst xs =>
          rw [e1] at h
          dsimp only at h
          cases e2 : ixN xs.length k0 with
          | none => rw [e2] at h; exact h.elim
          | some j =>
            rw [e2] at h
            obtain ⟨p, vs, rfl, hn, hp, hl⟩ := R.lst e1 hx
            have st := Step.write (o := .lst (vs.set j w)) R hn hp (c := .lst (xs.set j d)) ⟨_, rfl, hl.set hd⟩
            exact ⟨p, vs, k0, j, rfl, is_int hi, hp, by rw [← hl.len]; exact e2, hk _ _ st (Run.step st h)⟩
    | _ => exact h.elim
  | _ => cases i <;> exact h.elim
theorem dg_sub {o i : Expr} {to ti : TE} {mo mi : Sl → M D} (ho : DE X Ts E o to mo) (hi : DE X Ts E i ti mi)
    (ha : ∀ v, assign (.Subscript o i pos) X.env v = (do
      let ov ← holding [v] (eval o X.env)
      let iv ← holding [v, ov] (eval i X.env)
      standAt pos
      holding [v, ov, iv] (setItem ov iv v)
      release [v, ov, iv] []) := by intro _; rfl) : DG X Ts E (.Subscript o i pos) (gSub to ti rSetL) (subG mo mi) [] := by
  refine ⟨pg_sub ho.pe hi.pe set_list ha, fun ρ σ H s G d v Q R S i' h => ?_⟩
  refine ho.rf ρ σ H s G _ R S (Run.first h fun x G1 u ρ1 H1 st ix h1 => ?_)
  refine hi.rf ρ1 σ H1 s G1 _ st.rel (S.step R st) (Run.first h1 fun y G2 v2 ρ2 H2 st2 iy h2 => ?_)
  refine run_set st2.rel (Is.step st.rel st2 ix) iy (Is.step st.rel st2 (Is.step R st i')) h2 fun G3 H3 st3 h3 => ?_
  exact Run.ret (Ok := okG ⟨X.K, Ts, fw X.w⟩ [] σ) st3.rel h3 ⟨((S.step R st).step st.rel st2).step st2.rel st3, rfl, fun i _ => rfl⟩
/-- name op= e, of ints -/
def augI (f : Int → Int → Int) (i : Nat) (me : Sl → M D) : MS := fun s g => match s[i]? with
  | some (some (.int k)) => bndS (me s) (fun d g => match d with
    | .int j => .nx (s.set i (some (.int (f k j)))) g
    | _ => .bad) g
  | _ => .bad
theorem ds_aug {f : Int → Int → Int} {i : Nat} {x : Str} {op : Operator} {pos' : Pos} (hN : X.N.Nodup) (hi : X.N[i]? = some x) (hx : Loc X.env.scope x) (he : DE X Ts E e te me) (ho : PIp X op (ipI f)) (hf : X.fn x = true ∨ X.env.scope.names.lookup x = some .local := by first | exact .inl rfl | exact .inr rfl | assumption) :
    DS X Ts E (.AugAssign (.Name x pos') op e pos) (tAug i te (ipI f)) (augI f i me) := by
  refine ⟨ps_aug hN hi hx he.pe ho hf, fun ρ σ H s G Dn R S h => ?_⟩
  unfold augI at h
  split at h
  · rename_i k ek
    obtain ⟨v, e1, e2⟩ := S.at_ i _ ek
    rw [is_int e2] at e1
    refine ⟨_, e1, he.rf ρ σ H s G _ R S (RunS.first h fun d G1 v ρ1 H1 st i h1 => ?_)⟩
    split at h1
    · rename_i j
      refine ⟨k, j, rfl, is_int i, ?_⟩
      exact RunS.nx st.rel ((S.step R st).set isInt) h1
    · exact h1.elim
  · exact h.elim
def loopM (w : Itm) (tg : D → Sl → M Sl) (body : MS) : List D → MS
  | [] => fun s g => if w.ok g then .nx s g else .bad
  | x :: xs => fun s g => if w.ok g then match tg x s g with
      | .ok s1 g1 => match body s1 g1 with
        | .nx s2 g2 => loopM w tg body xs s2 g2
        | .ct s2 g2 => loopM w tg body xs s2 g2
        | .bk s2 g2 => .nx s2 g2
        | .rt d g2 => .rt d g2
        | .ex c d g2 => .ex c d g2
        | .bad => .bad
      | .ex c d g1 => .ex c d g1
      | .bad => .bad
    else .bad
def forS (mi : Sl → M Itm) (tg : D → Sl → M Sl) (body : MS) : MS := fun s => bndS (mi s) fun w => loopM w tg body w.items s
theorem ds_for {iter tg : Expr} {wi : TI} {g : TG} {mi : Sl → M Itm} {tgm : D → Sl → M Sl} {own : List Nat} (hp : PassesOwn (model X.prog X.w) X.A X.env X.xe) (hc : X.calm = true) (hi : DI X Ts E tg iter wi mi) (hg : DG X Ts E tg g tgm own) (hb : DSs X Ts E sts tS m1)
    (hs : ∀ x, foldedSetIterable iter X.env x = pure x := by intro _; rfl) : DS X Ts E (.For tg iter sts [] pos) (tFor wi g tS) (forS mi tgm m1) := by
  refine ⟨ps_for hp hc hi.pe hg.pe hb.pe hs, fun ρ σ H s G Dn R S h => ?_⟩
  refine hi.rf ρ σ H s G _ R S (RunS.first h fun w G1 J ρ1 H1 st1 wk h1 => ?_)
  have wk : Walk ⟨X.K, Ts, fw X.w⟩ w ρ1 H1 J := wk
  refine ⟨fun i m σ' H' => m = w.items.length - i ∧ i ≤ w.items.length ∧ ∃ ρ' G' s', Step ⟨X.K, Ts, fw X.w⟩ ρ1 H1 ρ' G' H' ∧ Sls X.K ρ' H' σ' s' ∧ RunS ⟨X.K, Ts, fw X.w⟩ ρ' H' (loopM w tgm m1 (w.items.drop i) s' G') Dn E,
    ⟨w.items.length, by simp, Nat.zero_le _, ρ1, G1, s, Step.refl st1.rel, S.step R st1, h1⟩, ?_⟩
  rintro i m σ' H' ⟨rfl, hile, ρ', G', s', st, S', h2⟩
  by_cases hlt : i < w.items.length
  · have hd : w.items.drop i = w.items[i] :: w.items.drop (i + 1) := List.drop_eq_getElem_cons hlt
    have hx : w.items[i]? = some w.items[i] := List.getElem?_eq_getElem hlt
    rw [hd] at h2
    unfold loopM at h2
    by_cases hok : w.ok G'
    · rw [if_pos hok] at h2
      refine .inr ⟨wk.go i ρ' G' H' _ st hok hx, fun σ2 H2 => ∃ ρ2 G2 s2, Step ⟨X.K, Ts, fw X.w⟩ ρ1 H1 ρ2 G2 H2 ∧ Sls X.K ρ2 H2 σ2 s2 ∧ RunS ⟨X.K, Ts, fw X.w⟩ ρ2 H2 (loopM w tgm m1 (w.items.drop (i + 1)) s2 G2) Dn E,
        fun σ2 H2 q => ⟨w.items.length - (i + 1), by omega, rfl, hlt, q⟩, fun x H2 hy => ?_⟩
      obtain ⟨st2, hx2⟩ := wk.yld i ρ' G' H' x H2 _ st hok hx hy
      have st02 := st.trans st2
      refine hg.rf ρ' σ' H2 s' G' _ x _ st2.rel (S'.step st.rel st2) hx2 ?_
      have h2 := RunS.step st2 h2
      cases e1 : tgm w.items[i] s' G' with
      | bad => rw [e1] at h2; exact h2.elim
      | ex _ _ _ => rw [e1] at h2; exact h2
      | ok s1 g1 =>
        rw [e1] at h2
        dsimp only at h2
        intro σ3 ρ3 H3 st3 ⟨S3, _, _⟩
        have st03 := st02.trans st3
        have h3 := RunS.step st3 h2
        refine hb.rf ρ3 σ3 H3 s1 g1 _ st3.rel S3 ?_
        cases e2 : m1 s1 g1 with
        | bad => rw [e2] at h3; exact h3.elim
        | nx s2 g2 =>
          rw [e2] at h3
          intro σ4 ρ4 H4 st4 S4
          exact ⟨ρ4, g2, s2, st03.trans st4, S4, RunS.step st4 h3⟩
        | ct s2 g2 =>
          rw [e2] at h3
          intro σ4 ρ4 H4 st4 S4
          exact ⟨ρ4, g2, s2, st03.trans st4, S4, RunS.step st4 h3⟩
        | bk s2 g2 => rw [e2] at h3; exact h3
        | rt s2 g2 => rw [e2] at h3; exact h3
        | ex _ s2 g2 => rw [e2] at h3; exact h3
    · rw [if_neg hok] at h2
      exact h2.elim
  · have e : i = w.items.length := by omega
    subst e
    rw [List.drop_length] at h2
    unfold loopM at h2
    by_cases hok : w.ok G'
    · rw [if_pos hok] at h2
      exact .inl ⟨wk.stop ρ' G' H' st hok, RunS.nx st.rel S' h2⟩
    · rw [if_neg hok] at h2
      exact h2.elim
def whileM (mc : Sl → M Bool) (body : MS) : Nat → MS
  | 0 => fun _ _ => .bad
  | n + 1 => fun s g => match mc s g with
    | .ok true g1 => match body s g1 with
      | .nx s2 g2 => whileM mc body n s2 g2
      | .ct s2 g2 => whileM mc body n s2 g2
      | .bk s2 g2 => .nx s2 g2
      | .rt d g2 => .rt d g2
      | .ex c d g2 => .ex c d g2
      | .bad => .bad
    | .ok false g1 => .nx s g1
    | .ex c d g1 => .ex c d g1
    | .bad => .bad
def whileS (mc : Sl → M Bool) (body : MS) : MS := fun s g => if h : ∃ n, whileM mc body n s g ≠ .bad then whileM mc body h.choose s g else .bad
theorem whileM_mono {mc : Sl → M Bool} {body : MS} : ∀ {n m : Nat} {s : Sl} {g : GS}, n ≤ m → whileM mc body n s g ≠ .bad → whileM mc body m s g = whileM mc body n s g
  | 0, m, s, g, _, h => absurd rfl h
  | n + 1, 0, s, g, hl, h => absurd hl (Nat.not_succ_le_zero n)
  | n + 1, m + 1, s, g, hl, h => by
    unfold whileM at h ⊢
    cases e1 : mc s g with
    | bad => rfl
    | ex c d g1 => rfl
    | ok b g1 =>
      rw [e1] at h
      cases b with
      | false => rfl
      | true =>
        dsimp only at h ⊢
        cases e2 : body s g1 with
        | bad => rfl
        | nx s2 g2 => rw [e2] at h; exact whileM_mono (by omega) h
        | ct s2 g2 => rw [e2] at h; exact whileM_mono (by omega) h
        | bk s2 g2 => rfl
        | rt s2 g2 => rfl
        | ex _ s2 g2 => rfl
theorem whileS_eq {mc : Sl → M Bool} {body : MS} {n : Nat} {s : Sl} {g : GS} (h : whileM mc body n s g ≠ .bad) : whileS mc body s g = whileM mc body n s g := by
  have he : ∃ n, whileM mc body n s g ≠ .bad := ⟨n, h⟩
  unfold whileS
  rw [dif_pos he]
  rcases Nat.le_total he.choose n with hl | hl
  · exact (whileM_mono hl he.choose_spec).symm
  · exact whileM_mono hl h
theorem ds_while (hp : PassesOwn (model X.prog X.w) X.A X.env X.xe) (hc : DT X Ts E c t mt) (hb : DSs X Ts E sts tS m1) : DS X Ts E (.While c sts [] pos) (tWhile t tS) (whileS mt m1) := by
  refine ⟨ps_while hp hc.pe hb.pe, fun ρ σ H s G Dn R S h => ?_⟩
  have hn : ∃ n, RunS ⟨X.K, Ts, fw X.w⟩ ρ H (whileM mt m1 n s G) Dn E := by
    unfold whileS at h
    split at h
    · exact ⟨_, h⟩
    · exact h.elim
  obtain ⟨n0, h0⟩ := hn
  refine ⟨fun n σ' H' => ∃ ρ' G' s', Rel ⟨X.K, Ts, fw X.w⟩ ρ' G' H' ∧ Sls X.K ρ' H' σ' s' ∧ RunS ⟨X.K, Ts, fw X.w⟩ ρ' H' (whileM mt m1 n s' G') Dn E, ⟨n0, ρ, G, s, R, S, h0⟩, ?_⟩
  rintro n σ' H' ⟨ρ', G', s', R', S', h2⟩
  cases n with
  | zero => exact h2.elim
  | succ n =>
    unfold whileM at h2
    refine hc.rf ρ' σ' H' s' G' _ R' S' ?_
    cases e1 : mt s' G' with
    | bad => rw [e1] at h2; exact h2.elim
    | ex c d g1 => rw [e1] at h2; exact h2
    | ok b g1 =>
      rw [e1] at h2
      intro b' ρ1 H1 st1 eb
      have eb : b = b' := eb
      subst eb
      have h3 := RunS.step st1 h2
      cases b with
      | false =>
        rw [if_neg Bool.false_ne_true]
        exact RunS.nx st1.rel (S'.step R' st1) h3
      | true =>
        rw [if_pos rfl]
        dsimp only at h3
        refine ⟨fun σ2 H2 => ∃ ρ2 G2 s2, Rel ⟨X.K, Ts, fw X.w⟩ ρ2 G2 H2 ∧ Sls X.K ρ2 H2 σ2 s2 ∧ RunS ⟨X.K, Ts, fw X.w⟩ ρ2 H2 (whileM mt m1 n s2 G2) Dn E, fun σ2 H2 q => ⟨n, Nat.lt_succ_self n, q⟩, ?_⟩
        refine hb.rf ρ1 σ' H1 s' g1 _ st1.rel (S'.step R' st1) ?_
        cases e2 : m1 s' g1 with
        | bad => rw [e2] at h3; exact h3.elim
        | nx s2 g2 =>
          rw [e2] at h3
          intro σ4 ρ4 H4 st4 S4
          exact ⟨ρ4, g2, s2, st4.rel, S4, RunS.step st4 h3⟩
        | ct s2 g2 =>
          rw [e2] at h3
          intro σ4 ρ4 H4 st4 S4
          exact ⟨ρ4, g2, s2, st4.rel, S4, RunS.step st4 h3⟩
        | bk s2 g2 => rw [e2] at h3; exact h3
        | rt s2 g2 => rw [e2] at h3; exact h3
        | ex _ s2 g2 => rw [e2] at h3; exact h3
end
end DL
namespace DL
open PySem PySem.Spec PyProof.Rows L2
open Classical
noncomputable section
variable {X : Cx} {Ts : List Addr} {E : XK} {a b c e : Expr} {ta tb tc te : TE} {ma mb mc me : Sl → M D} {pos : Pos} {C : Ct} {es : List Expr} {t u : TT} {mt mu : Sl → M Bool} {tr : TA} {mr : Sl → M (List D)}
mutual
def D.und (n : Nat) : D → Bool
  | .non => true
  | .bl _ => true
  | .int _ => true
  | .str _ => true
  | .tup ds => undL n ds
  | .ref m => decide (m < n)
  | .ins _ _ ds => undL n ds
  | .scr _ => true
  | .ty _ => true
  | .cls _ => true
  | .exc _ _ d => d.und n
  | .dct _ _ ds => undL n ds
def undL (n : Nat) : List D → Bool
  | [] => true
  | d :: ds => d.und n && undL n ds
end
def Cell.below (n : Nat) : Cell → Bool
  | .lst ds => undL n ds
  | .dic ds => ds.all fun p => p.2.und n
  | .set _ => true
  | .map ds => ds.all fun p => p.2.und n
theorem prefix_get {α : Type} {l m : List α} (h : l <+: m) {i : Nat} {x : α} (hi : i < l.length) (e : m[i]? = some x) : l[i]? = some x := by
  obtain ⟨t, rfl⟩ := h
  rwa [List.getElem?_append_left hi] at e
mutual
theorem Is.trim {K : PySem.W.Frag} {ρ ρ' : List Addr} {H : Hp} (hp : ρ <+: ρ') : ∀ (d : D) (v : V), d.und ρ.length = true → Is K ρ' H d v → Is K ρ H d v
  | .non, v, _, h => by simpa only [Is] using h
  | .bl b, v, _, h => by simpa only [Is] using h
  | .int i, v, _, h => by simpa only [Is] using h
  | .str x, v, _, h => by simpa only [Is] using h
  | .tup ds, v, hb, h => by
    simp only [Is] at h ⊢
    obtain ⟨a, vs, e, h1, h2⟩ := h
    exact ⟨a, vs, e, h1, IsL.trim hp ds vs (by simpa only [D.und] using hb) h2⟩
  | .ref n, v, hb, h => by
    simp only [Is] at h ⊢
    obtain ⟨a, e, h1⟩ := h
    exact ⟨a, e, prefix_get hp (by simpa only [D.und, decide_eq_true_eq] using hb) h1⟩
  | .ins c ns ds, v, hb, h => by
    simp only [Is] at h ⊢
    obtain ⟨a, dx, vs, fs, e, h1, h2, h3⟩ := h
    exact ⟨a, dx, vs, fs, e, h1, h2, IsL.trim hp ds vs (by simpa only [D.und] using hb) h3⟩
  | .scr ns, v, _, h => by simpa only [Is] using h
  | .ty n, v, _, h => by simpa only [Is] using h
  | .cls c, v, _, h => by simpa only [Is] using h
  | .exc a q d, v, hb, h => by
    simp only [Is] at h ⊢
    obtain ⟨e, u, h1, h2⟩ := h
    exact ⟨e, u, h1, Is.trim hp d u (by simpa only [D.und] using hb) h2⟩
  | .dct hf ks ds, v, hb, h => by
    simp only [Is] at h ⊢
    obtain ⟨a, ob, L, vs, e, h1, h2, h5⟩ := h
    exact ⟨a, ob, L, vs, e, h1, h2, IsL.trim hp ds vs (by simpa only [D.und] using hb) h5⟩
theorem IsL.trim {K : PySem.W.Frag} {ρ ρ' : List Addr} {H : Hp} (hp : ρ <+: ρ') : ∀ (ds : List D) (vs : List V), undL ρ.length ds = true → IsL K ρ' H ds vs → IsL K ρ H ds vs
  | [], vs, _, h => by simpa only [IsL] using h
  | d :: ds, vs, hb, h => by
    simp only [IsL] at h ⊢
    simp only [undL, Bool.and_eq_true] at hb
    obtain ⟨v, r, e, h1, h2⟩ := h
    exact ⟨v, r, e, Is.trim hp d v hb.1 h1, IsL.trim hp ds r hb.2 h2⟩
end
theorem IsK.trim {K : PySem.W.Frag} {ρ ρ' : List Addr} {H : Hp} (hp : ρ <+: ρ') : ∀ {ds : List (Key × D)} {vs : List (Key × V)}, ds.all (fun p => p.2.und ρ.length) = true → IsK K ρ' H ds vs → IsK K ρ H ds vs
  | _, _, _, .nil => .nil
  | _, _, hb, .cons h t => by
    rw [List.all_cons, Bool.and_eq_true] at hb
    exact .cons ⟨h.1, Is.trim hp _ _ hb.1 h.2⟩ (IsK.trim hp hb.2 t)
theorem IsN.trim {K : PySem.W.Frag} {ρ ρ' : List Addr} {H : Hp} (hp : ρ <+: ρ') : ∀ {ds : List (DN.NK × D)} {L : List DN.DEnt}, ds.all (fun p => p.2.und ρ.length) = true → IsN K ρ' H ds L → IsN K ρ H ds L
  | _, _, _, .nil => .nil
  | _, _, hb, .cons h t => by
    rw [List.all_cons, Bool.and_eq_true] at hb
    exact .cons ⟨h.1, h.2.1, Is.trim hp _ _ hb.1 h.2.2⟩ (IsN.trim hp hb.2 t)
theorem CellIs.trim {K : PySem.W.Frag} {ρ ρ' : List Addr} {H : Hp} (hp : ρ <+: ρ') {fo : Fo} {a : Addr} {c : Cell} {o : HO} (hb : c.below ρ.length = true) (h : CellIs K ρ' H fo a c o) : CellIs K ρ H fo a c o := by
  cases c with
  | lst ds => obtain ⟨vs, e, h⟩ := h; exact ⟨vs, e, h.trim hp _ _ hb⟩
  | dic ds => obtain ⟨vs, e, h⟩ := h; exact ⟨vs, e, IsK.trim hp hb h⟩
  | set ks => exact h
  | map ds => obtain ⟨L, e, h⟩ := h; exact ⟨L, e, IsN.trim hp hb h⟩
def belowG (n : Nat) (g : GS) : Bool := g.all (Cell.below n)
theorem Step.cut {ρ ρ' : List Addr} {G G' : GS} {H H' : Hp} (R : Rel C ρ G H) (st : Step C ρ H ρ' G' H') (hb : belowG G.length (G'.take G.length) = true) : Step C ρ H ρ (G'.take G.length) H' := by
  have hl : ρ.length = G.length := R.len
  have hle : ρ.length ≤ ρ'.length := st.pre.length_le
  refine ⟨List.prefix_refl _, st.ext, ⟨?_, st.rel.nd.sublist st.pre.sublist, fun i c a h1 h2 => ?_, st.rel.tab⟩, fun a h n => absurd h n⟩
  · rw [List.length_take, ← st.rel.len, ← hl]
    omega
  · have hi : i < G.length := by
      have := (List.getElem?_eq_some_iff.mp h1).1
      rw [List.length_take] at this
      omega
    have hc : c.below ρ.length = true := by
      rw [hl]
      exact List.all_eq_true.mp hb c (List.mem_of_getElem? h1)
    rw [List.getElem?_take_of_lt hi] at h1
    obtain ⟨o, e, q⟩ := st.rel.cell i c a h1 (ix_pre st.pre h2)
    exact ⟨o, e, CellIs.trim st.pre hc q⟩
/-- new cells that nothing names are forgotten -/
def gcR (n : Nat) : R D → R D
  | .ok d g => if (d.und n && belowG n (g.take n)) = true then .ok d (g.take n) else .ok d g
  | .ex c d g => if (d.und n && belowG n (g.take n)) = true then .ex c d (g.take n) else .ex c d g
  | .bad => .bad
theorem Run.gc {ρ : List Addr} {G : GS} {H : Hp} {r : R D} {Q : VK} (R : Rel C ρ G H) (h : Run C ρ H (okD C) (gcR G.length r) Q E) : Run C ρ H (okD C) r Q E := by
  cases r with
  | bad => exact h
  | ok d g =>
    unfold gcR at h
    dsimp only at h
    by_cases hc : (d.und G.length && belowG G.length (g.take G.length)) = true
    · rw [if_pos hc] at h
      rw [Bool.and_eq_true] at hc
      intro v ρ' H' st i
      exact h v ρ H' (st.cut R hc.2) (Is.trim st.pre _ _ (by rw [R.len]; exact hc.1) i)
    · rw [if_neg hc] at h
      exact h
  | ex c d g =>
    unfold gcR at h
    dsimp only at h
    by_cases hc : (d.und G.length && belowG G.length (g.take G.length)) = true
    · rw [if_pos hc] at h
      rw [Bool.and_eq_true] at hc
      intro p v ρ' H' st e i
      exact h p v ρ H' (st.cut R hc.2) e (Is.trim st.pre _ _ (by rw [R.len]; exact hc.1) i)
    · rw [if_neg hc] at h
      exact h
def endR : RS → R D
  | .rt d g => .ok d g
  | .nx _ g => .ok .non g
  | .ex c d g => .ex c d g
  | _ => .bad
/-- np parameters, k slots -/
def fnM (np k : Nat) (ms : MS) (ds : List D) : M D := fun g => if ds.length = np then gcR g.length (endR (ms (ds.map some ++ List.replicate (k - np) none) g)) else .bad
def spD (C : Ct) (F : List D → M D) : Sp := fun vs H Q E => ∃ ρ G ds, Rel C ρ G H ∧ IsL C.K ρ H ds vs ∧ Run C ρ H (okD C) (F ds G) Q E
theorem sls_start {K : PySem.W.Frag} {ρ : List Addr} {H : Hp} {N : List Str} {ds : List D} {vs : List V} {n : Nat} (h : IsL K ρ H ds vs) (hn : ds.length = n) : Sls K ρ H (L2.start N vs) (ds.map some ++ List.replicate (N.length - n) none) := by
  have hl : ds.length = vs.length := h.len
  unfold L2.start
  refine ⟨by rw [List.length_append, List.length_append, List.length_map, List.length_map, List.length_replicate, List.length_replicate, ← hl, hn], fun i d e => ?_⟩
  by_cases hi : i < ds.length
  · rw [List.getElem?_append_left (by rw [List.length_map]; exact hi), List.getElem?_map] at e
    cases q : ds[i]? with
    | none => rw [q] at e; cases e
    | some d' =>
      rw [q] at e
      cases e
      obtain ⟨v, e1, e2⟩ := h.get q
      exact ⟨v, by rw [List.getElem?_append_left (by rw [List.length_map, ← hl]; exact hi), List.getElem?_map, e1]; rfl, e2⟩
  · rw [List.getElem?_append_right (by rw [List.length_map]; omega), List.getElem?_replicate] at e
    split at e <;> cases e
section
variable {P : Program} {w : World} {K : PySem.W.Frag} {mg : Str → Option Value} {base : Heap} {x qual : Str} {params : Arguments} {body : List Stmt} {scope : Scope} {dvs : List V} {kws : List (Str × V)} {p : Str × Option Str} {fd : FuncData}
/-- the def's own code object is the one that the table belongs to -/
theorem fn_D {N ps : List Str} {k : Nat} {ms : MS} (F : FunD K x qual params body scope dvs kws (He.fAd K p) fd) (S : FnScope N ps scope) (np nN : Nat) (hnp : ps.length = np) (hnN : N.length = nN)
    (hbody : ∀ (A : Around) (outer : List Env) (s : Shared) (H : Hp) (E : XK), Room k (A.deeper (envOfC qual scope s.heap.objs.size (He.fAd K p) (.ref (He.codeOf K p)))) →
      ∃ t, DSs (cxOf (L2.CX P w) P w K mg base N qual scope (He.fAd K p) (.ref (He.codeOf K p)) A outer s H E) Ts E body t ms) :
    FnOk P w K mg base (L2.CX P w) (k + 1) (He.fAd K p) fd ps (spD ⟨K, Ts, fw w⟩ (fnM np nN ms)) := by
  obtain ⟨oc, od, dV, kV, doc, pm, an, cdv, ct, osl, rfl, lk, hcd, _, _⟩ := F.ex
  obtain ⟨cc, rfl⟩ := He.codeIn_ref hcd
  have ec : He.codeOf K p = cc := He.codeOf_eq lk rfl
  subst hnp hnN
  refine fn_of lk hcd S (fun vs H Q E h => ?_) fun A outer s H vs Q E hr h => ?_
  · obtain ⟨ρ, G, ds, R, i, h⟩ := h
    unfold fnM at h
    by_cases hd : ds.length = ps.length
    · rw [← hd]; exact i.len.symm
    · rw [if_neg hd] at h
      exact h.elim
  · obtain ⟨ρ, G, ds, R, i, h⟩ := h
    unfold fnM at h
    by_cases hd : ds.length = ps.length
    · rw [if_pos hd] at h
      have h := Run.gc R h
      subst ec
      obtain ⟨t, ht⟩ := hbody A outer s H E hr
      refine ⟨t, ht.pe, ht.rf ρ (L2.start N vs) H _ G _ R (sls_start i hd) ?_⟩
      generalize hrs : ms (ds.map some ++ List.replicate (N.length - ps.length) none) G = rs at h ⊢
      cases rs with
      | bad => exact h
      | bk _ _ => exact h.elim
      | ct _ _ => exact h.elim
      | rt d g => exact h
      | ex c d g => exact h
      | nx s' g => exact fun σ' ρ' H' st _ => h .non ρ' H' st isNon
    · rw [if_neg hd] at h
      exact h.elim
end
/-- a def as callers see it -/
structure Own (P : Program) (w : World) (K : PySem.W.Frag) (mg : Str → Option Value) (base : Heap) (Ts : List Addr) (k : Nat) (x : Str) (F : List D → M D) : Prop where
  ex : ∃ (f : Addr) (fd : FuncData) (ps : List Str), FnOk P w K mg base (L2.CX P w) k f fd ps (spD ⟨K, Ts, fw w⟩ F) ∧ mg x = some (.ref f) ∧ PySem.W.keepIn K (.ref f) = true ∧ Binds K fd ps []
abbrev PsE (X : Cx) (E : XK) : Prop := Passes (L2.CX X.prog X.w) X E
theorem psE_of {P : Program} {w : World} {K : PySem.W.Frag} {mg : Str → Option Value} {base : Heap} {N : List Str} {qual : Str} {scope : Scope} {f : Addr} {cd : Value} {A : Around} {outer : List Env} {s : Shared} {H : Hp} {E : XK} :
    PsE (cxOf (L2.CX P w) P w K mg base N qual scope f cd A outer s H E) E := passes_call (takes_of (E := E) rfl rfl rfl rfl) fun _ _ _ _ h => h
theorem psE0 : PsE X E0 := fun _ _ _ _ _ _ _ ⟨_, _, _, _, _, _, _, _, _, _, _, _, h⟩ => h.elim
theorem rf_call {F : List D → M D} (ha : DA X Ts E es tr mr) (ρ : List Addr) (σ : L2.St) (H : Hp) (s : Sl) (G : GS) (Q : VK) (R : Rel ⟨X.K, Ts, fw X.w⟩ ρ G H) (S : Sls X.K ρ H σ s) (h : Run ⟨X.K, Ts, fw X.w⟩ ρ H (okD ⟨X.K, Ts, fw X.w⟩) (bnd (mr s) F G) Q E) : tCall (spD ⟨X.K, Ts, fw X.w⟩ F) [] E tr σ H Q := by
  refine ha.rf ρ σ H s G _ R S (Run.map R h fun ds G1 vs ρ1 H1 R1 i h1 => ?_)
  exact ⟨ρ1, G1, ds, R1, by rw [List.append_nil]; exact i, h1⟩
theorem de_own {k : Nat} {x : Str} {F : List D → M D} {p pos : Pos} (h : Own X.prog X.w X.K X.mg X.base Ts k x F) (hr : Room k X.A) (hg : Gl X x) (hx : PsE X E) (ha : DA X Ts E (e :: es) tr mr) (hdb : (x == ("__debug__" : Str)) = false := by decide)
    (he : starEach (e :: es) X.env = (false, eval e X.env) :: starEach es X.env := by rfl) (hpl : (backTo pos (starEach es X.env)).any (·.1) = false := by rfl) :
    DE X Ts E (.Call (.Name x p) (e :: es) [] pos) (tCall (spD ⟨X.K, Ts, fw X.w⟩ F) [] E tr) (fun s => bnd (mr s) F) := by
  obtain ⟨f, fd, ps, hF, hm, hk, hb⟩ := h.ex
  exact ⟨pe_call hF hr hg hm hk hb .nil hx ha.pe hdb he hpl, rf_call ha⟩
/-- the script as data: locked or of the written part; or a list that may be written -/
theorem script_in {K : PySem.W.Frag} {ff : Fo} {H : Hp} {a : Addr} {ns : List Int} (hT : ∀ P ∈ Ts, GxR.TabG H P) (h : SqL K H a (ns.map V.int)) :
    (Rel ⟨K, Ts, ff⟩ [] [] H ∧ IsL K [] H [.scr ns] [.ref a]) ∨ (Rel ⟨K, Ts, ff⟩ [a] [.lst (ns.map D.int)] H ∧ IsL K [a] H [.ref 0] [.ref a]) := by
  have all : ∀ {ns : List Int} {ρ : List Addr}, IsL K ρ H (ns.map D.int) (ns.map V.int) := fun {ns ρ} => by
    induction ns with
    | nil => exact .nil
    | cons n ns ih => exact .cons isInt ih
  have fz : FzL K H a (ns.map V.int) → (Rel ⟨K, Ts, ff⟩ [] [] H ∧ IsL K [] H [.scr ns] [.ref a]) := fun h1 => by
    refine ⟨⟨rfl, List.nodup_nil, fun i c a' e => ?_, hT⟩, .cons ?_ .nil⟩
    · simp at e
    · simp only [Is]
      exact ⟨a, rfl, h1⟩
  rcases h with (h | h) | h
  · refine .inr ⟨⟨rfl, by simp, fun i c a' e e' => ?_, hT⟩, .cons ?_ .nil⟩
    · cases i with
      | zero =>
        have e : Cell.lst (ns.map D.int) = c := by simpa using e
        have e' : a = a' := by simpa using e'
        subst e e'
        exact ⟨_, h, _, rfl, all⟩
      | succ i => simp at e
    · simp only [Is]
      exact ⟨a, rfl, rfl⟩
  · exact .inl (fz (.inl h))
  · exact .inl (fz (.inr h))
theorem law_in {C : Ct} {F : List D → M D} {H : Hp} {a : Addr} {ns : List Int} (hT : ∀ P ∈ C.Ts, GxR.TabG H P) (h : SqL C.K H a (ns.map V.int)) (h1 : ∃ g, F [.scr ns] [] = .ok (.bl true) g) (h2 : ∃ g, F [.ref 0] [.lst (ns.map D.int)] = .ok (.bl true) g) :
    spD C F [.ref a] H (fun v _ => v = .bl true) fun _ _ _ => False := by
  obtain ⟨K, Ts, ff⟩ := C
  rcases script_in (ff := ff) hT h with ⟨R, i⟩ | ⟨R, i⟩
  · obtain ⟨g, e⟩ := h1
    exact ⟨[], [], _, R, i, by rw [e]; exact fun v ρ' H' st i => is_bl i⟩
  · obtain ⟨g, e⟩ := h2
    exact ⟨[a], _, _, R, i, by rw [e]; exact fun v ρ' H' st i => is_bl i⟩
end
end DL
namespace DL
open PySem PySem.Spec PyProof.Rows L2
open Classical
noncomputable section
variable {X : Cx} {Ts : List Addr} {E : XK} {a b c e : Expr} {ta tb tc te : TE} {ma mb mc me : Sl → M D} {pos : Pos} {C : Ct} {es : List Expr} {t u : TT} {mt mu : Sl → M Bool} {tr : TA} {mr : Sl → M (List D)}
theorem hu65 {k : Nat} {A : Around} (hr : Room k A) : A.units + 65 < cLine := by
  have := hr.un
  omega
theorem hu64 {k : Nat} {A : Around} (hr : Room k A) : A.units + 64 < cLine := by
  have := hr.un
  omega
theorem pown_of {P : Program} {w : World} {K : PySem.W.Frag} {mg : Str → Option Value} {base : Heap} {N : List Str} {qual : Str} {scope : Scope} {f : Addr} {cd : Value} {A : Around} {outer : List Env} {s : Shared} {H : Hp} {E : XK} :
    PassesOwn (model P w) (cxOf (L2.CX P w) P w K mg base N qual scope f cd A outer s H E).A (cxOf (L2.CX P w) P w K mg base N qual scope f cd A outer s H E).env (cxOf (L2.CX P w) P w K mg base N qual scope f cd A outer s H E).xe :=
  passes_of (X := cxOf (L2.CX P w) P w K mg base N qual scope f cd A outer s H E) rfl
def kindB (a : Option NameKind) (k : NameKind) : Bool := match a, k with
  | some .local, .local => true
  | some .cell, .cell => true
  | some .free, .free => true
  | some .globalImplicit, .globalImplicit => true
  | some .globalExplicit, .globalExplicit => true
  | _, _ => false
theorem kindB_ok {a : Option NameKind} {k : NameKind} (h : kindB a k = true) : a = some k := by
  unfold kindB at h
  split at h <;> first | rfl | cases h
def ixB (N : List Str) (p : Str × Nat) : Bool := match N[p.2]? with
  | some y => y == p.1
  | none => false
def blkB (N : List Str) (sc scope : Scope) (own : List (Str × Nat)) : Bool :=
  kindB (match scope.kind with | .function => some .local | _ => none) .local && scope.names.all (fun y => kindB (scope.names.lookup y.1) y.2) && own.all (ixB N) &&
  scope.names.all (fun y => match y.2 with | .free => kindB (sc.names.lookup y.1) .cell || kindB (sc.names.lookup y.1) .free | _ => true) &&
  scope.names.all (fun y => match y.2 with | .local => own.any (fun p => p.1 == y.1) || !(N.any fun n => n == y.1) | .cell => own.any (fun p => p.1 == y.1) || !(N.any fun n => n == y.1) | _ => true)
theorem blk_of {N : List Str} {sc scope : Scope} {own : List (Str × Nat)} (h : blkB N sc scope own = true) : BlkOk N sc scope own := by
  unfold blkB at h
  simp only [Bool.and_eq_true, List.all_eq_true] at h
  obtain ⟨⟨⟨⟨h1, h2⟩, h3⟩, h4⟩, h5⟩ := h
  have key : ∀ y : Str × NameKind, (own.any (fun p => p.1 == y.1) || !(N.any fun n => n == y.1)) = true → y.1 ∈ own.map (·.1) ∨ y.1 ∉ N := fun y z => by
    rw [Bool.or_eq_true] at z
    rcases z with z | z
    · obtain ⟨p, hp, e⟩ := List.any_eq_true.mp z
      exact .inl (List.mem_map.mpr ⟨p, hp, eq_of_beq e⟩)
    · refine .inr fun hm => ?_
      have w : (N.any fun n => n == y.1) = true := List.any_eq_true.mpr ⟨y.1, hm, beq_self_eq_true _⟩
      rw [w] at z
      cases z
  refine ⟨?_, fun y hy => kindB_ok (h2 y hy), fun p hp => ?_, fun y hy e => ?_, fun y hy e => ?_⟩
  · cases q : scope.kind with
    | function => rfl
    | _ => rw [q] at h1; cases h1
  · have z := h3 p hp
    unfold ixB at z
    cases q : N[p.2]? with
    | none => rw [q] at z; cases z
    | some y =>
      rw [q] at z
      rw [eq_of_beq z]
  · have z := h4 y hy
    rw [e] at z
    rw [Bool.or_eq_true] at z
    exact z.imp kindB_ok kindB_ok
  · have z := h5 y hy
    rcases e with e | e <;> rw [e] at z <;> exact key y z
def genB (scope : Scope) : Bool := !scope.isCoroutine && scope.names.all (fun y => match y.2 with | .cell => false | _ => true) && kindB (scope.names.lookup (".0" : Str)) .local
theorem gen_of {scope : Scope} (h : genB scope = true) : scope.isCoroutine = false ∧ (∀ y ∈ scope.names, y.2 ≠ .cell) ∧ scope.names.lookup (".0" : Str) = some NameKind.local := by
  unfold genB at h
  simp only [Bool.and_eq_true, List.all_eq_true] at h
  obtain ⟨⟨h1, h2⟩, h3⟩ := h
  refine ⟨by simpa using h1, fun y hy e => ?_, kindB_ok h3⟩
  have z := h2 y hy
  rw [e] at z
  cases z
def negI (x : D) : M D := match x with
  | .int i => pur (.int (-i))
  | _ => fail
theorem de_neg (ha : DE X Ts E a ta ma) : DE X Ts E (.UnaryOp .USub a pos) (tUn (rU fun i => .int (-i)) ta) (fun s => bnd (ma s) negI) := by
  refine ⟨pe_un un_neg ha.pe, fun ρ σ H s G Q R S h => ?_⟩
  refine ha.rf ρ σ H s G _ R S (Run.map R h fun d G1 v ρ1 H1 R1 i h1 => ?_)
  unfold negI at h1
  cases d with
  | int k => exact ⟨k, is_int i, Run.ret (Ok := okD ⟨X.K, Ts, fw X.w⟩) R1 h1 isInt⟩
  | _ => exact h1.elim
/-- a reading told for each frame, that is the same for all -/
def g0 {α : Type _} (g : Shared → Hp → Addr → List (Str × Addr) → List Addr → α) : α := g {} (fun _ => none) 0 [] []
def g1 {α : Type _} (g : Shared → Hp → Addr → List (Str × Addr) → Value → List Addr → List (Addr × Obj) → α) : α := g {} (fun _ => none) 0 [] .none [] []
section
variable {elt tg iter : Expr} {ifs : List Expr} {scope : Scope} {own : List (Str × Nat)} {wi : TI} {g : Shared → Hp → Addr → List (Str × Addr) → List Addr → TG} {tt : Shared → Hp → Addr → List (Str × Addr) → List Addr → TT} {te : Shared → Hp → Addr → List (Str × Addr) → List Addr → TE} {mi : Sl → M Itm} {tgm : D → Sl → M Sl} {mcond : Sl → M Bool} {melt : Sl → M D} {vs : List Nat}
theorem ds_setLc {i : Nat} {y : Str} {py spos : Pos} (hc : X.calm = true) (hN : X.N.Nodup) (hy : X.N[i]? = some y) (hyl : X.env.scope.names.lookup y = some .local)
    (hsw : swapsWith (.ListComp elt [⟨tg, iter, ifs, 0⟩] scope pos) (some (.Name y py)) spos.line X.env = pure true) (own : List (Str × Nat)) (ok : blkB X.N X.env.scope scope own = true) (hvs : own.map (·.2) = vs) (hi : DI X Ts E tg iter wi mi)
    (hg : ∀ (s : Shared) (H : Hp) (C : Addr) (cl : List (Str × Addr)) (fp : List Addr), DG (X.blk s H scope (compEnvC scope cl C X.env) fp) Ts E0 tg (g s H C cl fp) tgm vs)
    (ht : ∀ (s : Shared) (H : Hp) (C : Addr) (cl : List (Str × Addr)) (fp : List Addr), DTs (X.blk s H scope (compEnvC scope cl C X.env) fp) Ts ifs (tt s H C cl fp) mcond)
    (he : ∀ (s : Shared) (H : Hp) (C : Addr) (cl : List (Str × Addr)) (fp : List Addr), DE (X.blk s H scope (compEnvC scope cl C X.env) fp) Ts E0 elt (te s H C cl fp) melt) (hs : ∀ x, foldedSetIterable iter X.env x = pure x := by intro _; rfl)
    (cg : ∀ s H C cl fp, g s H C cl fp = g0 g := by intros; rfl) (ct : ∀ s H C cl fp, tt s H C cl fp = g0 tt := by intros; rfl) (ce : ∀ s H C cl fp, te s H C cl fp = g0 te := by intros; rfl) :
    DS X Ts E (.Assign [.Name y py] (.ListComp elt [⟨tg, iter, ifs, 0⟩] scope pos) spos) (tAsg (tLc wi (g0 g) (g0 tt) (g0 te) (own.map (·.2))) (gName i)) (asgS (fun s => bnd (compD mi tgm mcond melt vs s) newL) (tgN i)) := by
  refine ⟨ps_setLc hc hN hy hyl hsw hi.pe (blk_of ok) (fun s H C cl fp => cg s H C cl fp ▸ (hg s H C cl fp).pe) (fun s H C cl fp => ct s H C cl fp ▸ (ht s H C cl fp).pe) (fun s H C cl fp => ce s H C cl fp ▸ (he s H C cl fp).pe) hs, ?_⟩
  exact rf_asg (own := [i]) (de_lc (pos := pos) hc hN hi (blk_of ok) hvs (fun s H C cl fp => cg s H C cl fp ▸ hg s H C cl fp) (fun s H C cl fp => ct s H C cl fp ▸ ht s H C cl fp) (fun s H C cl fp => ce s H C cl fp ▸ he s H C cl fp) hs).rf (fun ρ σ H s G d v Q R S i' h => by
    exact h (σ.set i (some v)) ρ H (Step.refl R) ⟨S.set i', List.length_set, fun j hj => by
      rw [List.getElem?_set_ne]
      intro e
      subst e
      exact hj (List.mem_singleton.mpr rfl)⟩)
theorem de_lcB (own : List (Str × Nat)) (hc : X.calm = true) (hN : X.N.Nodup) (ok : blkB X.N X.env.scope scope own = true) (hvs : own.map (·.2) = vs) (hi : DI X Ts E tg iter wi mi)
    (hg : ∀ (s : Shared) (H : Hp) (C : Addr) (cl : List (Str × Addr)) (fp : List Addr), DG (X.blk s H scope (compEnvC scope cl C X.env) fp) Ts E0 tg (g s H C cl fp) tgm vs)
    (ht : ∀ (s : Shared) (H : Hp) (C : Addr) (cl : List (Str × Addr)) (fp : List Addr), DTs (X.blk s H scope (compEnvC scope cl C X.env) fp) Ts ifs (tt s H C cl fp) mcond)
    (he : ∀ (s : Shared) (H : Hp) (C : Addr) (cl : List (Str × Addr)) (fp : List Addr), DE (X.blk s H scope (compEnvC scope cl C X.env) fp) Ts E0 elt (te s H C cl fp) melt) (hs : ∀ x, foldedSetIterable iter X.env x = pure x := by intro _; rfl)
    (cg : ∀ s H C cl fp, g s H C cl fp = g0 g := by intros; rfl) (ct : ∀ s H C cl fp, tt s H C cl fp = g0 tt := by intros; rfl) (ce : ∀ s H C cl fp, te s H C cl fp = g0 te := by intros; rfl) :
    DE X Ts E (.ListComp elt [⟨tg, iter, ifs, 0⟩] scope pos) (tLc wi (g0 g) (g0 tt) (g0 te) (own.map (·.2))) (fun s => bnd (compD mi tgm mcond melt vs s) newL) := de_lc hc hN hi (blk_of ok) hvs (fun s H C cl fp => cg s H C cl fp ▸ hg s H C cl fp) (fun s H C cl fp => ct s H C cl fp ▸ ht s H C cl fp) (fun s H C cl fp => ce s H C cl fp ▸ he s H C cl fp) hs
theorem de_tupLcB {p pos lpos : Pos} (own : List (Str × Nat)) (hgl : Gl X "tuple") (hm : X.mg "tuple" = none) (hc : X.calm = true) (hN : X.N.Nodup) (ok : blkB X.N X.env.scope scope own = true) (hvs : own.map (·.2) = vs) (hi : DI X Ts E tg iter wi mi)
    (hg : ∀ (s : Shared) (H : Hp) (C : Addr) (cl : List (Str × Addr)) (fp : List Addr), DG (X.blk s H scope (compEnvC scope cl C X.env) fp) Ts E0 tg (g s H C cl fp) tgm vs)
    (ht : ∀ (s : Shared) (H : Hp) (C : Addr) (cl : List (Str × Addr)) (fp : List Addr), DTs (X.blk s H scope (compEnvC scope cl C X.env) fp) Ts ifs (tt s H C cl fp) mcond)
    (he : ∀ (s : Shared) (H : Hp) (C : Addr) (cl : List (Str × Addr)) (fp : List Addr), DE (X.blk s H scope (compEnvC scope cl C X.env) fp) Ts E0 elt (te s H C cl fp) melt) (hs : ∀ x, foldedSetIterable iter X.env x = pure x := by intro _; rfl)
    (cg : ∀ s H C cl fp, g s H C cl fp = g0 g := by intros; rfl) (ct : ∀ s H C cl fp, tt s H C cl fp = g0 tt := by intros; rfl) (ce : ∀ s H C cl fp, te s H C cl fp = g0 te := by intros; rfl)
    (hst : starEach [.ListComp elt [⟨tg, iter, ifs, 0⟩] scope lpos] X.env = (false, eval (.ListComp elt [⟨tg, iter, ifs, 0⟩] scope lpos) X.env) :: starEach [] X.env := by rfl) :
    DE X Ts E (.Call (.Name "tuple" p) [.ListComp elt [⟨tg, iter, ifs, 0⟩] scope lpos] [] pos) (tCB (fun xs H Q => ∃ p ys, xs = [.ref p] ∧ ((SqL X.K H p ys ∧ ∀ l, H l = none → Q (.ref l) (upd H l (.tup ys))) ∨ (SqT X.K H p ys ∧ Q (.ref p) H))) (tCons (tLc wi (g0 g) (g0 tt) (g0 te) (own.map (·.2))) tNil))
      (fun s => bnd (compD mi tgm mcond melt vs s) fun ds => pur (.tup ds)) := de_tupLc hgl hm PyProof.Rows.boot_tuple hc hN hi (blk_of ok) hvs (fun s H C cl fp => cg s H C cl fp ▸ hg s H C cl fp) (fun s H C cl fp => ct s H C cl fp ▸ ht s H C cl fp) (fun s H C cl fp => ce s H C cl fp ▸ he s H C cl fp) hs hst
end
section
variable {elt iter : Expr} {x : Str} {px p gpos : Pos} {scope : Scope} {wi : TI} {g : Shared → Hp → Addr → List (Str × Addr) → Value → List Addr → List (Addr × Obj) → TG} {te : Shared → Hp → Addr → List (Str × Addr) → Value → List Addr → List (Addr × Obj) → TE} {k : Nat} {mi : Sl → M Itm} {tgm : D → Sl → M Sl} {melt : Sl → M D} {vs : List Nat} {cc P : Addr}
theorem de_allB (own : List (Str × Nat)) (k : Nat) (hr : Room (k + 3) X.A) (hgl : Gl X "all") (hm : X.mg "all" = none) (TB : GxR.TabB X.base X.mg cc P) (hcode : X.env.code = .ref cc) (hP : P ∈ Ts) (hcalm : X.calm = true) (hN : X.N.Nodup) (hgB : genB scope = true)
    (ok : blkB X.N X.env.scope scope own = true) (hvs : own.map (·.2) = vs) (hi : DI X Ts E (.Name x px) iter wi mi)
    (hg : ∀ (s : Shared) (H : Hp) (C : Addr) (cl : List (Str × Addr)) (code : Value) (fp : List Addr) (pn : List (Addr × Obj)), DG (GA.gcx X s H (genEnv scope cl C code builtinsNs X.env) fp pn) Ts E0 (.Name x px) (g s H C cl code fp pn) tgm vs)
    (he : ∀ (s : Shared) (H : Hp) (C : Addr) (cl : List (Str × Addr)) (code : Value) (fp : List Addr) (pn : List (Addr × Obj)), Room k (GA.gcx X s H (genEnv scope cl C code builtinsNs X.env) fp pn).A → DE (GA.gcx X s H (genEnv scope cl C code builtinsNs X.env) fp pn) Ts E0 elt (te s H C cl code fp pn) melt)
    (hs : ∀ v, genFold iter X.env v = pure v := by intro _; rfl)
    (cg : ∀ s H C cl code fp pn, g s H C cl code fp pn = g1 g := by intros; rfl) (ce : ∀ s H C cl code fp pn, te s H C cl code fp pn = g1 te := by intros; rfl)
    (hst : starEach [.GeneratorExp elt [⟨.Name x px, iter, [], 0⟩] scope gpos] X.env = (false, eval (.GeneratorExp elt [⟨.Name x px, iter, [], 0⟩] scope gpos) X.env) :: starEach [] X.env := by rfl) :
    DE X Ts E (.Call (.Name "all" p) [.GeneratorExp elt [⟨.Name x px, iter, [], 0⟩] scope gpos] [] pos) (GA.tGen P wi (g1 g) (g1 te) (own.map (·.2)) false) (genD mi tgm melt false vs) :=
  de_all hr hgl hm TB hcode hP hcalm hN (gen_of hgB).1 (gen_of hgB).2.1 (gen_of hgB).2.2 (blk_of ok) hvs hi (fun s H C cl code fp pn => cg s H C cl code fp pn ▸ hg s H C cl code fp pn) (fun s H C cl code fp pn r => ce s H C cl code fp pn ▸ he s H C cl code fp pn r) hs hst
end
end
end DL
namespace DL
open PySem PySem.Spec PyProof.Rows L2
open Classical
noncomputable section
variable {X : Cx} {Ts : List Addr} {E : XK} {a b c e : Expr} {ta tb tc te : TE} {ma mb mc me : Sl → M D} {pos : Pos} {C : Ct} {es : List Expr} {t u : TT} {mt mu : Sl → M Bool} {tr : TA} {mr : Sl → M (List D)}
def badS : MS := fun _ _ => .bad
theorem ds_never {st : Stmt} : DS X Ts E st tNever badS := ⟨ps_never, fun _ _ _ _ _ _ _ _ h => h.elim⟩
theorem putK_new {κ : Type} [DecidableEq κ] {kvs : List (κ × V)} {k : κ} {v : V} (h : k ∉ kvs.map (·.1)) : putK kvs k v = kvs ++ [(k, v)] := by
  unfold putK
  rw [if_neg]
  intro z
  obtain ⟨p, hp, e⟩ := List.any_eq_true.mp z
  exact h (List.mem_map.mpr ⟨p, hp, of_decide_eq_true e⟩)
theorem merge_new : ∀ {more kvs : List (Key × V)}, ((kvs ++ more).map (·.1)).Nodup → mergeK kvs more = kvs ++ more
  | [], kvs, _ => by
    rw [List.append_nil]; rfl
  | p :: r, kvs, h => by
    have h1 : p.1 ∉ kvs.map (·.1) := fun z => by
      rw [List.map_append, List.nodup_append] at h
      exact h.2.2 p.1 z p.1 List.mem_cons_self rfl
    show mergeK (putK kvs p.1 p.2) r = _
    rw [putK_new h1, merge_new (by rw [List.append_assoc]; exact h), List.append_assoc]
    rfl
structure DP (X : Cx) (Ts : List Addr) (E : XK) (pos : Pos) (keys : List (Option Expr)) (values : List Expr) (trs : List (TE × TE)) (ks : List Str) (m : Sl → M (List D)) : Prop where
  pe : PPs X pos keys values trs
  rf : ∀ ρ σ H s G Q, Rel ⟨X.K, Ts, fw X.w⟩ ρ G H → Sls X.K ρ H σ s → Run ⟨X.K, Ts, fw X.w⟩ ρ H (okL ⟨X.K, Ts, fw X.w⟩) (m s G) (fun vs H' => Q ((ks.map V.str).zip vs) H') E → tPairs trs σ H Q
theorem dp_nil : DP X Ts E pos [] [] [] [] (fun _ => pur []) := ⟨pps_nil, fun ρ σ H s G Q R S h => by
  have := Run.ret (Ok := okL ⟨X.K, Ts, fw X.w⟩) R h .nil
  exact this⟩
theorem dp_cons {k : Str} {j : Nat} {kp : Pos} {v : Expr} {ks : List (Option Expr)} {vs : List Expr} {trs : List (TE × TE)} {kk : List Str} {m : Sl → M (List D)} {tv : TE} {mv : Sl → M D} (hv : DE X Ts E v tv mv) (hr : DP X Ts E pos ks vs trs kk m) :
    DP X Ts E pos (some (.Constant (.str k) j kp) :: ks) (v :: vs) ((tC (.str k), tv) :: trs) (k :: kk) (fun s => bnd (mv s) fun x => bnd (m s) fun r => pur (x :: r)) := by
  refine ⟨pps_cons pe_str hv.pe hr.pe, fun ρ σ H s G Q R S h => ?_⟩
  refine hv.rf ρ σ H s G _ R S (Run.first h fun x G1 y ρ1 H1 st i h1 => ?_)
  refine hr.rf ρ1 σ H1 s G1 _ st.rel (S.step R st) (Run.first h1 fun r G2 ys ρ2 H2 st2 j2 h2 => ?_)
  have i2 : Is X.K ρ2 H2 x y := Is.step st.rel st2 i
  exact Run.ret (Ok := okL ⟨X.K, Ts, fw X.w⟩) st2.rel h2 (.cons i2 j2)
def dispD (ks : List Str) (ds : List D) : M D := fun g => .ok (.ref g.length) (g ++ [.dic ((ks.map Sum.inr).zip ds)])
theorem zip_kv : ∀ {ks : List Str} {vs : List V}, ks.length = vs.length → (ks.map V.str).zip vs = ((ks.map (Sum.inr : Str → Key)).zip vs).map fun kv => (kV kv.1, kv.2)
  | [], vs, h => by simp
  | k :: ks, [], h => by simp at h
  | k :: ks, v :: vs, h => by
    simp only [List.map_cons, List.zip_cons_cons]
    rw [zip_kv (by simpa using h)]
    rfl
theorem isK_zip {K : PySem.W.Frag} {ρ : List Addr} {H : Hp} : ∀ {ks : List Key} {ds : List D} {vs : List V}, IsL K ρ H ds vs → ks.length = ds.length → IsK K ρ H (ks.zip ds) (ks.zip vs)
  | [], ds, vs, h, e => by rw [List.zip_nil_left, List.zip_nil_left]; exact .nil
  | k :: ks, [], vs, h, e => by simp at e
  | k :: ks, d :: ds, vs, h, e => by
    simp only [IsL] at h
    obtain ⟨v, r, rfl, h1, h2⟩ := h
    exact .cons ⟨rfl, h1⟩ (isK_zip h2 (by simpa using e))
/-- a hidden object that nobody writes comes to light as a cell -/
theorem Step.show {ρ ρ1 : List Addr} {G1 : GS} {H H1 : Hp} (st : Step C ρ H ρ1 G1 H1) {p : Addr} {o0 o : HO} {c : Cell} (h0 : H p = none) (hn : p ∉ ρ1) (hp : H1 p = some o0) (ho0 : isCell o0 = true) (hc : CellIs C.K ρ1 H1 C.fo p c o) : Step C ρ H (ρ1 ++ [p]) (G1 ++ [c]) (upd H1 p o) := by
  have pre : ρ1 <+: ρ1 ++ [p] := List.prefix_append _ _
  have nt : ∀ ps, o0 ≠ .tbl ps := fun ps e => by rw [e] at ho0; cases ho0
  have x : TExt H1 (upd H1 p o) := ⟨fun a u h hu _ => by
    rw [upd_ne]
    · exact h
    · intro e
      rw [e, hp] at h
      cases h
      rw [ho0] at hu
      cases hu⟩
  refine ⟨st.pre.trans pre, ⟨fun a u e n ntl => ?_, fun a ps e => ?_⟩, ⟨?_, ?_, fun j d a h1 h2 => ?_, fun P hP => ?_⟩, fun a h n => ?_⟩
  · rw [upd_ne (ne_of_none e h0)]
    exact st.ext.keep a u e n ntl
  · rw [upd_ne (ne_of_none e h0)]
    exact st.ext.tbl a ps e
  · rw [List.length_append, List.length_append, st.rel.len]; rfl
  · rw [List.nodup_append]
    refine ⟨st.rel.nd, by simp, fun a ha b hb e => ?_⟩
    rw [List.mem_singleton.mp hb] at e
    subst e
    exact hn ha
  · by_cases hj : j < G1.length
    · rw [List.getElem?_append_left hj] at h1
      rw [List.getElem?_append_left (by rw [st.rel.len]; exact hj)] at h2
      obtain ⟨u, e, q⟩ := st.rel.cell j d a h1 h2
      refine ⟨u, ?_, q.mono pre x⟩
      rw [upd_ne]
      · exact e
      · intro z
        subst z
        exact hn (List.mem_of_getElem? h2)
    · have e : j = G1.length := by
        have := (List.getElem?_eq_some_iff.mp h1).1
        rw [List.length_append, List.length_singleton] at this
        omega
      subst e
      rw [List.getElem?_append_right (Nat.le_refl _), Nat.sub_self] at h1
      rw [← st.rel.len, List.getElem?_append_right (Nat.le_refl _), Nat.sub_self] at h2
      cases h1
      cases h2
      exact ⟨o, upd_same, hc.mono pre x⟩
  · obtain ⟨ps, e, t⟩ := st.rel.tab P hP
    refine ⟨ps, ?_, t⟩
    rw [upd_ne]
    · exact e
    · intro z
      rw [z, hp] at e
      cases e
      exact nt _ rfl
  · rcases List.mem_append.mp h with h | h
    · exact st.fresh a h n
    · rw [List.mem_singleton.mp h]; exact h0
theorem de_disp {keys : List (Option Expr)} {values : List Expr} {trs : List (TE × TE)} {ks : List Str} {m : Sl → M (List D)} (h : DP X Ts E pos keys values trs ks m) (hk : ks.length ≤ 15) (nd : ks.Nodup) (hall : keys.all (·.isSome) = true := by rfl) (hl : keys.length = values.length := by rfl) (h0 : keys ≠ [] := by exact fun z => nomatch z)
    (h15 : keys.length ≤ 15 := by decide) : DE X Ts E (.Dict keys values pos) (tDisp trs) (fun s => bnd (m s) fun ds => if ds.length = ks.length then dispD ks ds else fail) := by
  refine ⟨pe_disp h.pe hall hl h0 h15, fun ρ σ H s G Q R S h1 => ?_⟩
  intro p hp
  have st0 : Step ⟨X.K, Ts, fw X.w⟩ ρ H ρ G (upd H p (.dK [])) := Step.lay R hp
  refine h.rf ρ σ _ s G _ st0.rel (S.step R st0) ?_
  unfold bnd at h1
  cases em : m s G with
  | bad => rw [em] at h1; exact h1
  | ex c d g => rw [em] at h1; exact ExOk.step st0 h1
  | ok ds G1 =>
    rw [em] at h1
    dsimp only at h1
    intro vs ρ1 H1 st i
    have i : IsL X.K ρ1 H1 ds vs := i
    have hpn : p ∉ ρ := fun z => by
      obtain ⟨o, e, _⟩ := R.there z
      rw [hp] at e; cases e
    have hp1 : H1 p = some (.dK []) := st.ext.keep p _ upd_same hpn fun ps z => nomatch z
    have hpn1 : p ∉ ρ1 := fun z => by
      have := st.fresh p z hpn
      rw [upd_same] at this; cases this
    by_cases hd : ds.length = ks.length
    · rw [if_pos hd] at h1
      have hv : ks.length = vs.length := by rw [← hd]; exact i.len
      refine ⟨hp1, (ks.map (Sum.inr : Str → Key)).zip vs, zip_kv hv, ?_, ?_⟩
      · rw [List.length_zip, List.length_map]
        omega
      · have em : mergeK [] ((ks.map (Sum.inr : Str → Key)).zip vs) = (ks.map (Sum.inr : Str → Key)).zip vs := by
          rw [merge_new, List.nil_append]
          rw [List.nil_append, List.map_fst_zip (by rw [List.length_map, hv]; exact Nat.le_refl _)]
          exact List.Pairwise.map _ (fun a b z e => z (Sum.inr.inj e)) nd
        rw [em]
        have st1 := (st0.trans st).show (c := .dic ((ks.map Sum.inr).zip ds)) (o := .dK ((ks.map Sum.inr).zip vs)) hp hpn1 hp1 rfl ⟨_, rfl, isK_zip i (by rw [List.length_map, hd])⟩
        exact h1 (.ref p) _ _ st1 (Rel.new_at st.rel)
    · rw [if_neg hd] at h1
      exact h1.elim
def dget (ds : List (Key × D)) (k : Key) : Option D := (ds.find? fun p => decide (p.1 = k)).map (·.2)
theorem IsK.get {K : PySem.W.Frag} {ρ : List Addr} {H : Hp} {k : Key} {d : D} : ∀ {ds : List (Key × D)} {vs : List (Key × V)}, IsK K ρ H ds vs → dget ds k = some d → ∃ v, valV vs k = some v ∧ Is K ρ H d v
  | _, _, .nil, e => by simp [dget] at e
  | p :: ds, q :: vs, .cons h t, e => by
    by_cases hk : p.1 = k
    · have e : p.2 = d := by simpa [dget, hk] using e
      exact ⟨q.2, valV_pos (by rw [← h.1]; exact hk), e ▸ h.2⟩
    · have e : dget ds k = some d := by simpa [dget, hk] using e
      obtain ⟨v, e1, e2⟩ := IsK.get t e
      exact ⟨v, by rw [valV_neg (by rw [← h.1]; exact hk)]; exact e1, e2⟩
def keyD (d : D) : Option Key := match d with
  | .int i => some (.inl i)
  | .str x => some (.inr x)
  | _ => none
def dgetD (x y : D) : M D := fun g => match x, keyD y with
  | .ref n, some k => match g[n]? with
    | some (.dic ds) => match dget ds k with
      | some d => .ok d g
      | none => .bad
    | _ => .bad
  | _, _ => .bad
theorem keyD_is {K : PySem.W.Frag} {ρ : List Addr} {H : Hp} {y : D} {v : V} {k : Key} (h : keyD y = some k) (i : Is K ρ H y v) : v = kV k := by
  unfold keyD at h
  cases y with
  | int j => cases h; rw [is_int i]; rfl
  | str j => cases h; rw [is_str i]; rfl
  | _ => cases h
theorem de_dget (hu : X.A.units + 1 < cLine) (ha : DE X Ts E a ta ma) (hb : DE X Ts E b tb mb) (hs : NoSl b := by exact fun _ _ => rfl) : DE X Ts E (.Subscript a b pos) (tDGet ta tb) (fun s => bnd (ma s) fun x => bnd (mb s) fun y => dgetD x y) := by
  refine ⟨pe_dget hu ha.pe hb.pe hs, fun ρ σ H s G Q R S h => ?_⟩
  refine ha.rf ρ σ H s G _ R S (Run.first h fun x G1 u ρ1 H1 st i h1 => ?_)
  refine hb.rf ρ1 σ H1 s G1 _ st.rel (S.step R st) (Run.first h1 fun y G2 v ρ2 H2 st2 j h2 => ?_)
  have i2 : Is X.K ρ2 H2 x u := Is.step st.rel st2 i
  unfold dgetD at h2
  cases x with
  | ref n =>
    cases ek : keyD y with
    | none => rw [ek] at h2; exact h2.elim
    | some k =>
      rw [ek] at h2
      dsimp only at h2
      cases eg : G2[n]? with
      | none => rw [eg] at h2; exact h2.elim
      | some cl =>
        rw [eg] at h2
        cases cl with
        | lst _ => exact h2.elim
        | set _ => exact h2.elim
        | map _ => exact h2.elim
        | dic ds =>
          dsimp only at h2
          cases ed : dget ds k with
          | none => rw [ed] at h2; exact h2.elim
          | some d =>
            rw [ed] at h2
            obtain ⟨p, kvs, rfl, hn, hp, hl⟩ := st2.rel.dic eg i2
            obtain ⟨w, e1, e2⟩ := IsK.get hl ed
            refine ⟨p, w, rfl, ?_, Run.ret (Ok := okD ⟨X.K, Ts, fw X.w⟩) st2.rel h2 e2⟩
            rw [keyD_is ek j, ← e1]
            exact .k hp
  | _ => cases ek : keyD y <;> rw [ek] at h2 <;> exact h2.elim
end
end DL
namespace DL
open PySem PySem.Spec PyProof.Rows L2
open Classical
noncomputable section
variable {X : Cx} {Ts : List Addr} {E : XK} {a b c e : Expr} {ta tb tc te : TE} {ma mb mc me : Sl → M D} {pos : Pos} {C : Ct} {es : List Expr} {t u : TT} {mt mu : Sl → M Bool} {tr : TA} {mr : Sl → M (List D)}
section
variable {K : PySem.W.Frag} {ρ : List Addr} {H : Hp} {x dx C0 : Addr} {f0 fs : List (Str × V)}
theorem sqt_grow (hx : H x = some (.ins C0 dx f0)) {a : Addr} {vs : List V} (h1 : SqT K H a vs) : SqT K (upd H x (.ins C0 dx (f0 ++ fs))) a vs := by
  have nx : ∀ o, H a = some o → (∀ C d f, o ≠ .ins C d f) → upd H x (.ins C0 dx (f0 ++ fs)) a = some o := fun o ho hn => by
    rw [upd_ne]
    · exact ho
    · intro z
      rw [z, hx] at ho
      cases ho
      exact hn _ _ _ rfl
  rcases h1 with (h | ⟨o, h⟩) | h
  · exact .inl (.inl (nx _ h fun _ _ _ z => nomatch z))
  · exact .inl (.inr ⟨o, nx _ h fun _ _ _ z => nomatch z⟩)
  · exact .inr h
mutual
theorem kv_grow (hx : H x = some (.ins C0 dx f0)) : ∀ (k : DN.NK) (v : V), DN.KV K H k v → DN.KV K (upd H x (.ins C0 dx (f0 ++ fs))) k v
  | .none, v, h => by simpa only [DN.KV] using h
  | .num i, v, h => by simpa only [DN.KV] using h
  | .text x, v, h => by simpa only [DN.KV] using h
  | .tup ks, v, h => by
    simp only [DN.KV] at h ⊢
    obtain ⟨a, vs, e, h1, h2⟩ := h
    exact ⟨a, vs, e, sqt_grow hx h1, kvs_grow hx ks vs h2⟩
theorem kvs_grow (hx : H x = some (.ins C0 dx f0)) : ∀ (ks : List DN.NK) (vs : List V), DN.KVs K H ks vs → DN.KVs K (upd H x (.ins C0 dx (f0 ++ fs))) ks vs
  | [], vs, h => by simpa only [DN.KVs] using h
  | k :: ks, vs, h => by
    simp only [DN.KVs] at h ⊢
    obtain ⟨v, r, e, h1, h2⟩ := h
    exact ⟨v, r, e, kv_grow hx k v h1, kvs_grow hx ks r h2⟩
end
mutual
theorem Is.grow (hx : H x = some (.ins C0 dx f0)) (hF : f0 = [] ∨ ∀ p ∈ fs, p.1 ∈ FLD) : ∀ (d : D) (v : V), Is K ρ H d v → Is K ρ (upd H x (.ins C0 dx (f0 ++ fs))) d v
  | .non, v, h => by simpa only [Is] using h
  | .bl b, v, h => by simpa only [Is] using h
  | .int i, v, h => by simpa only [Is] using h
  | .str i, v, h => by simpa only [Is] using h
  | .tup ds, v, h => by
    simp only [Is] at h ⊢
    obtain ⟨a, vs, e, h1, h2⟩ := h
    refine ⟨a, vs, e, ?_, IsL.grow hx hF ds vs h2⟩
    have nx : ∀ o, H a = some o → (∀ C d f, o ≠ .ins C d f) → upd H x (.ins C0 dx (f0 ++ fs)) a = some o := fun o ho hn => by
      rw [upd_ne]
      · exact ho
      · intro z
        rw [z, hx] at ho
        cases ho
        exact hn _ _ _ rfl
    rcases h1 with (h | ⟨o, h⟩) | h
    · exact .inl (.inl (nx _ h fun _ _ _ z => nomatch z))
    · exact .inl (.inr ⟨o, nx _ h fun _ _ _ z => nomatch z⟩)
    · exact .inr h
  | .ref n, v, h => by simpa only [Is] using h
  | .ins c ns ds, v, h => by
    simp only [Is] at h ⊢
    obtain ⟨a, dx', vs, gs, e, h1, h2, h3⟩ := h
    by_cases z : a = x
    · rw [z, hx] at h1
      injection h1 with h1
      injection h1 with e1 e2 e3
      refine ⟨a, dx', vs, gs ++ fs, e, ?_, ⟨h2.1, h2.2.1, fun p hp => ?_⟩, IsL.grow hx hF ds vs h3⟩
      · rw [z, upd_same, e1, e2, e3, List.append_assoc]
      · rcases List.mem_append.mp hp with hp | hp
        · exact h2.2.2 p hp
        · rcases hF with hF | hF
          · exfalso
            rw [hF] at e3
            have e4 := (List.append_eq_nil_iff.mp e3.symm).1
            cases ns with
            | nil => exact h2.2.1 rfl
            | cons n ns =>
              cases vs with
              | nil => cases h2.1
              | cons v vs => cases e4
          · exact hF p hp
    · refine ⟨a, dx', vs, gs, e, ?_, h2, IsL.grow hx hF ds vs h3⟩
      rw [upd_ne z]
      exact h1
  | .scr ns, v, h => by
    simp only [Is] at h ⊢
    obtain ⟨a, e, h1⟩ := h
    refine ⟨a, e, ?_⟩
    rcases h1 with ⟨o, h1⟩ | h1
    · refine .inl ⟨o, ?_⟩
      rw [upd_ne]
      · exact h1
      · intro z
        rw [z, hx] at h1
        cases h1
    · exact .inr h1
  | .ty n, v, h => by simpa only [Is] using h
  | .cls c, v, h => by simpa only [Is] using h
  | .exc a q d, v, h => by
    simp only [Is] at h ⊢
    obtain ⟨e, u, h1, h2⟩ := h
    refine ⟨e, u, ?_, Is.grow hx hF d u h2⟩
    rw [upd_ne]
    · exact h1
    · intro z
      rw [z, hx] at h1
      cases h1
  | .dct hf ks ds, v, h => by
    simp only [Is] at h ⊢
    obtain ⟨a, ob, L, vs, e, h1, ⟨h2, h3, h4⟩, h5⟩ := h
    refine ⟨a, ob, L, vs, e, ?_, ⟨h2, fun y m => ⟨kv_grow hx _ _ (h3 y m).is, (h3 y m).low⟩, h4⟩, IsL.grow hx hF ds vs h5⟩
    rw [upd_ne]
    · exact h1
    · intro z
      rw [z, hx] at h1
      cases h1
theorem IsL.grow (hx : H x = some (.ins C0 dx f0)) (hF : f0 = [] ∨ ∀ p ∈ fs, p.1 ∈ FLD) : ∀ (ds : List D) (vs : List V), IsL K ρ H ds vs → IsL K ρ (upd H x (.ins C0 dx (f0 ++ fs))) ds vs
  | [], vs, h => by simpa only [IsL] using h
  | d :: ds, vs, h => by
    simp only [IsL] at h ⊢
    obtain ⟨v, r, e, h1, h2⟩ := h
    exact ⟨v, r, e, Is.grow hx hF d v h1, IsL.grow hx hF ds r h2⟩
end
theorem IsK.grow (hx : H x = some (.ins C0 dx f0)) (hF : f0 = [] ∨ ∀ p ∈ fs, p.1 ∈ FLD) : ∀ {ds : List (Key × D)} {vs : List (Key × V)}, IsK K ρ H ds vs → IsK K ρ (upd H x (.ins C0 dx (f0 ++ fs))) ds vs
  | _, _, .nil => .nil
  | _, _, .cons h t => .cons ⟨h.1, Is.grow hx hF _ _ h.2⟩ (IsK.grow hx hF t)
theorem IsN.grow (hx : H x = some (.ins C0 dx f0)) (hF : f0 = [] ∨ ∀ p ∈ fs, p.1 ∈ FLD) : ∀ {ds : List (DN.NK × D)} {L : List DN.DEnt}, IsN K ρ H ds L → IsN K ρ (upd H x (.ins C0 dx (f0 ++ fs))) ds L
  | _, _, .nil => .nil
  | _, _, .cons h t => .cons ⟨h.1, ⟨kv_grow hx _ _ h.2.1.is, h.2.1.low⟩, Is.grow hx hF _ _ h.2.2⟩ (IsN.grow hx hF t)
theorem CellIs.grow (hx : H x = some (.ins C0 dx f0)) (hF : f0 = [] ∨ ∀ p ∈ fs, p.1 ∈ FLD) {fo : Fo} {a : Addr} {c : Cell} {o : HO} (h : CellIs K ρ H fo a c o) : CellIs K ρ (upd H x (.ins C0 dx (f0 ++ fs))) fo a c o := by
  cases c with
  | set ks =>
    obtain ⟨L, e, h1, h2⟩ := h
    exact ⟨L, e, fun y m => ⟨kv_grow hx _ _ (h1 y m).is, (h1 y m).low, (h1 y m).dry⟩, h2⟩
  | map ks => obtain ⟨L, e, h⟩ := h; exact ⟨L, e, IsN.grow hx hF h⟩
  | lst ds => obtain ⟨vs, e, h⟩ := h; exact ⟨vs, e, IsL.grow hx hF _ _ h⟩
  | dic ds => obtain ⟨vs, e, h⟩ := h; exact ⟨vs, e, IsK.grow hx hF h⟩
end
theorem Step.grow {ρ ρ1 : List Addr} {G1 : GS} {H H1 : Hp} {x dx C0 : Addr} {f0 fs : List (Str × V)} (st : Step C ρ H ρ1 G1 H1) (h0 : H x = none) (hx : H1 x = some (.ins C0 dx f0)) (hF : f0 = [] ∨ ∀ p ∈ fs, p.1 ∈ FLD) : Step C ρ H ρ1 G1 (upd H1 x (.ins C0 dx (f0 ++ fs))) := by
  refine ⟨st.pre, ⟨fun a o e n nt => ?_, fun a ps e => ?_⟩, ⟨st.rel.len, st.rel.nd, fun i c a h1 h2 => ?_, fun P hP => ?_⟩, st.fresh⟩
  · rw [upd_ne (ne_of_none e h0)]
    exact st.ext.keep a o e n nt
  · rw [upd_ne (ne_of_none e h0)]
    exact st.ext.tbl a ps e
  · obtain ⟨o, e, q⟩ := st.rel.cell i c a h1 h2
    refine ⟨o, ?_, q.grow hx hF⟩
    rw [upd_ne]
    · exact e
    · intro z
      have hc := q.cell
      rw [z, hx] at e
      cases e
      cases hc
  · obtain ⟨ps, e, t⟩ := st.rel.tab P hP
    refine ⟨ps, ?_, t⟩
    rw [upd_ne]
    · exact e
    · intro z
      rw [z, hx] at e
      cases e
section
variable {K : PySem.W.Frag} {ρ : List Addr} {H : Hp} {x dx C0 : Addr} {fs : List (Str × V)}
theorem IsL.born (hx : H x = some (.ins C0 dx [])) (ds : List D) (vs : List V) (h : IsL K ρ H ds vs) : IsL K ρ (upd H x (.ins C0 dx fs)) ds vs := IsL.grow (f0 := []) (fs := fs) hx (.inl rfl) ds vs h
end
theorem Step.born {ρ ρ1 : List Addr} {G1 : GS} {H H1 : Hp} {x dx C0 : Addr} {fs : List (Str × V)} (st : Step C ρ H ρ1 G1 H1) (h0 : H x = none) (hx : H1 x = some (.ins C0 dx [])) : Step C ρ H ρ1 G1 (upd H1 x (.ins C0 dx fs)) := Step.grow (f0 := []) (fs := fs) st h0 hx (.inl rfl)
structure DB (X : Cx) (Ts : List Addr) (E : XK) (body : List Stmt) (t : TS) (m : MS) (tt : TS) : Prop where
  pe : PSs X body t
  rf : ∀ ρ σ H s G Dn, Rel ⟨X.K, Ts, fw X.w⟩ ρ G H → Sls X.K ρ H σ s → RunS ⟨X.K, Ts, fw X.w⟩ ρ H (m s G) { Dn with nx := tt Dn } E → t Dn σ H
theorem db_tail {body : List Stmt} {tt : TS} (h : PSs X body tt) : DB X Ts E body tt skipS tt := ⟨h, fun ρ σ H s G Dn R S h => RunS.nx R S h⟩
theorem db_cons {st : Stmt} {sts : List Stmt} {tS uS tt : TS} {m1 m2 : MS} (h1 : DS X Ts E st tS m1) (h2 : DB X Ts E sts uS m2 tt) : DB X Ts E (st :: sts) (tSeq tS uS) (seqS m1 m2) tt := by
  refine ⟨pss_cons h1.pe h2.pe, fun ρ σ H s G Dn R S h => ?_⟩
  refine h1.rf ρ σ H s G _ R S ?_
  unfold seqS at h
  cases e : m1 s G with
  | nx s' g' =>
    rw [e] at h
    intro σ' ρ' H' st' S'
    exact h2.rf ρ' σ' H' s' g' Dn st'.rel S' (RunS.step st' h)
  | bad => rw [e] at h; exact h
  | rt d g' => rw [e] at h; exact h
  | bk d g' => rw [e] at h; exact h
  | ct d g' => rw [e] at h; exact h
  | ex c d g' => rw [e] at h; exact h
def tStores (K : PySem.W.Frag) : List (Nat × Str) → TS
  | [] => tNext
  | p :: r => tSeq (sFld K (tVar 0) (tVar p.1) p.2) (tStores K r)
theorem putF_new {f : Str} {v : V} : ∀ {fs : List (Str × V)}, f ∉ fs.map (·.1) → putF f v fs = fs ++ [(f, v)]
  | [], _ => rfl
  | (g, x) :: r, h => by
    rw [List.map_cons, List.mem_cons, not_or] at h
    unfold putF
    rw [if_neg (fun z => h.1 z.symm), putF_new h.2]
    rfl
theorem run_stores {K : PySem.W.Frag} {C0 x dx : Addr} {σ : L2.St} {Dn : Ends} (c : Cls K C0) (h0 : σ[0]? = some (some (.ref x))) : ∀ (l : List (Nat × Str)) (vs : List V) (fs : List (Str × V)) (H : Hp), H x = some (.ins C0 dx fs) → (∀ p ∈ l, NoAttr K C0 p.2) →
    l.length = vs.length → (∀ (i : Nat) (p : Nat × Str) (v : V), l[i]? = some p → vs[i]? = some v → σ[p.1]? = some (some v)) → (fs.map (·.1) ++ l.map (·.2)).Nodup → fs.length + l.length < 1000 → Dn.nx σ (upd H x (.ins C0 dx (fs ++ (l.map (·.2)).zip vs))) → tStores K l Dn σ H
  | [], vs, fs, H, hx, _, hl, _, _, _, h => by
    rw [List.map_nil, List.zip_nil_left, List.append_nil] at h
    have e : upd H x (.ins C0 dx fs) = H := by
      funext b
      unfold upd
      split
      · rename_i z; rw [z, hx]
      · rfl
    rw [e] at h
    exact h
  | p :: l, [], fs, H, hx, _, hl, _, _, _, h => by cases hl
  | p :: l, v :: vs, fs, H, hx, hn, hl, hσ, nd, hz, h => by
    refine ⟨v, hσ 0 p v rfl rfl, V.ref x, h0, x, C0, dx, fs, rfl, hx, c, hn p List.mem_cons_self, by omega, ?_⟩
    have hp : p.2 ∉ fs.map (·.1) := fun z => by
      rw [List.map_cons, List.nodup_append] at nd
      exact nd.2.2 p.2 z p.2 List.mem_cons_self rfl
    rw [putF_new hp]
    refine run_stores c h0 l vs (fs ++ [(p.2, v)]) _ upd_same (fun q hq => hn q (List.mem_cons_of_mem _ hq)) (Nat.succ.inj hl) (fun i q w h1 h2 => hσ (i + 1) q w h1 h2) (by simpa using nd) (by simp; simp at hz; omega) ?_
    have e : upd (upd H x (.ins C0 dx (fs ++ [(p.2, v)]))) x (.ins C0 dx (fs ++ [(p.2, v)] ++ (l.map (·.2)).zip vs)) = upd H x (.ins C0 dx (fs ++ ((p :: l).map (·.2)).zip (v :: vs))) := by
      funext b
      unfold upd
      split
      · rw [List.map_cons, List.zip_cons_cons, List.append_assoc]; rfl
      · rfl
    rw [e]
    exact h
/-- it leaves the names as they are -/
def Keeps (m : MS) : Prop := ∀ s g s' g', m s g = .nx s' g' → s' = s
/-- what becomes of it, whatever the first name is -/
def outc : RS → R Unit
  | .nx _ g => .ok () g
  | .ex c d g => .ex c d g
  | _ => .bad
def Indp (m : MS) : Prop := ∀ d d' r g, outc (m (d :: r) g) = outc (m (d' :: r) g)
theorem keeps_skip : Keeps skipS := fun _ _ _ _ h => by cases h; rfl
theorem keeps_bad : Keeps badS := fun _ _ _ _ h => by cases h
theorem keeps_seq {m1 m2 : MS} (h1 : Keeps m1) (h2 : Keeps m2) : Keeps (seqS m1 m2) := fun s g s' g' h => by
  unfold seqS at h
  cases e : m1 s g with
  | nx s1 g1 =>
    rw [e] at h
    have e1 := h1 _ _ _ _ e
    subst e1
    exact h2 _ _ _ _ h
  | bad => rw [e] at h; cases h
  | rt _ _ => rw [e] at h; cases h
  | bk _ _ => rw [e] at h; cases h
  | ct _ _ => rw [e] at h; cases h
  | ex _ _ _ => rw [e] at h; cases h
theorem keeps_if {mc : Sl → M Bool} {m1 m2 : MS} (h1 : Keeps m1) (h2 : Keeps m2) : Keeps (ifS mc m1 m2) := fun s g s' g' h => by
  unfold ifS bndS at h
  cases e : mc s g with
  | bad => rw [e] at h; cases h
  | ex _ _ _ => rw [e] at h; cases h
  | ok k g1 =>
    rw [e] at h
    cases k with
    | true => exact h1 _ _ _ _ h
    | false => exact h2 _ _ _ _ h
theorem indp_skip : Indp skipS := fun _ _ _ _ => rfl
theorem indp_bad : Indp badS := fun _ _ _ _ => rfl
theorem indp_seq {m1 m2 : MS} (k : Keeps m1) (h1 : Indp m1) (h2 : Indp m2) : Indp (seqS m1 m2) := fun d d' r g => by
  have q := h1 d d' r g
  unfold seqS
  cases e : m1 (d :: r) g with
  | nx s1 g1 =>
    rw [e] at q
    have e1 := k _ _ _ _ e
    cases e' : m1 (d' :: r) g with
    | nx s2 g2 =>
      rw [e'] at q
      have e2 := k _ _ _ _ e'
      subst e1 e2
      have q : R.ok () g1 = R.ok () g2 := q
      cases q
      exact h2 d d' r g1
    | bad => rw [e'] at q; cases q
    | rt _ _ => rw [e'] at q; cases q
    | bk _ _ => rw [e'] at q; cases q
    | ct _ _ => rw [e'] at q; cases q
    | ex _ _ _ => rw [e'] at q; cases q
  | bad =>
    rw [e] at q
    cases e' : m1 (d' :: r) g <;> rw [e'] at q <;> first | rfl | cases q
  | rt _ _ =>
    rw [e] at q
    cases e' : m1 (d' :: r) g <;> rw [e'] at q <;> first | rfl | cases q
  | bk _ _ =>
    rw [e] at q
    cases e' : m1 (d' :: r) g <;> rw [e'] at q <;> first | rfl | cases q
  | ct _ _ =>
    rw [e] at q
    cases e' : m1 (d' :: r) g <;> rw [e'] at q <;> first | rfl | cases q
  | ex _ _ _ =>
    rw [e] at q
    cases e' : m1 (d' :: r) g <;> rw [e'] at q <;> first | exact q | cases q
theorem indp_if {mc : Sl → M Bool} {m1 m2 : MS} (hc : ∀ d d' r, mc (d :: r) = mc (d' :: r)) (h1 : Indp m1) (h2 : Indp m2) : Indp (ifS mc m1 m2) := fun d d' r g => by
  unfold ifS bndS
  rw [hc d d' r]
  cases mc (d' :: r) g with
  | bad => rfl
  | ex _ _ _ => rfl
  | ok k g1 =>
    cases k with
    | true => exact h1 d d' r g1
    | false => exact h2 d d' r g1
/-- the checks of a constructor, then the fields -/
def iniM (m : MS) (ds : List D) : M Unit := fun g => outc (m (some .non :: ds.map some) g)
def spI (C : Ct) (C0 : Addr) (ns : List Str) (m : MS) : Sp := fun vs H Q E => ∃ p dx ρ G ds vs', vs = .ref p :: vs' ∧ H p = some (.ins C0 dx []) ∧ Rel C ρ G H ∧ IsL C.K ρ H ds vs' ∧ ds.length = ns.length ∧ Run C ρ H (fun ρ' H' (_ : Unit) ws => IsL C.K ρ' H' ds ws) (iniM m ds G) (fun ws H' => H' p = some (.ins C0 dx []) → Q .non (upd H' p (.ins C0 dx (ns.zip ws)))) E
theorem sls_vals {K : PySem.W.Frag} {ρ : List Addr} {H : Hp} {σ : L2.St} {s : Sl} (S : Sls K ρ H σ s) : ∀ (ds : List D) (o : Nat), (∀ i d, ds[i]? = some d → s[o + i]? = some (some d)) → ∃ vs, IsL K ρ H ds vs ∧ ∀ i v, vs[i]? = some v → σ[o + i]? = some (some v)
  | [], o, _ => ⟨[], .nil, fun i v h => by simp at h⟩
  | d :: ds, o, h => by
    obtain ⟨v, e1, e2⟩ := S.at_ (o + 0) d (h 0 d rfl)
    obtain ⟨vs, i2, h2⟩ := sls_vals S ds (o + 1) fun i d' e => by
      have := h (i + 1) d' e
      rwa [show o + (i + 1) = o + 1 + i by omega] at this
    refine ⟨v :: vs, .cons e2 i2, fun i w e => ?_⟩
    cases i with
    | zero =>
      have e : v = w := by simpa using e
      rw [← e]; exact e1
    | succ i =>
      have := h2 i w (by simpa using e)
      rwa [show o + (i + 1) = o + 1 + i by omega]
section
variable {P : Program} {w : World} {K : PySem.W.Frag} {mg : Str → Option Value} {base : Heap} {x qual : Str} {params : Arguments} {body : List Stmt} {scope : Scope} {dvs : List V} {kws : List (Str × V)} {p : Str × Option Str} {fd : FuncData} {C0 : Addr}
theorem fn_I {N ns : List Str} {k : Nat} {m : MS} (F : FunD K x qual params body scope dvs kws (He.fAd K p) fd) (S : FnScope N N scope) (c : Cls K C0) (hn : ∀ f ∈ ns, NoAttr K C0 f) (nd : ns.Nodup) (hN : N.length = ns.length + 1) (hz : ns.length < 1000) (hk : Keeps m) (hi : Indp m) (l : List (Nat × Str)) (hl : l = (List.range ns.length).map (fun i => (i + 1, ns.getD i default)))
    (hbody : ∀ (A : Around) (outer : List Env) (s : Shared) (H : Hp) (E : XK), Room k (A.deeper (envOfC qual scope s.heap.objs.size (He.fAd K p) (.ref (He.codeOf K p)))) →
      ∃ t, DB (cxOf (L2.CX P w) P w K mg base N qual scope (He.fAd K p) (.ref (He.codeOf K p)) A outer s H E) Ts E body t m (tStores K l)) :
    FnOk P w K mg base (L2.CX P w) (k + 1) (He.fAd K p) fd N (spI ⟨K, Ts, fw w⟩ C0 ns m) := by
  obtain ⟨oc, od, dV, kV, doc, pm, an, cdv, ct, osl, rfl, lk, hcd, _, _⟩ := F.ex
  obtain ⟨cc, rfl⟩ := He.codeIn_ref hcd
  have ec : He.codeOf K p = cc := He.codeOf_eq lk rfl
  refine fn_of lk hcd S (fun vs H Q E h => ?_) fun A outer s H vs Q E hr h => ?_
  · obtain ⟨q, dx, ρ, G, ds, vs', rfl, hx, R, i, hd, h⟩ := h
    rw [List.length_cons, ← i.len, hd, hN]
  · obtain ⟨q, dx, ρ, G, ds, vs', rfl, hx, R, i, hd, h⟩ := h
    subst ec
    obtain ⟨t, ht⟩ := hbody A outer s H E hr
    have hv : vs'.length = ns.length := by rw [← i.len, hd]
    refine ⟨t, ht.pe, ht.rf ρ (L2.start N (.ref q :: vs')) H (some (.cls q) :: ds.map some) G _ R ?_ ?_⟩
    · have j : IsL K ρ H (.cls q :: ds) (.ref q :: vs') := .cons (by simp only [Is]) i
      have z := sls_start (N := N) j (n := ds.length + 1) rfl
      have e : N.length - (ds.length + 1) = 0 := by omega
      rw [e] at z
      have z2 : Sls K ρ H (L2.start N (V.ref q :: vs')) (some (D.cls q) :: ds.map some) := by simpa using z
      exact z2
    · have q0 := hi (some (.cls q)) (some .non) (ds.map some) G
      unfold iniM at h
      rw [← q0] at h
      generalize hrs : m (some (.cls q) :: ds.map some) G = rs at h ⊢
      cases rs with
      | bad => exact h
      | bk _ _ => exact h.elim
      | ct _ _ => exact h.elim
      | rt _ _ => exact h.elim
      | ex c d g => exact h
      | nx s' g =>
        have es := hk _ _ _ _ hrs
        subst es
        intro σ' ρ' H' st' S'
        have hq : q ∉ ρ := R.out hx rfl
        have hx' : H' q = some (.ins C0 dx []) := st'.ext.keep q _ hx hq fun ps z => nomatch z
        obtain ⟨v0, h0, e0⟩ := S'.at_ 0 (.cls q) rfl
        have e0 : v0 = .ref q := by simpa only [Is] using e0
        rw [e0] at h0
        obtain ⟨ws, iw, hw⟩ := sls_vals S' ds 1 fun i d e => by
          rw [Nat.add_comm, List.getElem?_cons_succ, List.getElem?_map, e]; rfl
        have iw : IsL K ρ' H' ds ws := iw
        have hfin := h ws ρ' H' st' iw hx'
        have hlen : l.length = ns.length := by rw [hl]; simp
        have hmap : l.map (·.2) = ns := by
          rw [hl, List.map_map]
          apply List.ext_getElem
          · simp
          · intro i h1 h2
            simp [List.getD_eq_getElem?_getD, h2]
        refine run_stores c h0 l ws [] H' hx' (fun r hr => ?_) (by rw [hlen, ← hd, iw.len]) (fun i r v h1 h2 => ?_) (by rw [hmap]; simpa using nd) (by rw [hlen]; simpa using hz) ?_
        · refine hn _ ?_
          rw [← hmap]
          exact List.mem_map_of_mem hr
        · have e : r.1 = 1 + i := by
            rw [hl, List.getElem?_map] at h1
            cases z : (List.range ns.length)[i]? with
            | none => rw [z] at h1; cases h1
            | some y =>
              rw [z] at h1
              cases h1
              have := (List.getElem?_eq_some_iff.mp z).2
              simp at this
              show y + 1 = 1 + i
              omega
          rw [e]
          exact hw i v h2
        · rw [hmap]
          exact hfin
end
end
end DL
namespace DL
open PySem PySem.Spec PyProof.Rows L2
open Classical
noncomputable section
variable {X : Cx} {Ts : List Addr} {E : XK} {a b c e : Expr} {ta tb tc te : TE} {ma mb mc me : Sl → M D} {pos : Pos} {C : Ct} {es : List Expr} {t u : TT} {mt mu : Sl → M Bool} {tr : TA} {mr : Sl → M (List D)}
structure DK (X : Cx) (Ts : List Addr) (E : XK) (kws : List Keyword) (t : TA) (m : Sl → M (List D)) : Prop where
  pe : PK X kws t
  rf : ∀ ρ σ H s G Q, Rel ⟨X.K, Ts, fw X.w⟩ ρ G H → Sls X.K ρ H σ s → Run ⟨X.K, Ts, fw X.w⟩ ρ H (okL ⟨X.K, Ts, fw X.w⟩) (m s G) Q E → t σ H Q
theorem dk_nil : DK X Ts E [] tNil (fun _ => pur []) := ⟨pk_nil, fun ρ σ H s G Q R S h => Run.ret (Ok := okL ⟨X.K, Ts, fw X.w⟩) R h .nil⟩
theorem dk_cons {nm : Option Str} {kpos : Pos} {kws : List Keyword} (he : DE X Ts E e te me) (hr : DK X Ts E kws tr mr) : DK X Ts E (⟨nm, e, kpos⟩ :: kws) (tCons te tr) (fun s => bnd (me s) fun x => bnd (mr s) fun r => pur (x :: r)) := by
  refine ⟨pk_cons he.pe hr.pe, fun ρ σ H s G Q R S h => ?_⟩
  refine he.rf ρ σ H s G _ R S (Run.first h fun x G1 v ρ1 H1 st i h1 => ?_)
  refine hr.rf ρ1 σ H1 s G1 _ st.rel (S.step R st) (Run.first h1 fun r G2 vs ρ2 H2 st2 j h2 => ?_)
  exact Run.ret (Ok := okL ⟨X.K, Ts, fw X.w⟩) st2.rel h2 (.cons (Is.step st.rel st2 i) j)
def makeD (C0 : Addr) (ns : List Str) (m : MS) (ds : List D) : M D := fun g => if ds.length = ns.length then match iniM m ds g with
    | .ok _ g' => .ok (.ins C0 ns ds) g'
    | .ex c d g' => .ex c d g'
    | .bad => .bad
  else .bad
structure OwnC (P : Program) (w : World) (K : PySem.W.Frag) (mg : Str → Option Value) (base : Heap) (Ts : List Addr) (k : Nat) (x : Str) (C0 : Addr) (ns : List Str) (m : MS) : Prop where
  ex : ∃ (f : Addr) (fd : FuncData) (ps : List Str), FnOk P w K mg base (L2.CX P w) k f fd ps (spI ⟨K, Ts, fw w⟩ C0 ns m) ∧ mg x = some (.ref C0) ∧ Mk K C0 f ∧ KBn K fd ps 1 ns (fun us ws => us ++ ws) (fun vs zs => vs ++ zs)
theorem kb_all {K : PySem.W.Frag} {x qual : Str} {params : Arguments} {body : List Stmt} {scope : Scope} {kws : List (Str × V)} {f : Addr} {fd : FuncData} {ps ks : List Str} (F : FunD K x qual params body scope [] kws f fd)
    (h : ∀ (kV doc pm : Value) (an : Option Addr) (cdv ct : Value) (us ws : List Value), us.length = 1 → ws.length = ks.length → bindArgs (PySem.W.fnOf x qual params body scope .none kV doc pm an cdv ct) ⟨us, ks.zip ws⟩ = pure (ps.zip (us ++ ws))) :
    KBn K fd ps 1 ks (fun us ws => us ++ ws) (fun vs zs => vs ++ zs) := by
  obtain ⟨oc, od, dV, kV, doc, pm, an, cdv, ct, osl, rfl, lk, hcd, hD, hK⟩ := F.ex
  rcases hD with ⟨_, rfl⟩ | ⟨e, _⟩
  · exact ⟨fun s us ws X l1 l2 => .of_eq (h kV doc pm an cdv ct us ws l1 l2), fun r1 r2 => r1.append r2⟩
  · exact absurd rfl e
theorem de_make {k : Nat} {x : Str} {C0 : Addr} {ns : List Str} {m : MS} {p : Pos} {kws : List Keyword} {tk : TA} {mk : Sl → M (List D)} (h : OwnC X.prog X.w X.K X.mg X.base Ts k x C0 ns m) (hr : Room (k + 1) X.A) (hg : Gl X x) (hx : PsE X E) (hkw : DK X Ts E kws tk mk) (hne : ns ≠ [])
    (hall : (backToKw pos (keywordEach kws X.env)).all (·.1.isSome) = true := by rfl) (hks : (backToKw pos (keywordEach kws X.env)).filterMap (·.1) = ns := by rfl) (hdb : (x == ("__debug__" : Str)) = false := by decide)
    (hpl : ((backTo pos (starEach [] X.env)).any (·.1) || (backToKw pos (keywordEach kws X.env)).any (·.1.isNone)) = false := by rfl) :
    DE X Ts E (.Call (.Name x p) [] kws pos) (tMakeK C0 0 ns.length (spI ⟨X.K, Ts, fw X.w⟩ C0 ns m) (fun vs zs => vs ++ zs) E tNil tk) (fun s => bnd (mk s) (makeD C0 ns m)) := by
  obtain ⟨f, fd, ps, hF, hm, M, hb⟩ := h.ex
  refine ⟨pe_makeK0 M hF hr hg hm hb hx hkw.pe hall hks hdb hpl, fun ρ σ H s G Q R S h => ?_⟩
  show tk σ H _
  refine hkw.rf ρ σ H s G _ R S (Run.map R h fun ds G1 zs ρ1 H1 R1 i h1 => ?_)
  have i : IsL X.K ρ1 H1 ds zs := i
  unfold makeD at h1
  by_cases hd : ds.length = ns.length
  · rw [if_pos hd] at h1
    refine ⟨rfl, by rw [← i.len, hd], fun y dx hy hdx ne => ?_⟩
    have st1 : Step ⟨X.K, Ts, fw X.w⟩ ρ1 H1 ρ1 G1 (upd H1 dx (.own y)) := Step.lay R1 hdx
    have hy1 : upd H1 dx (.own y) y = none := by rw [upd_ne ne.symm]; exact hy
    have st2 : Step ⟨X.K, Ts, fw X.w⟩ ρ1 H1 ρ1 G1 (upd (upd H1 dx (.own y)) y (.ins C0 dx [])) := st1.trans (Step.lay st1.rel hy1)
    refine ⟨y, dx, ρ1, G1, ds, zs, rfl, upd_same, st2.rel, IsL.step R1 st2 i, hd, ?_⟩
    cases e1 : iniM m ds G1 with
    | bad => rw [e1] at h1; exact h1.elim
    | ex c d g =>
      rw [e1] at h1
      exact ExOk.step st2 h1
    | ok u g =>
      rw [e1] at h1
      intro ws ρ2 H2 st3 iw hy2
      have iw : IsL X.K ρ2 H2 ds ws := iw
      refine ⟨rfl, ?_⟩
      have st4 := (st2.trans st3).born (fs := ns.zip ws) hy hy2
      refine h1 (.ref y) ρ2 _ st4 ?_
      show Is X.K ρ2 _ (.ins C0 ns ds) (.ref y)
      simp only [Is]
      exact ⟨y, dx, ws, [], rfl, by rw [List.append_nil]; exact upd_same, ⟨by rw [← hd, iw.len], hne, fun _ z => by cases z⟩, IsL.born hy2 _ _ iw⟩
  · rw [if_neg hd] at h1
    exact h1.elim
def extendD (x : D) (ds : List D) : M D := fun g => match x, ds with
  | .ref n, [.ref m] => match g[n]?, g[m]? with
    | some (.lst xs), some (.lst ys) => if xs.length + ys.length ≤ LIM then .ok .non (g.set n (.lst (xs ++ ys))) else .bad
    | _, _ => .bad
  | _, _ => .bad
theorem mtd_extend : MtD C rExtend "list" extendD := by
  intro ρ G H x ds u vs Q E R i j h
  unfold extendD at h
  split at h
  · rename_i n m
    split at h
    · rename_i xs ys e1 e2
      split at h
      · rename_i hc
        obtain ⟨p, ws, rfl, hn, hp, hl⟩ := R.lst e1 i
        obtain ⟨w, rfl, j2⟩ := isl_one j
        obtain ⟨p2, ws2, rfl, hn2, hp2, hl2⟩ := R.lst e2 j2
        refine ⟨p, p2, ws, ws2, rfl, rfl, hp, hp2, by rw [← hl.len, ← hl2.len]; exact lim_ok hc, ?_⟩
        exact h .non ρ _ (Step.write R hn hp (c := .lst (xs ++ ys)) ⟨_, rfl, hl.app hl2⟩) isNon
      · exact h.elim
    · exact h.elim
  · exact h.elim
end
end DL
namespace DL
open PySem PySem.Spec PyProof.Rows L2
theorem tup_once (l : Addr) (its : Array Value) (n : Nat) (dd : Option Addr) (sl : Array (Option Value)) (u : Tok) (h0 : its.isEmpty = false) :
    Meets (Builtin.«tuple.__mul__» ⟨[.ref l, .int 1 u], []⟩) (fun _ R s => s.heap.get? l = some ⟨.type "tuple", dd, .seq its n, sl⟩ ∧ R (.ok (.ret (Value.ref l))) s) :=
  .of_wp fun prog w A R s h => by
    obtain ⟨hp, g, d, tk, os⟩ := s
    obtain ⟨hl, h⟩ := h
    have f1 := AutoSeq1.idx_int
    wp_walk using wpAny_loadPart' hl
    exact ⟨_, rfl, h⟩
/-- a tuple once -/
def rOnce (K : PySem.W.Frag) : R2 := fun x y H Q => ∃ l xs, x = .ref l ∧ y = .int 1 ∧ SqT K H l xs ∧ xs ≠ [] ∧ Q (.ref l) H
theorem op_once {X : Cx} : OpR X (binaryOp .Mult) (rOnce X.K) := by
  intro pins s σ H x y v u Q I rx ry h
  obtain ⟨l, xs, rfl, rfl, hT, hne, q⟩ := h
  cases rx
  obtain ⟨t, rfl⟩ := ry
  obtain ⟨its, r, ⟨⟨cls, dd, data, sl⟩, ho, hc, n, hd⟩, hs⟩ := I.tuple hT
  dsimp only at hc hd
  subst hc hd
  have hi : its.toArray.isEmpty = false := by
    cases its with
    | nil =>
      have := r.length
      exact absurd (List.eq_nil_of_length_eq_zero this) hne
    | cons a b => rfl
  have fin : (fun v s' => EP X pins σ Q v s') (.ref l) s := ⟨.ref l, H, I, rfl, q⟩
  refine wpAny_binaryOp_repeat_ref
    (T := "tuple") (U := "int") (by decide) ⟨_, ho, rfl⟩
    (fun s' => typeIs_int s' 1 t) noFill_tuple_mul
    F.fills_int_mul F.slot_int_rmul
    repeat_tuple F.slot_int_index.lookup ?_
  refine call_meets F.slot_int_rmul
    (typeIs_int s 1 t) F.entry_int_rmul
    (F.args_int_rmul_2 _ _)
    (int_rmul_tuple 1 t l its.toArray n dd sl)
    ⟨ho, rfl, ⟨_, ho, rfl⟩, ?_⟩
  refine call_meets F.slot_tuple_mul
    ⟨_, ho, rfl⟩ F.entry_tuple_mul
    (F.args_tuple_mul_2 _ _)
    (tup_once l its.toArray n dd sl t hi) ⟨ho, ?_⟩
  exact ⟨.ref l, H, I, rfl, q⟩
open Classical
noncomputable section
/-- t * n of a tuple, n from 1 on; of ints as before -/
abbrev rMulA (K : PySem.W.Frag) : R2 := fun x y H Q => (rI CMul fun i j => .int (i * j)) x y H Q ∨ (rOnce K x y H Q ∨ rRepT K x y H Q)
theorem op_mulA {X : Cx} : OpR X (binaryOp .Mult) (rMulA X.K) := op_mul.or (op_once.or op_repT)
def mulA (x y : D) : M D := match x, y with
  | .int i, .int j => mulI (.int i) (.int j)
  | .tup ds, .int k => fun g => if ds ≠ [] ∧ k = 1 then .ok (.tup ds) g else if (ds ≠ [] ∧ 2 ≤ k) ∧ (k ≤ 1000 ∧ ds.length ≤ 1000) then .ok (.tup (List.replicate k.toNat ds).flatten) g else .bad
  | _, _ => fail
theorem IsL.rep {K : PySem.W.Frag} {ρ : List Addr} {H : Hp} {ds : List D} {vs : List V} (h : IsL K ρ H ds vs) : ∀ n : Nat, IsL K ρ H (List.replicate n ds).flatten (List.replicate n vs).flatten
  | 0 => .nil
  | n + 1 => by
    rw [List.replicate_succ, List.replicate_succ, List.flatten_cons, List.flatten_cons]
    exact h.app (h.rep n)
theorem isL_ne {K : PySem.W.Frag} {ρ : List Addr} {H : Hp} {ds : List D} {vs : List V} (h : IsL K ρ H ds vs) (hn : ds ≠ []) : vs ≠ [] := fun e => by
  have := h.len
  rw [e] at this
  exact hn (List.eq_nil_of_length_eq_zero this)
theorem opd_mulA {C : Ct} : OpD C (rMulA C.K) mulA := by
  intro ρ G H x y u v Q E R i j h
  unfold mulA at h
  split at h
  · exact .inl (opd_mulI ρ G H _ _ u v Q E R i j h)
  · rename_i ds k
    obtain ⟨p, vs, rfl, hp, hl⟩ := is_tup i
    by_cases h1 : ds ≠ [] ∧ k = 1
    · rw [if_pos h1] at h
      obtain ⟨hn, rfl⟩ := h1
      exact .inr (.inl ⟨p, vs, rfl, is_int j, hp, isL_ne hl hn, Run.ret (Ok := okD C) R h (isTup hp hl)⟩)
    · rw [if_neg h1] at h
      by_cases h2 : (ds ≠ [] ∧ 2 ≤ k) ∧ (k ≤ 1000 ∧ ds.length ≤ 1000)
      · rw [if_pos h2] at h
        exact .inr (.inr ⟨p, k, vs, rfl, is_int j, hp, isL_ne hl h2.1.1, h2.1.2, h2.2.1, by rw [← hl.len]; exact h2.2.2, Run.newT R h (hl.rep k.toNat)⟩)
      · rw [if_neg h2] at h
        exact h.elim
  · exact h.elim
theorem hu1 {k : Nat} {A : Around} (hr : Room k A) : A.units + 1 < cLine := by
  have := hr.un
  omega
end
end DL
namespace DL
open PySem PySem.Spec PyProof.Rows L2
open Classical
noncomputable section
variable {X : Cx} {Ts : List Addr} {E : XK} {a b c e : Expr} {ta tb tc te : TE} {ma mb mc me : Sl → M D} {pos : Pos} {C : Ct} {es : List Expr} {t u : TT} {mt mu : Sl → M Bool} {tr : TA} {mr : Sl → M (List D)}
theorem de_globI {x : Str} {i : Int} (hg : Gl X x) (hm : ∃ t, X.mg x = some (.int i t)) (hd : (x == ("__debug__" : Str)) = false := by decide) : DE X Ts E (.Name x pos) (tC (.int i)) (fun _ => pur (.int i)) := by
  obtain ⟨t, h⟩ := hm
  exact de_c (pe_glob hg h ⟨t, rfl⟩ hd) rfl fun _ _ => isInt
def putD (ds : List (Key × D)) (k : Key) (d : D) : List (Key × D) :=
  if ds.any (fun q => decide (q.1 = k)) then ds.map (fun q => if q.1 = k then (q.1, d) else q) else ds ++ [(k, d)]
theorem IsK.any {K : PySem.W.Frag} {ρ : List Addr} {H : Hp} {k : Key} : ∀ {ds : List (Key × D)} {vs : List (Key × V)}, IsK K ρ H ds vs → (ds.any fun q => decide (q.1 = k)) = (vs.any fun q => decide (q.1 = k))
  | _, _, .nil => rfl
  | p :: ds, q :: vs, .cons h t => by rw [List.any_cons, List.any_cons, h.1, IsK.any t]
theorem IsK.over {K : PySem.W.Frag} {ρ : List Addr} {H : Hp} {k : Key} {d : D} {v : V} (hd : Is K ρ H d v) : ∀ {ds : List (Key × D)} {vs : List (Key × V)}, IsK K ρ H ds vs → IsK K ρ H (ds.map (fun q => if q.1 = k then (q.1, d) else q)) (vs.map (fun q => if q.1 = k then (q.1, v) else q))
  | _, _, .nil => .nil
  | p :: ds, q :: vs, .cons h t => by
    rw [List.map_cons, List.map_cons]
    refine .cons ?_ (IsK.over hd t)
    by_cases e : p.1 = k
    · rw [if_pos e, if_pos (by rw [← h.1]; exact e)]
      exact ⟨h.1, hd⟩
    · rw [if_neg e, if_neg (by rw [← h.1]; exact e)]
      exact h
theorem IsK.app {K : PySem.W.Frag} {ρ : List Addr} {H : Hp} {p : Key × D} {q : Key × V} (hp : p.1 = q.1 ∧ Is K ρ H p.2 q.2) : ∀ {ds : List (Key × D)} {vs : List (Key × V)}, IsK K ρ H ds vs → IsK K ρ H (ds ++ [p]) (vs ++ [q])
  | _, _, .nil => .cons hp .nil
  | _ :: _, _ :: _, .cons h t => .cons h (IsK.app hp t)
theorem IsK.put {K : PySem.W.Frag} {ρ : List Addr} {H : Hp} {k : Key} {d : D} {v : V} (hd : Is K ρ H d v) {ds : List (Key × D)} {vs : List (Key × V)} (h : IsK K ρ H ds vs) : IsK K ρ H (putD ds k d) (putK vs k v) := by
  unfold putD putK
  rw [h.any (k := k)]
  by_cases e : (vs.any fun q => decide (q.1 = k)) = true
  · rw [if_pos e, if_pos e]
    exact h.over hd
  · rw [if_neg e, if_neg e]
    exact h.app ⟨rfl, hd⟩
end
end DL
namespace DL
open PySem PySem.Spec PyProof.Rows L2
open Classical
end DL
namespace DL
open PySem PySem.Spec PyProof.Rows L2
open Classical
noncomputable section
variable {X : Cx} {Ts : List Addr} {E : XK} {a b c e : Expr} {ta tb tc te : TE} {ma mb mc me : Sl → M D} {pos : Pos} {C : Ct} {es : List Expr} {t u : TT} {mt mu : Sl → M Bool} {tr : TA} {mr : Sl → M (List D)}
theorem Sls.mono {K : PySem.W.Frag} {ρ ρ1 : List Addr} {H H1 : Hp} {σ : L2.St} {s : Sl} (p : ρ <+: ρ1) (x : TExt H H1) (S : Sls K ρ H σ s) : Sls K ρ1 H1 σ s :=
  ⟨S.len, fun i d e => let ⟨v, e1, e2⟩ := S.at_ i d e; ⟨v, e1, e2.mono p x⟩⟩
theorem TExt.trans {H H1 H2 : Hp} (a : TExt H H1) (b : TExt H1 H2) : TExt H H2 := ⟨fun q o e h1 h2 => b.keep q o (a.keep q o e h1 h2) h1 h2⟩
end
end DL
namespace DL
open PySem PySem.Spec PyProof.Rows L2
open Classical
end DL
namespace DL
open PySem PySem.Spec PyProof.Rows L2
open Classical
noncomputable section
variable {X : Cx} {Ts : List Addr} {E : XK} {a b c e : Expr} {ta tb tc te : TE} {ma mb mc me : Sl → M D} {pos : Pos} {C : Ct} {es : List Expr} {t u : TT} {mt mu : Sl → M Bool} {tr : TA} {mr : Sl → M (List D)} {sts : List Stmt} {tS : TS} {m1 : MS}
section
variable {C0 fI : Addr} {i : Nat} {x n : Str} {b0 : Stmt} {suite : List Stmt} {np pos' : Pos} {ts : Addr → Addr → TS} {ms : Addr → Addr → MS}
abbrev o0 : Obj := { cls := .none, data := .fields #[] }
end
end
end DL
namespace DL
open PySem PySem.Spec PyProof.Rows L2
open Classical
end DL
namespace DL
open PySem PySem.Spec PyProof.Rows L2
open Classical
end DL
namespace DL
open PySem PySem.Spec PyProof.Rows L2
open Classical
noncomputable section
abbrev NK := DN.NK
mutual
/-- data as a key -/
def toK : D → Option NK
  | .non => some .none
  | .int i => some (.num i)
  | .tup ds => (toKs ds).map .tup
  | .bl _ => none
  | .str _ => none
  | .ref _ => none
  | .ins _ _ _ => none
  | .scr _ => none
  | .ty _ => none
  | .cls _ => none
  | .exc _ _ _ => none
  | .dct _ _ _ => none
def toKs : List D → Option (List NK)
  | [] => some []
  | d :: ds => (toK d).bind fun k => (toKs ds).map fun ks => k :: ks
end
section
variable {K : PySem.W.Frag} {ρ : List Addr} {H : Hp}
mutual
theorem kv_of : ∀ (d : D) (v : V) (k : NK), Is K ρ H d v → toK d = some k → DN.KV K H k v
  | .non, v, k, i, e => by
    simp only [toK, Option.some.injEq] at e
    subst e
    simpa only [Is, DN.KV] using i
  | .int n, v, k, i, e => by
    simp only [toK, Option.some.injEq] at e
    subst e
    simpa only [Is, DN.KV] using i
  | .tup ds, v, k, i, e => by
    simp only [toK] at e
    obtain ⟨ks, e1, rfl⟩ := Option.map_eq_some_iff.mp e
    simp only [Is] at i
    obtain ⟨a, vs, rfl, i1, i2⟩ := i
    simp only [DN.KV]
    exact ⟨a, vs, rfl, i1, kvs_of ds vs ks i2 e1⟩
  | .bl _, _, _, _, e => by simp [toK] at e
  | .str _, _, _, _, e => by simp [toK] at e
  | .ref _, _, _, _, e => by simp [toK] at e
  | .ins _ _ _, _, _, _, e => by simp [toK] at e
  | .scr _, _, _, _, e => by simp [toK] at e
  | .ty _, _, _, _, e => by simp [toK] at e
  | .cls _, _, _, _, e => by simp [toK] at e
  | .exc _ _ _, _, _, _, e => by simp [toK] at e
  | .dct _ _ _, _, _, _, e => by simp [toK] at e
theorem kvs_of : ∀ (ds : List D) (vs : List V) (ks : List NK), IsL K ρ H ds vs → toKs ds = some ks → DN.KVs K H ks vs
  | [], vs, ks, i, e => by
    simp only [toKs, Option.some.injEq] at e
    subst e
    simpa only [IsL, DN.KVs] using i
  | d :: ds, vs, ks, i, e => by
    simp only [toKs] at e
    obtain ⟨k, e1, e2⟩ := Option.bind_eq_some_iff.mp e
    obtain ⟨ks', e3, rfl⟩ := Option.map_eq_some_iff.mp e2
    simp only [IsL] at i
    obtain ⟨v, r, rfl, i1, i2⟩ := i
    simp only [DN.KVs]
    exact ⟨v, r, rfl, kv_of d v k i1 e1, kvs_of ds r ks' i2 e3⟩
end
end
mutual
theorem dry_of : ∀ (d : D) (k : NK), toK d = some k → DN.dry k = true
  | .non, k, e => by
    simp only [toK, Option.some.injEq] at e
    subst e
    rfl
  | .int n, k, e => by
    simp only [toK, Option.some.injEq] at e
    subst e
    rfl
  | .tup ds, k, e => by
    simp only [toK] at e
    obtain ⟨ks, e1, rfl⟩ := Option.map_eq_some_iff.mp e
    simp only [DN.dry]
    exact dryL_of ds ks e1
  | .bl _, _, e => by simp [toK] at e
  | .str _, _, e => by simp [toK] at e
  | .ref _, _, e => by simp [toK] at e
  | .ins _ _ _, _, e => by simp [toK] at e
  | .scr _, _, e => by simp [toK] at e
  | .ty _, _, e => by simp [toK] at e
  | .cls _, _, e => by simp [toK] at e
  | .exc _ _ _, _, e => by simp [toK] at e
  | .dct _ _ _, _, e => by simp [toK] at e
theorem dryL_of : ∀ (ds : List D) (ks : List NK), toKs ds = some ks → DN.dryL ks = true
  | [], ks, e => by
    simp only [toKs, Option.some.injEq] at e
    subst e
    rfl
  | d :: ds, ks, e => by
    simp only [toKs] at e
    obtain ⟨k, e1, e2⟩ := Option.bind_eq_some_iff.mp e
    obtain ⟨ks', e3, rfl⟩ := Option.map_eq_some_iff.mp e2
    simp only [DN.dryL, dry_of d k e1, dryL_of ds ks' e3, Bool.and_self]
end
variable {X : Cx} {Ts : List Addr} {E : XK} {a b c e o : Expr} {ta tb tc te to : TE} {ma mb mc me mo : Sl → M D} {pos apos cpos : Pos} {C : Ct} {es : List Expr} {t u : TT} {mt mu : Sl → M Bool} {tr : TA} {mr : Sl → M (List D)}
/-- what a reference to a set tells -/
theorem Rel.setc {ρ : List Addr} {G : GS} {H : Hp} (R : Rel C ρ G H) {n : Nat} {ks : List NK} {v : V} (h : G[n]? = some (.set ks)) (i : Is C.K ρ H (.ref n) v) : ∃ a L, v = .ref a ∧ ρ[n]? = some a ∧ H a = some (DN.SetO C.fo.b a L) ∧ (∀ e ∈ L, DN.Mem C.K H e.2 e.1) ∧ (L.map (·.2)).Perm ks := by
  simp only [Is] at i
  obtain ⟨a, rfl, ha⟩ := i
  obtain ⟨o, e, L, rfl, q1, q2⟩ := R.cell n _ a h ha
  exact ⟨a, L, rfl, ha, e, q1, q2⟩
theorem mem_of {ρ : List Addr} {H : Hp} {K : PySem.W.Frag} {ds : List D} {v : V} {k : NK} (i : Is K ρ H (.tup ds) v) (e : toK (.tup ds) = some k) (low : k.depth ≤ 8) : ∃ b, v = .ref b ∧ DN.Mem K H k b := by
  obtain ⟨b, vs, rfl, _⟩ := is_tup i
  exact ⟨b, rfl, kv_of _ _ _ i e, low, dry_of _ _ e⟩
def newSetD (ds : List D) : M D := fun g => match ds with
  | [] => .ok (.ref g.length) (g ++ [.set []])
  | _ => .bad
theorem calld_newSet {fo : Bool} (hf : C.fo.b = fo) : CallD C (DN.rNewN fo) newSetD := by
  subst hf
  intro ρ G H ds vs Q E R i h
  unfold newSetD at h
  split at h
  · simp only [IsL] at i
    subst i
    exact ⟨rfl, fun p hp => h (.ref p) _ _ (Step.alloc R (c := .set []) hp ⟨[], rfl, fun e m => (by cases m), .nil⟩) R.new_at⟩
  · exact h.elim
theorem de_newSet {x : Str} {p : Pos} (hg : Gl X x) (hm : X.mg x = none) (hv : bootBuiltins x = some (.type "set")) (hn : x ≠ "__name__" := by decide) (hdb : (x == ("__debug__" : Str)) = false := by decide) :
    DE X Ts E (.Call (.Name x p) [] [] pos) (tCB (DN.rNewN (fw X.w).b) tNil) (fun s => bnd (pur []) newSetD) := by
  refine ⟨pe_callTy0 DN.call_newN hg hm hv hn hdb, fun ρ σ H s G Q R S h => ?_⟩
  exact calld_newSet (C := ⟨X.K, Ts, fw X.w⟩) rfl ρ G H [] [] Q E R .nil h
def setM (x : D) : M D := fun g => match x with
  | .ref n => match g[n]? with
    | some (.set _) => .ok x g
    | _ => .bad
  | _ => .bad
def putK (ks : List NK) (k : NK) : List NK := if k ∈ ks then ks else ks ++ [k]
def addSetD (x : D) (ds : List D) : M D := fun g => match x, ds with
  | .ref n, [.tup es] => match g[n]? with
    | some (.set ks) => match toK (.tup es) with
      | some k => if k.depth ≤ 8 ∧ ks.length + 1 ≤ 1228 then .ok .non (g.set n (.set (putK ks k))) else .bad
      | none => .bad
    | _ => .bad
  | _, _ => .bad
theorem run_addSet {ρ : List Addr} {G : GS} {H : Hp} {x : D} {ds : List D} {u : V} {vs : List V} {Q : VK} (R : Rel C ρ G H) (i : Is C.K ρ H x u) (j : IsL C.K ρ H ds vs) (h : Run C ρ H (okD C) (addSetD x ds G) Q E) : DN.rAddN C.K u vs H Q := by
  unfold addSetD at h
  split at h
  · rename_i n es
    split at h
    · rename_i ks e1
      split at h
      · rename_i k ek
        split at h
        · rename_i hc
          obtain ⟨p, L, rfl, hn, hp, q1, q2⟩ := R.setc e1 i
          obtain ⟨w, rfl, j2⟩ := isl_one j
          obtain ⟨b, rfl, m⟩ := mem_of j2 ek hc.1
          refine ⟨p, b, C.fo.b, k, L, rfl, rfl, hp, m, q1, by rw [← List.length_map (f := (·.2)), q2.length_eq]; exact hc.2, fun L' y n' => ?_⟩
          have mm : k ∈ L.map (·.2) ↔ k ∈ ks := q2.mem_iff
          refine h .non ρ _ (Step.write R hn hp (c := .set (putK ks k)) ⟨L', rfl, ?_, ?_⟩) isNon
          · by_cases c : k ∈ L.map (·.2)
            · rw [y c]
              exact q1
            · intro e he
              rcases List.mem_cons.mp ((n' c).mem_iff.mp he) with rfl | he
              · exact m
              · exact q1 e he
          · unfold putK
            by_cases c : k ∈ ks
            · rw [if_pos c, y (mm.mpr c)]
              exact q2
            · rw [if_neg c]
              have z := (n' fun z => c (mm.mp z)).map (·.2)
              rw [List.map_cons] at z
              exact z.trans ((q2.cons k).trans (List.perm_append_singleton k ks).symm)
        · exact h.elim
      · exact h.elim
    · exact h.elim
  · exact h.elim
def tAddN (K : PySem.W.Frag) (to : TE) (t : TA) : TE := fun σ H Q => to σ H fun x H1 => (∃ a fo L, x = V.ref a ∧ H1 a = some (DN.SetO fo a L)) ∧ t σ H1 fun xs H2 => DN.rAddN K x xs H2 Q
theorem pe_addN (room : X.A.units + 64 < cLine) (ho : PE X o to) (ha : PA X (e :: es) tr)
    (base : attributeBase o "add" X.env (eval o X.env) = eval o X.env := by rfl)
    (few : ((backTo cpos (starEach (e :: es) X.env)).all (fun x => !x.1) && (backToKw cpos (keywordEach [] X.env)).all (fun x => x.1.isSome) && decide ((e :: es).length + ([] : List Keyword).length + (if ([] : List Keyword).isEmpty then 0 else 1) < 30)) = true := by rfl)
    (line : (apos.endLine == cpos.line) = true := by rfl) (one : starEach (e :: es) X.env = (false, eval e X.env) :: starEach es X.env := by rfl) (pl : (backTo cpos (starEach es X.env)).any (·.1) = false := by rfl) :
    PE X (.Call (.Attribute o "add" apos) (e :: es) [] cpos) (tAddN X.K to tr) := by
  refine ⟨fun pins s σ H Q I h => ?_⟩
  refine wpAny_Call_method_late base few line rfl (thn (ho.run pins s σ H _ I h) fun v s1 z => ?_)
  obtain ⟨x, H1, I1, r1, ⟨a, fo, L, rfl, ha1⟩, q1⟩ := z
  cases r1
  have D0 : DN.SetD fo a L s1.heap := (I1.hok a _ ha1).1
  obtain ⟨es', ep, t, ⟨ob, o1, o2, o3⟩, _⟩ := D0
  refine ⟨"set", "set.add", F.plainAttrs_set, F.slot_set_add, F.type_set_add, ⟨ob, o1, o2.1⟩, fun c z => ?_, ?_⟩
  · injection z with z
    subst z
    exact ⟨ob, o1, o2.2.1⟩
  · have back := ha.run cpos pins s1 σ H1 _ I1 q1
    rw [one] at back ⊢
    refine Calls.callWith_builtin (by show (false || (backTo cpos (starEach es X.env)).any (·.1)) = false; rw [pl]; rfl) (Calls.evalArgs_plain ?_)
    refine thn back fun us s2 z2 => ?_
    obtain ⟨vs, H2, I2, r2, q2⟩ := z2
    exact DN.meth_addN room pins s2 σ H2 (.ref a) vs (.ref a) us Q I2 rfl r2 q2
theorem de_addSet (room : X.A.units + 64 < cLine) (ho : DE X Ts E o to mo) (ha : DA X Ts E (e :: es) tr mr)
    (base : attributeBase o "add" X.env (eval o X.env) = eval o X.env := by rfl)
    (few : ((backTo cpos (starEach (e :: es) X.env)).all (fun x => !x.1) && (backToKw cpos (keywordEach [] X.env)).all (fun x => x.1.isSome) && decide ((e :: es).length + ([] : List Keyword).length + (if ([] : List Keyword).isEmpty then 0 else 1) < 30)) = true := by rfl)
    (line : (apos.endLine == cpos.line) = true := by rfl) (one : starEach (e :: es) X.env = (false, eval e X.env) :: starEach es X.env := by rfl) (pl : (backTo cpos (starEach es X.env)).any (·.1) = false := by rfl) :
    DE X Ts E (.Call (.Attribute o "add" apos) (e :: es) [] cpos) (tAddN X.K to tr) (fun s => bnd (mo s) fun x => bnd (setM x) fun x => bnd (mr s) (addSetD x)) := by
  refine ⟨pe_addN room ho.pe ha.pe base few line one pl, fun ρ σ H s G Q R S h => ?_⟩
  refine ho.rf ρ σ H s G _ R S (Run.first h fun x G1 v ρ1 H1 st i h1 => ?_)
  have i : Is X.K ρ1 H1 x v := i
  unfold bnd setM at h1
  cases x with
  | ref n =>
    dsimp only at h1
    cases e1 : G1[n]? with
    | none => rw [e1] at h1; exact h1.elim
    | some cl =>
      rw [e1] at h1
      cases cl with
      | set ks =>
        obtain ⟨p, L, rfl, hn, hp, _, _⟩ := Rel.setc (C := ⟨X.K, Ts, fw X.w⟩) st.rel e1 i
        refine ⟨⟨p, _, L, rfl, hp⟩, ?_⟩
        exact ha.rf ρ1 σ H1 s G1 _ st.rel (S.step R st) (Run.first (k := addSetD (.ref n)) h1 fun ds G2 vs ρ2 H2 st2 j h2 => run_addSet (C := ⟨X.K, Ts, fw X.w⟩) st2.rel (Is.step st.rel st2 i) j h2)
      | _ => exact h1.elim
  | _ => exact h1.elim
def inSetD (neg : Bool) (x y : D) : M D := fun g => match x, y with
  | .tup es, .ref n => match g[n]? with
    | some (.set ks) => match toK (.tup es) with
      | some k => if k.depth ≤ 8 then .ok (.bl (if neg then !decide (k ∈ ks) else decide (k ∈ ks))) g else .bad
      | none => .bad
    | _ => .bad
  | _, _ => .bad
theorem opd_inSet {neg : Bool} : OpD C (DN.rInN C.K neg) (inSetD neg) := by
  intro ρ G H x y u v Q E R i j h
  unfold inSetD at h
  split at h
  · rename_i es n
    split at h
    · rename_i ks e1
      split at h
      · rename_i k ek
        split at h
        · rename_i low
          obtain ⟨p, L, rfl, hn, hp, q1, q2⟩ := R.setc e1 j
          obtain ⟨b, rfl, m⟩ := mem_of i ek low
          refine ⟨p, b, C.fo.b, k, L, rfl, rfl, hp, m, q1, ?_⟩
          have ee : decide (k ∈ L.map (·.2)) = decide (k ∈ ks) := decide_eq_decide.mpr q2.mem_iff
          rw [ee]
          exact Run.ret (Ok := okD C) R h isBl
        · exact h.elim
      · exact h.elim
    · exact h.elim
  · exact h.elim
end
end DL
namespace DL
open PySem PySem.Spec PyProof.Rows L2
open Classical
end DL
namespace DL
open PySem PySem.Spec PyProof.Rows L2
end DL
namespace DL
open PySem PySem.Spec PyProof.Rows L2
open Classical
noncomputable section
mutual
/-- data as a key, texts too -/
def toT : D → Option NK
  | .non => some .none
  | .int i => some (.num i)
  | .str x => some (.text x)
  | .tup ds => (toTs ds).map .tup
  | .bl _ => none
  | .ref _ => none
  | .ins _ _ _ => none
  | .scr _ => none
  | .ty _ => none
  | .cls _ => none
  | .exc _ _ _ => none
  | .dct _ _ _ => none
def toTs : List D → Option (List NK)
  | [] => some []
  | d :: ds => (toT d).bind fun k => (toTs ds).map fun ks => k :: ks
end
mutual
theorem toT_K : ∀ (d : D) (k : NK), toK d = some k → toT d = some k
  | .non, k, e => by simpa only [toK, toT] using e
  | .int _, k, e => by simpa only [toK, toT] using e
  | .tup ds, k, e => by
    simp only [toK] at e
    obtain ⟨ks, e1, rfl⟩ := Option.map_eq_some_iff.mp e
    simp only [toT, toTs_K ds ks e1, Option.map_some]
  | .bl _, _, e => by simp [toK] at e
  | .str _, _, e => by simp [toK] at e
  | .ref _, _, e => by simp [toK] at e
  | .ins _ _ _, _, e => by simp [toK] at e
  | .scr _, _, e => by simp [toK] at e
  | .ty _, _, e => by simp [toK] at e
  | .cls _, _, e => by simp [toK] at e
  | .exc _ _ _, _, e => by simp [toK] at e
  | .dct _ _ _, _, e => by simp [toK] at e
theorem toTs_K : ∀ (ds : List D) (ks : List NK), toKs ds = some ks → toTs ds = some ks
  | [], ks, e => by simpa only [toKs, toTs] using e
  | d :: ds, ks, e => by
    simp only [toKs] at e
    obtain ⟨k, e1, e2⟩ := Option.bind_eq_some_iff.mp e
    obtain ⟨ks', e3, rfl⟩ := Option.map_eq_some_iff.mp e2
    simp only [toTs, toT_K d k e1, toTs_K ds ks' e3, Option.bind_some, Option.map_some]
end
section
variable {K : PySem.W.Frag} {ρ : List Addr} {H : Hp}
mutual
theorem kvt_of : ∀ (d : D) (v : V) (k : NK), Is K ρ H d v → toT d = some k → DN.KV K H k v
  | .non, v, k, i, e => by
    simp only [toT, Option.some.injEq] at e
    subst e
    simpa only [Is, DN.KV] using i
  | .int n, v, k, i, e => by
    simp only [toT, Option.some.injEq] at e
    subst e
    simpa only [Is, DN.KV] using i
  | .str n, v, k, i, e => by
    simp only [toT, Option.some.injEq] at e
    subst e
    simpa only [Is, DN.KV] using i
  | .tup ds, v, k, i, e => by
    simp only [toT] at e
    obtain ⟨ks, e1, rfl⟩ := Option.map_eq_some_iff.mp e
    simp only [Is] at i
    obtain ⟨a, vs, rfl, i1, i2⟩ := i
    simp only [DN.KV]
    exact ⟨a, vs, rfl, i1, kvts_of ds vs ks i2 e1⟩
  | .bl _, _, _, _, e => by simp [toT] at e
  | .ref _, _, _, _, e => by simp [toT] at e
  | .ins _ _ _, _, _, _, e => by simp [toT] at e
  | .scr _, _, _, _, e => by simp [toT] at e
  | .ty _, _, _, _, e => by simp [toT] at e
  | .cls _, _, _, _, e => by simp [toT] at e
  | .exc _ _ _, _, _, _, e => by simp [toT] at e
  | .dct _ _ _, _, _, _, e => by simp [toT] at e
theorem kvts_of : ∀ (ds : List D) (vs : List V) (ks : List NK), IsL K ρ H ds vs → toTs ds = some ks → DN.KVs K H ks vs
  | [], vs, ks, i, e => by
    simp only [toTs, Option.some.injEq] at e
    subst e
    simpa only [IsL, DN.KVs] using i
  | d :: ds, vs, ks, i, e => by
    simp only [toTs] at e
    obtain ⟨k, e1, e2⟩ := Option.bind_eq_some_iff.mp e
    obtain ⟨ks', e3, rfl⟩ := Option.map_eq_some_iff.mp e2
    simp only [IsL] at i
    obtain ⟨v, r, rfl, i1, i2⟩ := i
    simp only [DN.KVs]
    exact ⟨v, r, rfl, kvt_of d v k i1 e1, kvts_of ds r ks' i2 e3⟩
end
theorem memt_of {ds : List D} {v : V} {k : NK} (i : Is K ρ H (.tup ds) v) (e : toT (.tup ds) = some k) (low : k.depth ≤ 8) : ∃ b, v = .ref b ∧ DN.MemT K H k b := by
  obtain ⟨b, vs, rfl, _⟩ := is_tup i
  exact ⟨b, rfl, kvt_of _ _ _ i e, low⟩
end
variable {X : Cx} {Ts : List Addr} {E : XK} {a b c e o : Expr} {ta tb tc te to : TE} {ma mb mc me mo : Sl → M D} {pos apos cpos : Pos} {C : Ct} {es : List Expr} {t u : TT} {mt mu : Sl → M Bool} {tr : TA} {mr : Sl → M (List D)}
theorem Rel.mapc {ρ : List Addr} {G : GS} {H : Hp} (R : Rel C ρ G H) {n : Nat} {ks : List (NK × D)} {v : V} (h : G[n]? = some (.map ks)) (i : Is C.K ρ H (.ref n) v) : ∃ a L, v = .ref a ∧ ρ[n]? = some a ∧ H a = some (DN.DictO C.fo.h a L) ∧ IsN C.K ρ H ks L := by
  simp only [Is] at i
  obtain ⟨a, rfl, ha⟩ := i
  obtain ⟨o, e, L, rfl, q⟩ := R.cell n _ a h ha
  exact ⟨a, L, rfl, ha, e, q⟩
theorem IsN.keys {K : PySem.W.Frag} {ρ : List Addr} {H : Hp} : ∀ {ds : List (NK × D)} {L : List DN.DEnt}, IsN K ρ H ds L → ds.map (·.1) = L.map (·.1)
  | _, _, .nil => rfl
  | _, _, .cons h t => by rw [List.map_cons, List.map_cons, h.1, IsN.keys t]
theorem IsN.mem {K : PySem.W.Frag} {ρ : List Addr} {H : Hp} : ∀ {ds : List (NK × D)} {L : List DN.DEnt}, IsN K ρ H ds L → ∀ e ∈ L, DN.MemT K H e.1 e.2.1
  | _, _, .nil, e, m => by cases m
  | _, _, .cons h t, e, m => by
    rcases List.mem_cons.mp m with rfl | m
    · exact h.2.1
    · exact IsN.mem t e m
theorem IsN.len {K : PySem.W.Frag} {ρ : List Addr} {H : Hp} {ds : List (NK × D)} {L : List DN.DEnt} (h : IsN K ρ H ds L) : ds.length = L.length := Paired.length h
def inMapD (neg : Bool) (x y : D) : M D := fun g => match x, y with
  | .tup es, .ref n => match g[n]? with
    | some (.map ds) => match toT (.tup es) with
      | some k => if k.depth ≤ 8 then .ok (.bl (if neg then !decide (k ∈ ds.map (·.1)) else decide (k ∈ ds.map (·.1)))) g else .bad
      | none => .bad
    | _ => .bad
  | _, _ => .bad
theorem opd_inMap {neg : Bool} : OpD C (DN.rInM C.fo.h C.K neg) (inMapD neg) := by
  intro ρ G H x y u v Q E R i j h
  unfold inMapD at h
  split at h
  · rename_i es n
    split at h
    · rename_i ds e1
      split at h
      · rename_i k ek
        split at h
        · rename_i low
          obtain ⟨p, L, rfl, hn, hp, q⟩ := R.mapc e1 j
          obtain ⟨b, rfl, m⟩ := memt_of i ek low
          refine ⟨p, b, k, L, rfl, rfl, hp, m, q.mem, ?_⟩
          rw [← q.keys]
          exact Run.ret (Ok := okD C) R h isBl
        · exact h.elim
      · exact h.elim
    · exact h.elim
  · exact h.elim
def putN (ds : List (NK × D)) (k : NK) (d : D) : List (NK × D) := if k ∈ ds.map (·.1) then ds.map (fun q => if q.1 = k then (q.1, d) else q) else ds ++ [(k, d)]
theorem IsN.over {K : PySem.W.Frag} {ρ : List Addr} {H : Hp} {k : NK} {d : D} {v : V} (hd : Is K ρ H d v) : ∀ {ds : List (NK × D)} {L : List DN.DEnt}, IsN K ρ H ds L → IsN K ρ H (ds.map (fun q => if q.1 = k then (q.1, d) else q)) (L.map (fun p => if p.1 = k then (p.1, p.2.1, v) else p))
  | _, _, .nil => .nil
  | p :: ds, q :: L, .cons h t => by
    rw [List.map_cons, List.map_cons]
    refine .cons ?_ (IsN.over hd t)
    by_cases e : p.1 = k
    · rw [if_pos e, if_pos (by rw [← h.1]; exact e)]
      exact ⟨h.1, h.2.1, hd⟩
    · rw [if_neg e, if_neg (by rw [← h.1]; exact e)]
      exact h
theorem IsN.put {K : PySem.W.Frag} {ρ : List Addr} {H : Hp} {k : NK} {b : Addr} {d : D} {v : V} (m : DN.MemT K H k b) (hd : Is K ρ H d v) {ds : List (NK × D)} {L : List DN.DEnt} (h : IsN K ρ H ds L) : IsN K ρ H (putN ds k d) (DN.putE L k b v) := by
  unfold putN DN.putE
  rw [DN.atE_some, ← h.keys]
  by_cases e : k ∈ ds.map (·.1)
  · rw [if_pos e, if_pos (decide_eq_true e)]
    exact h.over hd
  · rw [if_neg e, if_neg (by rw [decide_eq_false e]; exact Bool.false_ne_true)]
    exact h.snoc ⟨rfl, m, hd⟩
def mputD (x i d : D) : M Unit := fun g => match x, i with
  | .ref n, .tup es => match g[n]? with
    | some (.map ds) => match toT (.tup es) with
      | some k => if k.depth ≤ 8 ∧ ds.length ≤ 100000 then .ok () (g.set n (.map (putN ds k d))) else .bad
      | none => .bad
    | _ => .bad
  | _, _ => .bad
def subMG (mo mi : Sl → M D) (d : D) (s : Sl) : M Sl := bnd (mo s) fun x => bnd (mi s) fun i => bnd (mputD x i d) fun _ => pur s
theorem run_mput {ρ : List Addr} {G : GS} {H : Hp} {x i d : D} {u v w : V} {Q : Hp → Prop} {γ δ : Type} {Ok : List Addr → Hp → γ → δ → Prop} {k : Unit → M γ} {Q2 : δ → Hp → Prop} (R : Rel C ρ G H) (hx : Is C.K ρ H x u) (hi : Is C.K ρ H i v) (hd : Is C.K ρ H d w) (h : Run C ρ H Ok (bnd (mputD x i d) k G) Q2 E)
    (hk : ∀ G1 H1, Step C ρ H ρ G1 H1 → Run C ρ H1 Ok (k () G1) Q2 E → Q H1) : DN.rSetM C.fo.h C.K u v w H Q := by
  unfold bnd at h
  generalize e0 : mputD x i d G = r at h
  unfold mputD at e0
  split at e0
  · rename_i n es
    split at e0
    · rename_i ds e1
      split at e0
      · rename_i k0 ek
        split at e0
        · rename_i hc
          subst e0
          obtain ⟨p, L, rfl, hn, hp, q⟩ := R.mapc e1 hx
          obtain ⟨b, rfl, m⟩ := memt_of hi ek hc.1
          have st := Step.write (o := DN.DictO C.fo.h p (DN.putE L k0 b w)) R hn hp (c := .map (putN ds k0 d)) ⟨_, rfl, IsN.put m hd q⟩
          exact ⟨p, b, k0, L, rfl, rfl, hp, m, q.mem, by rw [← q.len]; omega, hk _ _ st (Run.step st h)⟩
        · subst e0; exact h.elim
      · subst e0; exact h.elim
    · subst e0; exact h.elim
  · subst e0; exact h.elim
theorem dg_msub (hu : X.A.units + 64 < cLine) {o i : Expr} {to ti : TE} {mo mi : Sl → M D} (ho : DE X Ts E o to mo) (hi : DE X Ts E i ti mi)
    (ha : ∀ v, assign (.Subscript o i pos) X.env v = (do
      let ov ← holding [v] (eval o X.env)
      let iv ← holding [v, ov] (eval i X.env)
      standAt pos
      holding [v, ov, iv] (setItem ov iv v)
      release [v, ov, iv] []) := by intro _; rfl) : DG X Ts E (.Subscript o i pos) (gSub to ti (DN.rSetM (DN.hw X.w) X.K)) (subMG mo mi) [] := by
  refine ⟨pg_sub ho.pe hi.pe (DN.set_M hu) ha, fun ρ σ H s G d v Q R S i' h => ?_⟩
  refine ho.rf ρ σ H s G _ R S (Run.first h fun x G1 u ρ1 H1 st ix h1 => ?_)
  refine hi.rf ρ1 σ H1 s G1 _ st.rel (S.step R st) (Run.first h1 fun y G2 v2 ρ2 H2 st2 iy h2 => ?_)
  refine run_mput (C := ⟨X.K, Ts, fw X.w⟩) st2.rel (Is.step st.rel st2 ix) iy (Is.step st.rel st2 (Is.step R st i')) h2 fun G3 H3 st3 h3 => ?_
  exact Run.ret (Ok := okG ⟨X.K, Ts, fw X.w⟩ [] σ) st3.rel h3 ⟨((S.step R st).step st.rel st2).step st2.rel st3, rfl, fun i _ => rfl⟩
theorem nodup_len {α : Type} [DecidableEq α] : ∀ {l m : List α}, l.Nodup → (∀ x ∈ l, x ∈ m) → l.length ≤ m.length
  | [], _, _, _ => Nat.zero_le _
  | x :: l, m, h, s => by
    rw [List.nodup_cons] at h
    have z : l.length ≤ (m.erase x).length := nodup_len h.2 fun y hy => (List.mem_erase_of_ne (fun e => h.1 (by rw [← e]; exact hy))).mpr (s y (List.mem_cons_of_mem _ hy))
    have w := List.length_erase_of_mem (s x List.mem_cons_self)
    have p := List.length_pos_of_mem (s x List.mem_cons_self)
    rw [List.length_cons]
    omega
end
end DL
namespace DL
open PySem PySem.Spec PyProof.Rows L2
open Classical
end DL
namespace DL
open PySem PySem.Spec PyProof.Rows L2
open Classical
end DL
namespace DL
open PySem PySem.Spec PyProof.Rows L2
open Classical
end DL
namespace DN
open PySem PySem.Spec PyProof.Rows L2
section
variable {X : Cx} {pins : List (Addr × Obj)} {σ : L2.St} {H : Hp} {s : Shared} {d : Addr} {ob : Obj} {kf : NK → Int} {L : List DEnt}
/-- the object of a locked dict -/
structure Lk (h : Heap) (d : Addr) (ob : Obj) (kf : NK → Int) (L : List DEnt) (es : Array DictEntry) (ep : Nat) (xs : List (NK × Addr × Value)) : Prop where
  lo : (d == sysModules) = false
  at_ : h.get? d = some ob
  ex : ob.ExactDict
  dat : ob.data = .dict es ep
  rows : es.toList = xs.map (rowD kf)
  nd : (xs.map (·.1)).Nodup
  rel : DRel L xs
variable {h : Heap} {es : Array DictEntry} {ep : Nat} {xs : List (NK × Addr × Value)}
theorem Lk.size (K : Lk h d ob kf L es ep xs) : es.size = L.length := by
  rw [← Array.length_toList, K.rows, List.length_map, ← Paired.length K.rel]
variable {P : Program} {w : World} {K : PySem.W.Frag} {tg : Expr}
end
end DN
namespace DL
open PySem PySem.Spec PyProof.Rows L2
open Classical
noncomputable section
variable {X : Cx} {Ts : List Addr} {E : XK} {a b c e o i : Expr} {ta tb tc te to ti : TE} {ma mb mc me mo mi : Sl → M D} {pos apos cpos : Pos} {C : Ct} {es : List Expr} {t u : TT} {mt mu : Sl → M Bool} {tr : TA} {mr : Sl → M (List D)}
def mapAt (ds : List (NK × D)) (k : NK) : Option D := (ds.find? fun p => decide (p.1 = k)).map (·.2)
theorem IsN.at {K : PySem.W.Frag} {ρ : List Addr} {H : Hp} {k : NK} {d : D} : ∀ {ds : List (NK × D)} {L : List DN.DEnt}, IsN K ρ H ds L → mapAt ds k = some d → ∃ v, DN.atE L k = some v ∧ Is K ρ H d v
  | _, _, .nil, h => by cases h
  | p :: ds, q :: L, .cons h t, g => by
    by_cases e : p.1 = k
    · have g : p.2 = d := by simpa [mapAt, e] using g
      refine ⟨q.2.2, ?_, by rw [← g]; exact h.2.2⟩
      have e2 : q.1 = k := by rw [← h.1]; exact e
      simp [DN.atE, e2]
    · have e2 : ¬ q.1 = k := by rw [← h.1]; exact e
      obtain ⟨v, v1, v2⟩ := IsN.at t (k := k) (d := d) (by simpa [mapAt, e] using g)
      exact ⟨v, by simpa [DN.atE, e2] using v1, v2⟩
end
end DL
namespace DL
open PySem PySem.Spec PyProof.Rows L2
open Classical
noncomputable section
variable {X : Cx} {Ts : List Addr} {E : XK} {a b c e o : Expr} {ta tb tc te to : TE} {ma mb mc me mo : Sl → M D} {pos apos cpos : Pos} {C : Ct} {es : List Expr} {t u : TT} {mt mu : Sl → M Bool} {tr : TA} {mr : Sl → M (List D)}
/-- where own classes stand, and the hash of keys -/
structure Ks where
  a : Str → Addr
  h : NK → Int
abbrev ks (K : PySem.W.Frag) (w : World) : Ks := ⟨fun x => He.ga K x, DN.hw w⟩
end
end DL
namespace DL
open PySem PySem.Spec PyProof.Rows L2
open Classical
end DL
namespace DL
open PySem PySem.Spec PyProof.Rows L2
open Classical
end DL
namespace DN
open PySem PySem.Spec PySem.W PyProof.Rows L2
open Classical
noncomputable section
variable {X : Cx} {pos : Pos}
def tDisp1N (hf : NK → Int) (K : PySem.W.Frag) (tk tv : TE) : TE := fun σ H Q => ∀ p, H p = none → tk σ (upd H p (DictO hf p [])) fun x H1 => tv σ H1 fun v H2 => H2 p = some (DictO hf p []) ∧ ∃ (b : Addr) (k : NK), x = .ref b ∧ MemT K H2 k b ∧ Q (.ref p) (upd H2 p (DictO hf p [(k, b, v)]))
theorem pe_disp1N {k v : Expr} {tk tv : TE} (room : X.A.units + 64 < cLine) (hk : PE X k tk) (hv : PE X v tv) : PE X (.Dict [some k] [v] pos) (tDisp1N (hw X.w) X.K tk tv) := by
  refine ⟨?_⟩
  intro pins s σ H Q I q
  have hn : H s.heap.objs.size = none := I.hok.fresh (Nat.le_refl _)
  have I1 := I.laid (a := s.heap.objs.size) (o := DictO (hw X.w) s.heap.objs.size []) (t' := s.toks) (fun _ _ q => Heap.get?_push_of_some _ q) (Nat.le_refl _) (dn_empty (hw X.w) s.heap I.big).ok
  rw [arm_eval_Dict, zip_pairTrees [some k] [v] X.env pos rfl rfl, dictDisplay_pairs _ (fun e => by simp [pairTrees] at e) (by simp [pairTrees])]
  refine wpAny_bind (wpAny_standAt (wpAny_bind ?_))
  unfold subDict
  refine wpAny_bind (wpAny_alloc (wpAny_bind (wpAny_holding ?_)))
  rw [if_pos (show (pairTrees [some k] [v] X.env pos).length ≤ 15 by simp [pairTrees])]
  refine wpAny_bind (wpAny_mono ((pps_cons (pos := pos) hk hv pps_nil).run pins _ σ _ (fun ps H2 => match ps with | [(x, y)] => H2 s.heap.objs.size = some (DictO (hw X.w) s.heap.objs.size []) ∧ ∃ (b : Addr) (k : NK), x = .ref b ∧ MemT X.K H2 k b ∧ Q (.ref s.heap.objs.size) (upd H2 s.heap.objs.size (DictO (hw X.w) s.heap.objs.size [(k, b, y)])) | _ => False) I1 (q s.heap.objs.size hn)) (fun vs s2 h => ?_) fun _ _ e => e)
  obtain ⟨ps, H2, I2, rel, h2⟩ := h
  match ps, h2 with
  | [(x, y)], h2 =>
    obtain ⟨e, b, kk, rfl, m, q2⟩ := h2
    cases rel with
    | @cons _ w _ _ hr hrest =>
      cases hrest
      obtain ⟨kw, vw⟩ := w
      obtain ⟨r1, r2⟩ := hr
      cases (show kw = Value.ref b from r1)
      have D0 : DictD (hw X.w) s.heap.objs.size [] s2.heap := (I2.hok _ _ e).1
      obtain ⟨xs, T, r⟩ := D0.in_ (P := X.prog) (w := X.w) fun e m => by cases m
      have hput : putE ([] : List DEnt) kk b y = [(kk, b, y)] := rfl
      refine wpAny_holding (wpAny_bind ?_)
      simp only [List.forIn_cons, List.forIn_nil]
      refine wpAny_bind (wpAny_bind (wpAny_dictSet_heap (knd := nestedKind X.prog X.w) (hsz := by rw [← Paired.length r]; exact Nat.zero_le _) (by show X.A.units + 8 < cLine; omega) (m.kt I2) T fun h' T' but => ?_))
      have D1 : DictD (hw X.w) s.heap.objs.size (putE [] kk b y) h' := DictD.of D0.1 T' (r.put r2)
      obtain ⟨o', _, _, o1, _⟩ := T'
      refine wpAny_pure (wpAny_pure (wpAny_pure (wpAny_pure (wpAny_pure ?_))))
      exact ⟨.ref s.heap.objs.size, _, I2.write (e := s.heap.objs.size) (t' := s2.toks + kk.draws) (by rw [e]; trivial) (.inl rfl) (fun c u hc hu => (but.2 c hc).trans hu) ⟨o', o1⟩ D1.ok, rfl, by rw [hput]; exact q2⟩
end
end DN
namespace DL
open PySem PySem.Spec PyProof.Rows L2
open Classical
noncomputable section
variable {X : Cx} {Ts : List Addr} {E : XK} {a b c e o : Expr} {ta tb tc te to : TE} {ma mb mc me mo : Sl → M D} {pos apos cpos : Pos} {C : Ct} {es : List Expr} {t u : TT} {mt mu : Sl → M Bool} {tr : TA} {mr : Sl → M (List D)}
def one1 (x y : D) : M D := fun g => match x with
  | .tup es => match toT (.tup es) with
    | some k => if k.depth ≤ 8 then .ok (.ref g.length) (g ++ [.map [(k, y)]]) else .bad
    | none => .bad
  | _ => .bad
def newMap1 (mk mv : Sl → M D) (s : Sl) : M D := bnd (mk s) fun x => bnd (mv s) fun y => one1 x y
theorem de_newMap1 {k v : Expr} {tk tv : TE} {mk mv : Sl → M D} (room : X.A.units + 64 < cLine) (hk : DE X Ts E k tk mk) (hv : DE X Ts E v tv mv) : DE X Ts E (.Dict [some k] [v] pos) (DN.tDisp1N (DN.hw X.w) X.K tk tv) (newMap1 mk mv) := by
  refine ⟨DN.pe_disp1N room hk.pe hv.pe, fun ρ σ H s G Q R S h => ?_⟩
  intro p hp
  have st0 : Step ⟨X.K, Ts, fw X.w⟩ ρ H ρ G (upd H p (DN.DictO (DN.hw X.w) p [])) := Step.lay R hp
  have out0 : p ∉ ρ := fun z => by
    obtain ⟨o, e, _⟩ := R.there z
    rw [hp] at e; cases e
  have keep : ∀ {ρ' : List Addr} {H' H2 : Hp} {ρ2 : List Addr} {G' G2 : GS}, Step ⟨X.K, Ts, fw X.w⟩ ρ' H' ρ2 G2 H2 → p ∉ ρ' → H' p = some (DN.DictO (DN.hw X.w) p []) → H2 p = some (DN.DictO (DN.hw X.w) p []) ∧ p ∉ ρ2 := fun {ρ' H' H2 ρ2 G' G2} st hn e => by
    refine ⟨st.ext.keep p _ e hn (fun ps z => nomatch z), fun z => ?_⟩
    have := st.fresh p z hn
    rw [e] at this; cases this
  have h' := Run.step st0 h
  unfold newMap1 bnd at h h'
  cases e1 : mk s G with
  | bad => rw [e1] at h; exact h.elim
  | ex c d g =>
    rw [e1] at h'
    exact hk.rf ρ σ _ s G _ st0.rel (S.step R st0) (by rw [e1]; exact h')
  | ok x G1 =>
    rw [e1] at h h'
    dsimp only at h h'
    refine hk.rf ρ σ _ s G _ st0.rel (S.step R st0) ?_
    rw [e1]
    intro u ρ1 H1 st1 i1
    obtain ⟨p1, n1⟩ := keep (G' := G) st1 out0 upd_same
    cases e2 : mv s G1 with
    | bad => rw [e2] at h; exact h.elim
    | ex c d g =>
      rw [e2] at h'
      exact hv.rf ρ1 σ H1 s G1 _ st1.rel ((S.step R st0).step st0.rel st1) (by rw [e2]; exact Run.step (Ok := okD ⟨X.K, Ts, fw X.w⟩) (r := .ex c d g) st1 h')
    | ok y G2 =>
      rw [e2] at h h'
      dsimp only at h h'
      refine hv.rf ρ1 σ H1 s G1 _ st1.rel ((S.step R st0).step st0.rel st1) ?_
      rw [e2]
      intro v ρ2 H2 st2 i2
      obtain ⟨p2, n2⟩ := keep (G' := G1) st2 n1 p1
      refine ⟨p2, ?_⟩
      unfold one1 at h
      split at h
      · rename_i ds
        split at h
        · rename_i kk ek
          split at h
          · rename_i low
            obtain ⟨b, rfl, m⟩ := memt_of (Is.step st1.rel st2 i1) ek low
            refine ⟨b, kk, rfl, m, ?_⟩
            have st02 := (st0.trans st1).trans st2
            have st3 := Step.show (C := ⟨X.K, Ts, fw X.w⟩) (c := .map [(kk, y)]) st02 hp n2 p2 rfl (o := DN.DictO (DN.hw X.w) p [(kk, b, v)]) ⟨[(kk, b, v)], rfl, .cons ⟨rfl, m, i2⟩ .nil⟩
            exact h (.ref p) _ _ st3 st02.rel.new_at
          · exact h.elim
        · exact h.elim
      · exact h.elim
end
end DL
namespace DL
open PySem PySem.Spec PyProof.Rows L2
variable {C : Ct}
def maxD (ds : List D) : M D := fun g => match ds with
  | [.int i, .int j] => .ok (.int (if j > i then j else i)) g
  | _ => .bad
theorem calld_max : CallD C (fun xs H Q => ∃ i j, xs = [.int i, .int j] ∧ Q (.int (if j > i then j else i)) H) maxD := by
  intro ρ G H ds vs Q E R i h
  unfold maxD at h
  split at h
  · obtain ⟨v, w, rfl, i1, i2⟩ := isl_two i
    simp only [Is] at i1 i2
    subst i1 i2
    exact ⟨_, _, rfl, Run.ret (Ok := okD C) R h isInt⟩
  · exact h.elim
end DL
namespace DL
open PySem PySem.Spec PyProof.Rows L2
open Classical
end DL
namespace DL
open PySem PySem.Spec PyProof.Rows L2
open Classical
end DL
namespace DL
open PySem PySem.Spec PyProof.Rows L2
open Classical
end DL
namespace DL
open PySem PySem.Spec PyProof.Rows L2
open Classical
end DL
namespace DL
open PySem PySem.Spec PyProof.Rows L2
open Classical
end DL
namespace DL
open PySem PySem.Spec PyProof.Rows L2
open Classical
end DL
namespace DL
open PySem PySem.Spec PyProof.Rows L2
open Classical
end DL
namespace DL
open PySem PySem.Spec PyProof.Rows L2
open Classical
end DL
namespace DL
open PySem PySem.Spec PyProof.Rows L2
open Classical
noncomputable section
mutual
/-- plain, at most n deep -/
def D.pl (n : Nat) : D → Bool
  | .non => true
  | .int _ => true
  | .str x => PyData.strOk x
  | .tup ds => match n with
    | 0 => false
    | n + 1 => plL n ds
  | .bl _ => false
  | .ref _ => false
  | .ins _ _ _ => false
  | .scr _ => false
  | .ty _ => false
  | .cls _ => false
  | .exc _ _ _ => false
  | .dct _ _ _ => false
def plL (n : Nat) : List D → Bool
  | [] => true
  | d :: ds => d.pl n && plL n ds
end
mutual
def toPy : D → PyData
  | .int i => .int i
  | .str x => .str x
  | .tup ds => .tuple (toPyL ds)
  | .non => .none
  | .bl _ => .none
  | .ref _ => .none
  | .ins _ _ _ => .none
  | .scr _ => .none
  | .ty _ => .none
  | .cls _ => .none
  | .exc _ _ _ => .none
  | .dct _ _ _ => .none
def toPyL : List D → List PyData
  | [] => []
  | d :: ds => toPy d :: toPyL ds
end
mutual
theorem pyD_pl : ∀ (n : Nat) (d : D), d.pl n = true → pyD d = some (toPy d)
  | n, .non, _ => by simp only [pyD, toPy]
  | n, .int i, _ => by simp only [pyD, toPy]
  | n, .str i, _ => by simp only [pyD, toPy]
  | 0, .tup ds, h => by simp [D.pl] at h
  | n + 1, .tup ds, h => by
    simp only [D.pl] at h
    simp only [pyD, toPy, pyL_pl n ds h, Option.map_some]
  | n, .bl _, h => by simp [D.pl] at h
  | n, .ref _, h => by simp [D.pl] at h
  | n, .ins _ _ _, h => by simp [D.pl] at h
  | n, .scr _, h => by simp [D.pl] at h
  | n, .ty _, h => by simp [D.pl] at h
  | n, .cls _, h => by simp [D.pl] at h
  | n, .exc _ _ _, h => by simp [D.pl] at h
  | n, .dct _ _ _, h => by simp [D.pl] at h
theorem pyL_pl : ∀ (n : Nat) (ds : List D), plL n ds = true → pyL ds = some (toPyL ds)
  | n, [], _ => by simp only [pyL, toPyL]
  | n, d :: ds, h => by
    simp only [plL, Bool.and_eq_true] at h
    simp only [pyL, toPyL, pyD_pl n d h.1, pyL_pl n ds h.2]
end
mutual
theorem shp_pl : ∀ (n : Nat) (d : D), d.pl n = true → (toPy d).canLay0 = true ∧ (toPy d).depth ≤ n
  | n, .non, _ => by simp [toPy, PyData.canLay0, PyData.depth]
  | n, .int i, _ => by simp [toPy, PyData.canLay0, PyData.depth]
  | n, .str i, h => by
    simp only [D.pl] at h
    simp [toPy, PyData.canLay0, PyData.depth, h]
  | 0, .tup ds, h => by simp [D.pl] at h
  | n + 1, .tup ds, h => by
    simp only [D.pl] at h
    have := shpL_pl n ds h
    simp only [toPy, PyData.canLay0, PyData.depth]
    exact ⟨this.1, by omega⟩
  | n, .bl _, h => by simp [D.pl] at h
  | n, .ref _, h => by simp [D.pl] at h
  | n, .ins _ _ _, h => by simp [D.pl] at h
  | n, .scr _, h => by simp [D.pl] at h
  | n, .ty _, h => by simp [D.pl] at h
  | n, .cls _, h => by simp [D.pl] at h
  | n, .exc _ _ _, h => by simp [D.pl] at h
  | n, .dct _ _ _, h => by simp [D.pl] at h
theorem shpL_pl : ∀ (n : Nat) (ds : List D), plL n ds = true → PyData.canLayAll0 (toPyL ds) = true ∧ PyData.depthAll (toPyL ds) ≤ n
  | n, [], _ => by simp [toPyL, PyData.canLayAll0, PyData.depthAll]
  | n, d :: ds, h => by
    simp only [plL, Bool.and_eq_true] at h
    have h1 := shp_pl n d h.1
    have h2 := shpL_pl n ds h.2
    simp only [toPyL, PyData.canLayAll0, PyData.depthAll, h1.1, h2.1, Bool.and_self, true_and]
    omega
end
mutual
theorem eqv_pl : ∀ (n : Nat) (d e : D), d.pl n = true → e.pl n = true → (PyData.eqv (toPy d) (toPy e) = true ↔ d = e)
  | n, .non, e, _, h => by cases e <;> simp [D.pl] at h <;> simp [toPy, PyData.eqv]
  | n, .int i, e, _, h => by cases e <;> simp [D.pl] at h <;> simp [toPy, PyData.eqv]
  | n, .str i, e, _, h => by cases e <;> simp [D.pl] at h <;> simp [toPy, PyData.eqv]
  | 0, .tup ds, e, h, _ => by simp [D.pl] at h
  | n + 1, .tup ds, e, h, h2 => by
    simp only [D.pl] at h
    cases e with
    | tup es =>
      simp only [D.pl] at h2
      simp only [toPy, PyData.eqv, D.tup.injEq]
      exact eqvL_pl n ds es h h2
    | _ => simp [D.pl] at h2 <;> simp [toPy, PyData.eqv]
  | n, .bl _, _, h, _ => by simp [D.pl] at h
  | n, .ref _, _, h, _ => by simp [D.pl] at h
  | n, .ins _ _ _, _, h, _ => by simp [D.pl] at h
  | n, .scr _, _, h, _ => by simp [D.pl] at h
  | n, .ty _, _, h, _ => by simp [D.pl] at h
  | n, .cls _, _, h, _ => by simp [D.pl] at h
  | n, .exc _ _ _, _, h, _ => by simp [D.pl] at h
  | n, .dct _ _ _, _, h, _ => by simp [D.pl] at h
theorem eqvL_pl : ∀ (n : Nat) (ds es : List D), plL n ds = true → plL n es = true → (PyData.eqvAll (toPyL ds) (toPyL es) = true ↔ ds = es)
  | n, [], [], _, _ => by simp [toPyL, PyData.eqvAll]
  | n, [], e :: es, _, _ => by simp [toPyL, PyData.eqvAll]
  | n, d :: ds, [], _, _ => by simp [toPyL, PyData.eqvAll]
  | n, d :: ds, e :: es, h, h2 => by
    simp only [plL, Bool.and_eq_true] at h h2
    simp only [toPyL, PyData.eqvAll, Bool.and_eq_true, List.cons.injEq, eqv_pl n d e h.1 h2.1, eqvL_pl n ds es h.2 h2.2]
end
theorem pyG_pl {n : Nat} {g : GS} {d : D} (h : d.pl n = true) : pyG g d = some (toPy d) := by
  unfold pyG
  cases d with
  | ref _ => simp [D.pl] at h
  | tup ds =>
    dsimp only
    rw [pyD_pl n _ h]
  | _ => exact pyD_pl n _ h
theorem shaped_pl {n : Nat} {d : D} (hn : n ≤ 64) (h : d.pl n = true) : SeqAt.shaped (toPy d) = true := by
  unfold SeqAt.shaped
  have := shp_pl n d h
  rw [this.1]
  simp
  omega
theorem eqM_pl {n : Nat} {g : GS} {x y : D} (hn : n ≤ 64) (hx : x.pl n = true) (hy : y.pl n = true) : eqM x y g = some (decide (x = y)) := by
  unfold eqM
  rw [pyG_pl hx, pyG_pl hy]
  dsimp only
  rw [shaped_pl hn hx, shaped_pl hn hy]
  simp only [Bool.and_self, if_true]
  congr 1
  rw [Bool.eq_iff_iff, eqv_pl n x y hx hy, decide_eq_true_eq]
theorem eqD_pl {n : Nat} {g : GS} {x y : D} (hn : n ≤ 64) (hx : x.pl n = true) (hy : y.pl n = true) : eqD x y g = .ok (.bl (decide (x = y))) g := by
  unfold eqD
  rw [eqM_pl hn hx hy]
theorem neD_pl {n : Nat} {g : GS} {x y : D} (hn : n ≤ 64) (hx : x.pl n = true) (hy : y.pl n = true) : neD x y g = .ok (.bl (!decide (x = y))) g := by
  unfold neD
  rw [eqM_pl hn hx hy]
theorem any_pl {n : Nat} {x : D} (hx : x.pl n = true) : ∀ {ds : List D}, plL n ds = true → ((toPyL ds).any fun z => PyData.eqv z (toPy x)) = decide (x ∈ ds)
  | [], _ => by simp [toPyL]
  | d :: ds, h => by
    simp only [plL, Bool.and_eq_true] at h
    simp only [toPyL, List.any_cons, any_pl hx h.2]
    rw [Bool.eq_iff_iff, Bool.or_eq_true, eqv_pl n d x h.1 hx, decide_eq_true_eq, decide_eq_true_eq, List.mem_cons]
    exact or_congr ⟨Eq.symm, Eq.symm⟩ Iff.rfl
/-- x in a tuple -/
theorem inD_tup {n : Nat} {g : GS} {x : D} {ds : List D} {neg : Bool} (hn : n < 64) (hx : x.pl n = true) (hd : plL n ds = true) : inD neg x (.tup ds) g = .ok (.bl (if neg then !decide (x ∈ ds) else decide (x ∈ ds))) g := by
  have h2 : (D.tup ds).pl (n + 1) = true := by simpa only [D.pl] using hd
  unfold inD inM
  rw [pyG_pl hx, pyG_pl h2]
  simp only [toPy]
  have h3 := shaped_pl (by omega) h2
  simp only [toPy] at h3
  rw [shaped_pl (by omega) hx, h3, any_pl hx hd]
  simp
/-- x in a list -/
theorem inD_lst {n m : Nat} {g : GS} {x : D} {ds : List D} {neg : Bool} (hn : n < 64) (hm : g[m]? = some (.lst ds)) (hx : x.pl n = true) (hd : plL n ds = true) : inD neg x (.ref m) g = .ok (.bl (if neg then !decide (x ∈ ds) else decide (x ∈ ds))) g := by
  have h2 : (D.tup ds).pl (n + 1) = true := by simpa only [D.pl] using hd
  have h3 : SeqAt.shaped (PyData.list (toPyL ds)) = true := by
    have q := shpL_pl n ds hd
    unfold SeqAt.shaped
    simp only [PyData.canLay0, PyData.depth, q.1, Bool.true_and, decide_eq_true_eq]
    have := q.2
    exact decide_eq_true (by omega)
  unfold inD inM
  rw [pyG_pl hx]
  have h4 : pyG g (.ref m) = some (.list (toPyL ds)) := by
    unfold pyG pyG1
    dsimp only
    rw [hm]
    simp only [pyL_pl n ds hd, Option.map_some]
  rw [h4]
  dsimp only
  rw [shaped_pl (by omega) hx, h3, any_pl hx hd]
  simp
end
end DL
namespace DL
open PySem PySem.Spec PyProof.Rows L2
open Classical
noncomputable section
def okM {α : Type} (r : R α) (P : α → GS → Prop) : Prop := match r with
  | .ok a g => P a g
  | _ => False
def okS (r : RS) (Pn : Sl → GS → Prop) (Pr : D → GS → Prop) (Pb Pc : Sl → GS → Prop) : Prop := match r with
  | .nx s g => Pn s g
  | .rt d g => Pr d g
  | .bk s g => Pb s g
  | .ct s g => Pc s g
  | _ => False
theorem okM.mono {α : Type} {r : R α} {P Q : α → GS → Prop} (h : okM r P) (k : ∀ a g, P a g → Q a g) : okM r Q := by
  cases r with
  | ok a g => exact k _ _ h
  | bad => exact h
  | ex _ _ _ => exact h
theorem okM.out {α : Type} {r : R α} {P : α → GS → Prop} (h : okM r P) : ∃ a g, r = .ok a g ∧ P a g := by
  cases r with
  | ok a g => exact ⟨a, g, rfl, h⟩
  | bad => exact h.elim
  | ex _ _ _ => exact h.elim
theorem okM.of {α : Type} {r : R α} {P : α → GS → Prop} {a : α} {g : GS} (e : r = .ok a g) (h : P a g) : okM r P := by rw [e]; exact h
theorem okS.mono {r : RS} {Pn Qn : Sl → GS → Prop} {Pr Qr : D → GS → Prop} {Pb Pc Qb Qc : Sl → GS → Prop} (h : okS r Pn Pr Pb Pc) (kn : ∀ a g, Pn a g → Qn a g) (kr : ∀ a g, Pr a g → Qr a g) (kb : ∀ a g, Pb a g → Qb a g) (kc : ∀ a g, Pc a g → Qc a g) : okS r Qn Qr Qb Qc := by
  cases r with
  | nx s g => exact kn _ _ h
  | rt s g => exact kr _ _ h
  | bk s g => exact kb _ _ h
  | ct s g => exact kc _ _ h
  | bad => exact h
  | ex _ _ _ => exact h
section
variable {α β : Type} {g : GS} {s : Sl} {P : α → GS → Prop} {Q : β → GS → Prop} {Pd : D → GS → Prop} {Pl : List D → GS → Prop} {Pb : Bool → GS → Prop} {Po : Option Int → GS → Prop} {Ps : Sl → GS → Prop} {Pu : Unit → GS → Prop}
theorem w_bnd {m : M α} {k : α → M β} : okM (bnd m k g) Q ↔ okM (m g) fun a g' => okM (k a g') Q := by
  unfold bnd
  cases m g <;> rfl
theorem w_pur {a : α} : okM (pur a g) P ↔ P a g := Iff.rfl
theorem w_sub {i j : Int} : okM (subI (.int i) (.int j) g) Pd ↔ Pd (.int (i - j)) g := Iff.rfl
theorem w_addi {i j : Int} : okM (addD (.int i) (.int j) g) Pd ↔ Pd (.int (i + j)) g := Iff.rfl
theorem w_lt {i j : Int} : okM (ltI (.int i) (.int j) g) Pd ↔ Pd (.bl (decide (i < j))) g := Iff.rfl
theorem w_le {i j : Int} : okM (leI (.int i) (.int j) g) Pd ↔ Pd (.bl (decide (i ≤ j))) g := Iff.rfl
theorem w_gt {i j : Int} : okM (gtI (.int i) (.int j) g) Pd ↔ Pd (.bl (decide (j < i))) g := Iff.rfl
theorem w_ge {i j : Int} : okM (geI (.int i) (.int j) g) Pd ↔ Pd (.bl (decide (j ≤ i))) g := Iff.rfl
theorem w_mod {i j : Int} (h : 0 < j) : okM (modI (.int i) (.int j) g) Pd ↔ Pd (.int (i % j)) g := by
  unfold modI iopC
  dsimp only
  rw [if_pos (decide_eq_true h)]; rfl
theorem w_asB {b : Bool} : okM (asB (.bl b) g) Pb ↔ Pb b g := Iff.rfl
theorem w_asI {b : Int} : okM (asI (.int b) g) Po ↔ Po (some b) g := Iff.rfl
theorem w_truB {b : Bool} : okM (truM (.bl b) g) Pb ↔ Pb b g := Iff.rfl
theorem w_truT {ds : List D} : okM (truM (.tup ds) g) Pb ↔ Pb (!ds.isEmpty) g := Iff.rfl
theorem w_mkT {ds : List D} (h : ds.length ≤ 1000000) : okM (mkT ds g) Pd ↔ Pd (.tup ds) g := by
  unfold mkT
  rw [if_pos (show ds.length ≤ LIM from h)]; rfl
theorem w_mkL {ds : List D} (h : ds.length ≤ 1000000) : okM (mkL ds g) Pd ↔ Pd (.ref g.length) (g ++ [.lst ds]) := by
  unfold mkL
  rw [if_pos (show ds.length ≤ LIM from h)]; rfl
theorem w_newL {ds : List D} : okM (newL ds g) Pd ↔ Pd (.ref g.length) (g ++ [.lst ds]) := Iff.rfl
theorem w_listT {ds : List D} : okM (listD [.tup ds] g) Pd ↔ Pd (.ref g.length) (g ++ [.lst ds]) := Iff.rfl
theorem w_listR {n : Nat} {ds : List D} (h : g[n]? = some (.lst ds)) : okM (listD [.ref n] g) Pd ↔ Pd (.ref g.length) (g ++ [.lst ds]) := by
  unfold listD
  dsimp only
  rw [h]; rfl
theorem w_lenT {ds : List D} : okM (lenD [.tup ds] g) Pd ↔ Pd (.int ds.length) g := Iff.rfl
theorem w_tupR {n : Nat} {ds : List D} (h : g[n]? = some (.lst ds)) : okM (tupleD [.ref n] g) Pd ↔ Pd (.tup ds) g := by
  unfold tupleD
  dsimp only
  rw [h]; rfl
theorem w_intI {i : Int} : okM (DL.intD [.int i] g) Pd ↔ Pd (.int i) g := Iff.rfl
theorem w_ixT {ds : List D} {i : Int} {d : D} (h : atI ds i = some d) : okM (ixD (.tup ds) (.int i) g) Pd ↔ Pd d g := by
  unfold ixD
  dsimp only
  rw [h]; rfl
theorem w_ixR {ds : List D} {n : Nat} {i : Int} {d : D} (hn : g[n]? = some (.lst ds)) (h : atI ds i = some d) : okM (ixD (.ref n) (.int i) g) Pd ↔ Pd d g := by
  unfold ixD
  dsimp only
  rw [hn]
  dsimp only
  rw [h]; rfl
theorem w_slT {ds : List D} {l u : Option Int} : okM (slD (.tup ds) l u g) Pd ↔ Pd (.tup (cutD ds l u)) g := Iff.rfl
theorem w_starT {ds : List D} : okM (starD (.tup ds) g) Pl ↔ Pl ds g := Iff.rfl
theorem w_tgN {i : Nat} {d : D} : okM (tgN i d s g) Ps ↔ Ps (s.set i (some d)) g := Iff.rfl
theorem w_subG {mo mi : Sl → M D} {d : D} : okM (subG mo mi d s g) Ps ↔ okM (mo s g) fun x g1 => okM (mi s g1) fun i g2 => okM (setD x i d g2) fun _ g3 => Ps s g3 := by
  unfold subG
  simp only [w_bnd, w_pur]
theorem w_eq {n : Nat} {x y : D} (hn : n ≤ 64) (hx : x.pl n = true) (hy : y.pl n = true) : okM (eqD x y g) Pd ↔ Pd (.bl (decide (x = y))) g := by
  rw [eqD_pl hn hx hy]; rfl
theorem w_ne {n : Nat} {x y : D} (hn : n ≤ 64) (hx : x.pl n = true) (hy : y.pl n = true) : okM (neD x y g) Pd ↔ Pd (.bl (!decide (x = y))) g := by
  rw [neD_pl hn hx hy]; rfl
theorem w_eqI {x y : Int} : okM (eqD (.int x) (.int y) g) Pd ↔ Pd (.bl (decide (x = y))) g := by
  rw [w_eq (n := 0) (by decide) rfl rfl, show decide (D.int x = D.int y) = decide (x = y) from Bool.eq_iff_iff.mpr (by simp)]
theorem w_neI {x y : Int} : okM (neD (.int x) (.int y) g) Pd ↔ Pd (.bl (!decide (x = y))) g := by
  rw [w_ne (n := 0) (by decide) rfl rfl, show decide (D.int x = D.int y) = decide (x = y) from Bool.eq_iff_iff.mpr (by simp)]
theorem w_in {n : Nat} {x : D} {ds : List D} {neg : Bool} (hn : n < 64) (hx : x.pl n = true) (hd : plL n ds = true) : okM (inD neg x (.tup ds) g) Pd ↔ Pd (.bl (if neg then !decide (x ∈ ds) else decide (x ∈ ds))) g := by
  rw [inD_tup hn hx hd]; rfl
theorem w_if {c : Bool} {a b : M α} : okM ((if c = true then a else b) g) P ↔ if c = true then okM (a g) P else okM (b g) P := by
  cases c <;> rfl
end
section
variable {g : GS} {s : Sl} {Pn : Sl → GS → Prop} {Pr : D → GS → Prop} {Pb Pc : Sl → GS → Prop}
theorem v_seq {m1 m2 : MS} : okS (seqS m1 m2 s g) Pn Pr Pb Pc ↔ okS (m1 s g) (fun s g => okS (m2 s g) Pn Pr Pb Pc) Pr Pb Pc := by
  unfold seqS
  cases m1 s g <;> rfl
theorem v_skip : okS (skipS s g) Pn Pr Pb Pc ↔ Pn s g := Iff.rfl
theorem v_bnd {α : Type} {m : M α} {k : α → GS → RS} : okS (bndS m k g) Pn Pr Pb Pc ↔ okM (m g) fun a g' => okS (k a g') Pn Pr Pb Pc := by
  unfold bndS
  cases m g <;> rfl
theorem v_asg {me : Sl → M D} {tg : D → Sl → M Sl} : okS (asgS me tg s g) Pn Pr Pb Pc ↔ okM (me s g) fun d g1 => okM (tg d s g1) fun s2 g2 => Pn s2 g2 := by
  unfold asgS
  rw [v_bnd]
  refine Eq.to_iff (congrArg (okM (me s g)) (funext fun d => funext fun g1 => propext ?_))
  rw [v_bnd]
  rfl
theorem v_ret {me : Sl → M D} : okS (retS me s g) Pn Pr Pb Pc ↔ okM (me s g) Pr := by
  unfold retS
  rw [v_bnd]; rfl
theorem v_drop {me : Sl → M D} : okS (dropS me s g) Pn Pr Pb Pc ↔ okM (me s g) fun _ g' => Pn s g' := by
  unfold dropS
  rw [v_bnd]; rfl
theorem v_if {mc : Sl → M Bool} {m1 m2 : MS} : okS (ifS mc m1 m2 s g) Pn Pr Pb Pc ↔ okM (mc s g) fun b g' => if b = true then okS (m1 s g') Pn Pr Pb Pc else okS (m2 s g') Pn Pr Pb Pc := by
  unfold ifS
  rw [v_bnd]
  refine Eq.to_iff (congrArg (okM (mc s g)) (funext fun b => funext fun g1 => propext ?_))
  cases b <;> rfl
theorem v_for {mi : Sl → M Itm} {tg : D → Sl → M Sl} {body : MS} : okS (forS mi tg body s g) Pn Pr Pb Pc ↔ okM (mi s g) fun w g' => okS (loopM w tg body w.items s g') Pn Pr Pb Pc := by
  unfold forS
  rw [v_bnd]
theorem loop_wp {w : Itm} {tg : D → Sl → M Sl} {body : MS} (I : Nat → Sl → GS → Prop) (items : List D) (h0 : I 0 s g) (hok : ∀ i s g, i ≤ items.length → I i s g → w.ok g)
    (step : ∀ i x s g, items[i]? = some x → I i s g → okM (tg x s g) fun s1 g1 => okS (body s1 g1) (I (i + 1)) Pr Pn (I (i + 1))) (fin : ∀ s g, I items.length s g → Pn s g) : okS (loopM w tg body items s g) Pn Pr Pb Pc := by
  have key : ∀ (rest : List D) (i : Nat) (s : Sl) (g : GS), items.drop i = rest → i ≤ items.length → I i s g → okS (loopM w tg body rest s g) Pn Pr Pb Pc := by
    intro rest
    induction rest with
    | nil =>
      intro i s g e hi h
      have hl : items.length ≤ i := List.drop_eq_nil_iff.mp e
      have ei : i = items.length := by omega
      subst ei
      unfold loopM
      rw [if_pos (hok _ _ _ hi h)]
      exact fin _ _ h
    | cons x rest ih =>
      intro i s g e hi h
      have hlt : i < items.length := by
        rcases Nat.lt_or_ge i items.length with q | q
        · exact q
        · rw [List.drop_eq_nil_of_le q] at e; cases e
      have hx : items[i]? = some x := by
        rw [List.drop_eq_getElem_cons hlt] at e
        rw [List.getElem?_eq_getElem hlt, (List.cons.inj e).1]
      have hr : items.drop (i + 1) = rest := by
        rw [List.drop_eq_getElem_cons hlt] at e
        exact (List.cons.inj e).2
      unfold loopM
      rw [if_pos (hok _ _ _ hi h)]
      obtain ⟨s1, g1, e1, h1⟩ := (step i x s g hx h).out
      rw [e1]
      dsimp only
      generalize body s1 g1 = r at h1 ⊢
      cases r with
      | nx s2 g2 => exact ih (i + 1) s2 g2 hr hlt h1
      | ct s2 g2 => exact ih (i + 1) s2 g2 hr hlt h1
      | bk s2 g2 => exact h1
      | rt d g2 => exact h1
      | bad => exact h1.elim
      | ex _ _ _ => exact h1.elim
  exact key items 0 s g rfl (Nat.zero_le _) h0
end
theorem fn_wp {np k : Nat} {ms : MS} {ds : List D} {g : GS} {P : D → GS → Prop} (hn : ds.length = np) (h : okS (ms (ds.map some ++ List.replicate (k - np) none) g) (fun _ g' => P .non g' ∧ P .non (g'.take g.length)) (fun d g' => P d g' ∧ P d (g'.take g.length)) (fun _ _ => False) fun _ _ => False) : okM (fnM np k ms ds g) P := by
  unfold fnM
  rw [if_pos hn]
  generalize ms (ds.map some ++ List.replicate (k - np) none) g = r at h ⊢
  have key : ∀ d g', P d g' ∧ P d (g'.take g.length) → okM (gcR g.length (.ok d g')) P := fun d g' h => by
    unfold gcR
    dsimp only
    split
    · exact h.2
    · exact h.1
  cases r with
  | nx s g' => exact key _ _ h
  | rt d g' => exact key _ _ h
  | bk _ _ => exact h.elim
  | ct _ _ => exact h.elim
  | bad => exact h.elim
  | ex _ _ _ => exact h.elim
section
variable {g : GS} {s : Sl} {Pd : D → GS → Prop} {Pu : Unit → GS → Prop} {Pi : Itm → GS → Prop}
theorem x_get {i : Nat} : okM (sget s i g) Pd ↔ match s[i]? with | some (some d) => Pd d g | _ => False := by
  unfold sget
  cases s[i]? with
  | none => rfl
  | some o => cases o <;> rfl
theorem x_ixT {ds : List D} {i : Int} : okM (ixD (.tup ds) (.int i) g) Pd ↔ match atI ds i with | some d => Pd d g | none => False := by
  unfold ixD
  dsimp only
  cases atI ds i <;> rfl
theorem x_ixR {n : Nat} {i : Int} : okM (ixD (.ref n) (.int i) g) Pd ↔ match g[n]? with | some (.lst ds) => (match atI ds i with | some d => Pd d g | none => False) | _ => False := by
  unfold ixD
  dsimp only
  cases g[n]? with
  | none => rfl
  | some c => cases c with
    | dic _ => rfl
    | set _ => rfl
    | map _ => rfl
    | lst ds =>
      dsimp only
      cases atI ds i <;> rfl
theorem x_lenR {n : Nat} : okM (lenD [.ref n] g) Pd ↔ match g[n]? with | some (.lst ds) => Pd (.int ds.length) g | _ => False := by
  unfold lenD
  dsimp only
  cases g[n]? with
  | none => rfl
  | some c => cases c <;> rfl
theorem x_tupR {n : Nat} : okM (tupleD [.ref n] g) Pd ↔ match g[n]? with | some (.lst ds) => Pd (.tup ds) g | _ => False := by
  unfold tupleD
  dsimp only
  cases g[n]? with
  | none => rfl
  | some c => cases c <;> rfl
theorem x_set {n : Nat} {k : Int} {d : D} : okM (setD (.ref n) (.int k) d g) Pu ↔ match g[n]? with | some (.lst ds) => (match ixN ds.length k with | some j => Pu () (g.set n (.lst (ds.set j d))) | none => False) | _ => False := by
  unfold setD
  dsimp only
  cases g[n]? with
  | none => rfl
  | some c => cases c with
    | dic _ => rfl
    | set _ => rfl
    | map _ => rfl
    | lst ds =>
      dsimp only
      cases ixN ds.length k <;> rfl
theorem x_seqT {ds : List D} : okM (seqW (.tup ds) g) Pi ↔ Pi ⟨ds, none⟩ g := Iff.rfl
theorem x_seqR {n : Nat} : okM (seqW (.ref n) g) Pi ↔ match g[n]? with | some (.lst ds) => Pi ⟨ds, some (n, ds)⟩ g | _ => False := by
  unfold seqW
  dsimp only
  cases g[n]? with
  | none => rfl
  | some c => cases c <;> rfl
theorem x_rng {j : Int} (h1 : -(2 ^ 62) ≤ j) (h2 : j < 2 ^ 62) : okM (rngW [.int j] g) Pi ↔ Pi ⟨rngItems 0 j, none⟩ g := by
  unfold rngW
  dsimp only
  rw [if_pos ⟨h1, h2⟩]; rfl
theorem x_addR {a b : Nat} {xs ys : List D} (ha : g[a]? = some (.lst xs)) (hb : g[b]? = some (.lst ys)) (hl : xs.length + ys.length ≤ 1000000) : okM (addD (.ref a) (.ref b) g) Pd ↔ Pd (.ref g.length) (g ++ [.lst (xs ++ ys)]) := by
  unfold addD addL
  dsimp only
  rw [ha, hb]
  dsimp only
  rw [if_pos (show xs.length + ys.length ≤ LIM from hl)]; rfl
theorem ixN_nat {n k : Nat} (h : k < n) : ixN n (k : Int) = some k := by
  unfold ixN
  rw [if_pos (Int.natCast_nonneg k), if_pos (by omega)]; simp
theorem atI_nat {ds : List D} {k : Nat} {d : D} (h : ds[k]? = some d) : atI ds (k : Int) = some d := by
  unfold atI
  rw [ixN_nat (List.getElem?_eq_some_iff.mp h).1]
  exact h
theorem rng_get {n k : Nat} {d : D} (h : (rngItems 0 (n : Int))[k]? = some d) : k < n ∧ d = .int (k : Int) := by
  unfold rngItems at h
  rw [List.getElem?_map] at h
  have e : ((n : Int) - 0).toNat = n := by simp
  rw [e] at h
  by_cases hk : k < n
  · rw [List.getElem?_range hk] at h
    cases h
    exact ⟨hk, by simp⟩
  · rw [List.getElem?_eq_none (by simpa using hk)] at h
    cases h
theorem rng_len {n : Nat} : (rngItems 0 (n : Int)).length = n := by
  unfold rngItems
  simp
end
theorem ixN0 {n : Nat} : ixN (n + 1) (0 : Int) = some 0 := by
  unfold ixN
  rw [if_pos (by decide), if_pos (by omega)]; rfl
theorem ixN1 {n : Nat} : ixN (n + 1 + 1) (1 : Int) = some 1 := by
  unfold ixN
  rw [if_pos (by decide), if_pos (by omega)]; rfl
theorem ixN2 {n : Nat} : ixN (n + 1 + 1 + 1) (2 : Int) = some 2 := by
  unfold ixN
  rw [if_pos (by decide), if_pos (by omega)]; rfl
theorem atI0 {x : D} {r : List D} : atI (x :: r) (0 : Int) = some x := by
  unfold atI
  rw [List.length_cons, ixN0]; rfl
theorem atI1 {x y : D} {r : List D} : atI (x :: y :: r) (1 : Int) = some y := by
  unfold atI
  rw [List.length_cons, List.length_cons, ixN1]; rfl
theorem atI2 {x y z : D} {r : List D} : atI (x :: y :: z :: r) (2 : Int) = some z := by
  unfold atI
  rw [List.length_cons, List.length_cons, List.length_cons, ixN2]; rfl
theorem comp_wpT {α : Type} {w : Itm} {tg : D → Sl → M Sl} {cond : Sl → M Bool} {elt : Sl → M D} {s : Sl} {g : GS} (hok : w.ok g) (e f : α → D) : ∀ (xs : List α), (∀ x ∈ xs, ∃ s1, tg (e x) s g = .ok s1 g ∧ cond s1 g = .ok true g ∧ elt s1 g = .ok (f x) g) → compM w tg cond elt s (xs.map e) g = .ok (xs.map f) g
  | [], h => by
    unfold compM
    rw [List.map_nil]
    dsimp only
    rw [if_pos hok]; rfl
  | x :: xs, h => by
    obtain ⟨s1, e1, e2, e3⟩ := h x List.mem_cons_self
    rw [List.map_cons]
    unfold compM
    rw [if_pos hok, e1]
    dsimp only
    rw [e2]
    dsimp only
    rw [e3]
    dsimp only
    rw [comp_wpT hok e f xs fun y hy => h y (List.mem_cons_of_mem _ hy)]
    rfl
theorem gen_wpT {α : Type} {w : Itm} {tg : D → Sl → M Sl} {elt : Sl → M D} {stop : Bool} {s : Sl} {g : GS} (hok : w.ok g) (e : α → D) (f : α → Bool) : ∀ (xs : List α), (∀ x ∈ xs, ∃ s1, tg (e x) s g = .ok s1 g ∧ elt s1 g = .ok (.bl (f x)) g) → genM w tg elt stop s (xs.map e) g = .ok (.bl (if xs.any (fun x => f x == stop) then stop else !stop)) g
  | [], h => by
    unfold genM
    rw [List.map_nil]
    dsimp only
    rw [if_pos hok]; rfl
  | x :: xs, h => by
    obtain ⟨s1, e1, e2⟩ := h x List.mem_cons_self
    rw [List.map_cons]
    unfold genM
    rw [if_pos hok, e1]
    dsimp only
    rw [e2]
    dsimp only
    by_cases q : f x = stop
    · rw [if_pos q, List.any_cons, q, beq_self_eq_true, Bool.true_or]
      rfl
    · rw [if_neg q, gen_wpT hok e f xs fun y hy => h y (List.mem_cons_of_mem _ hy), List.any_cons, beq_eq_false_iff_ne.mpr q, Bool.false_or]
/-- from an end told backwards to the end itself -/
theorem okM.eq {α : Type} {r : R α} {a : α} {g : GS} (h : okM r fun b g' => b = a ∧ g' = g) : r = .ok a g := by
  obtain ⟨b, g', e, rfl, rfl⟩ := h.out
  exact e
end
end DL
namespace DL
open PySem PySem.Spec PyProof.Rows L2
open Classical
noncomputable section
section
variable {Pn : Sl → GS → Prop} {Pr : D → GS → Prop} {Pb Pc : Sl → GS → Prop} {mc : Sl → M Bool} {body : MS}
theorem whl_go (I : Nat → Sl → GS → Prop)
    (step : ∀ n s g, I n s g → okM (mc s g) fun b g1 => if b = true then okS (body s g1) (fun s' g' => ∃ m, m < n ∧ I m s' g') Pr Pn (fun s' g' => ∃ m, m < n ∧ I m s' g') else Pn s g1) :
    ∀ n s g, I n s g → okS (whileM mc body (n + 1) s g) Pn Pr Pb Pc := by
  intro n
  induction n using Nat.strongRecOn with
  | ind n ih =>
    intro s g h
    obtain ⟨b, g1, e1, h1⟩ := (step n s g h).out
    unfold whileM
    rw [e1]
    have more : ∀ s2 g2, (∃ m, m < n ∧ I m s2 g2) → okS (whileM mc body n s2 g2) Pn Pr Pb Pc := fun s2 g2 ⟨m, hm, hi⟩ => by
      have z := ih m hm s2 g2 hi
      have nb : whileM mc body (m + 1) s2 g2 ≠ .bad := fun e => by
        rw [e] at z
        exact z
      rw [whileM_mono (show m + 1 ≤ n from hm) nb]
      exact z
    cases b with
    | false => exact h1
    | true =>
      dsimp only
      rw [if_pos rfl] at h1
      generalize body s g1 = r at h1 ⊢
      cases r with
      | nx s2 g2 => exact more s2 g2 h1
      | ct s2 g2 => exact more s2 g2 h1
      | bk s2 g2 => exact h1
      | rt d g2 => exact h1
      | bad => exact h1.elim
      | ex _ _ _ => exact h1.elim
theorem whl_wp {s : Sl} {g : GS} (I : Nat → Sl → GS → Prop) (n : Nat) (h0 : I n s g)
    (step : ∀ n s g, I n s g → okM (mc s g) fun b g1 => if b = true then okS (body s g1) (fun s' g' => ∃ m, m < n ∧ I m s' g') Pr Pn (fun s' g' => ∃ m, m < n ∧ I m s' g') else Pn s g1) :
    okS (whileS mc body s g) Pn Pr Pb Pc := by
  have z := whl_go (Pb := Pb) (Pc := Pc) I step n s g h0
  rw [whileS_eq (n := n + 1) fun e => by rw [e] at z; exact z]
  exact z
theorem v_aug {f : Int → Int → Int} {i : Nat} {me : Sl → M D} {s : Sl} {g : GS} {x y : Int} (hx : s[i]? = some (some (.int x))) (he : me s g = .ok (.int y) g) : okS (augI f i me s g) Pn Pr Pb Pc ↔ Pn (s.set i (some (.int (f x y)))) g := by
  unfold augI bndS
  rw [hx]
  dsimp only
  rw [he]
  rfl
end
theorem pre_set {g g' : GS} {n : Nat} {c : Cell} (h : g <+: g') (hn : g.length ≤ n) : g <+: g'.set n c := by
  obtain ⟨ex, rfl⟩ := h
  rw [List.set_append_right _ _ hn]
  exact List.prefix_append _ _
theorem pre_get {g g' : GS} (h : g <+: g') {n : Nat} {c : Cell} (e : g[n]? = some c) : g'[n]? = some c := by
  obtain ⟨ex, rfl⟩ := h
  rw [List.getElem?_append_left (List.getElem?_eq_some_iff.mp e).1]
  exact e
theorem pre_app {g g' : GS} (h : g <+: g') (ex : GS) : g <+: g' ++ ex := h.trans (List.prefix_append _ _)
theorem comp_pre {α : Type} {w : Itm} {tg : D → Sl → M Sl} {cond : Sl → M Bool} {elt : Sl → M D} {s : Sl} {g0 : GS} (hok : ∀ g, g0 <+: g → w.ok g) (e f : α → D) : ∀ (xs : List α) (g : GS), g0 <+: g →
    (∀ x ∈ xs, ∀ g', g0 <+: g' → ∃ s1, tg (e x) s g' = .ok s1 g' ∧ cond s1 g' = .ok true g' ∧ okM (elt s1 g') fun d g2 => d = f x ∧ g' <+: g2) →
    okM (compM w tg cond elt s (xs.map e) g) fun ds g' => ds = xs.map f ∧ g <+: g'
  | [], g, hg, h => by
    rw [List.map_nil]
    unfold compM
    rw [if_pos (hok g hg)]
    exact ⟨rfl, List.prefix_refl _⟩
  | x :: xs, g, hg, h => by
    obtain ⟨s1, e1, e2, e3⟩ := h x List.mem_cons_self g hg
    obtain ⟨d, g2, e4, rfl, p2⟩ := e3.out
    obtain ⟨ds, g3, e5, rfl, p3⟩ := (comp_pre hok e f xs g2 (hg.trans p2) fun x' hx' => h x' (List.mem_cons_of_mem _ hx')).out
    rw [List.map_cons]
    unfold compM
    rw [if_pos (hok g hg), e1]
    dsimp only
    rw [e2]
    dsimp only
    rw [e4]
    dsimp only
    rw [e5]
    exact ⟨rfl, p2.trans p3⟩
/-- a def that makes lists of its own and answers None or a list of its own -/
theorem fn_opt {np k : Nat} {ms : MS} {ds : List D} {g : GS} {P : D → GS → Prop} (hn : ds.length = np) (h : okS (ms (ds.map some ++ List.replicate (k - np) none) g) (fun _ _ => False) (fun d g' => g <+: g' ∧ ((d = .non ∧ ∀ g2, g <+: g2 → P .non g2) ∨ (d.und g.length = false ∧ P d g'))) (fun _ _ => False) fun _ _ => False) : okM (fnM np k ms ds g) P := by
  unfold fnM
  rw [if_pos hn]
  generalize ms (ds.map some ++ List.replicate (k - np) none) g = r at h ⊢
  cases r with
  | nx s g' => exact h.elim
  | rt d g' =>
    obtain ⟨pre, ⟨rfl, h⟩ | ⟨hu, h⟩⟩ := h
    · show okM (gcR g.length (.ok .non g')) P
      unfold gcR
      dsimp only
      split
      · refine h _ ?_
        obtain ⟨ex, rfl⟩ := pre
        rw [List.take_left' rfl]
        exact List.prefix_refl _
      · exact h _ pre
    · show okM (gcR g.length (.ok d g')) P
      unfold gcR
      dsimp only
      rw [if_neg (by rw [hu]; exact Bool.false_ne_true)]
      exact h
  | bk _ _ => exact h.elim
  | ct _ _ => exact h.elim
  | bad => exact h.elim
  | ex _ _ _ => exact h.elim
end
end DL
namespace DL
open PySem PySem.Spec PyProof.Rows L2
open Classical
end DL
namespace DL
open PySem PySem.Spec PyProof.Rows L2
open Classical
noncomputable section
/-- only the cells of S change, and new ones come -/
structure Chg (S : List Nat) (g g' : GS) : Prop where
  le : g.length ≤ g'.length
  at_ : ∀ i, i ∉ S → i < g.length → g'[i]? = g[i]?
theorem Chg.refl (S : List Nat) (g : GS) : Chg S g g := ⟨Nat.le_refl _, fun _ _ _ => rfl⟩
theorem Chg.trans {S : List Nat} {g1 g2 g3 : GS} (h : Chg S g1 g2) (k : Chg S g2 g3) : Chg S g1 g3 :=
  ⟨Nat.le_trans h.le k.le, fun i hi hl => (k.at_ i hi (Nat.lt_of_lt_of_le hl h.le)).trans (h.at_ i hi hl)⟩
theorem Chg.pre {S : List Nat} {g g' : GS} (h : g <+: g') : Chg S g g' := by
  obtain ⟨ex, rfl⟩ := h
  exact ⟨by simp, fun i _ hl => List.getElem?_append_left hl⟩
theorem Chg.get {S : List Nat} {g g' : GS} (h : Chg S g g') {i : Nat} {c : Cell} (hi : i ∉ S) (e : g[i]? = some c) : g'[i]? = some c := by
  rw [h.at_ i hi (List.getElem?_eq_some_iff.mp e).1]
  exact e
theorem Chg.set {S : List Nat} {g g' : GS} (h : Chg S g g') {n : Nat} {c : Cell} (hn : n ∈ S ∨ g.length ≤ n) : Chg S g (g'.set n c) := by
  refine ⟨by rw [List.length_set]; exact h.le, fun i hi hl => ?_⟩
  rw [List.getElem?_set_ne]
  · exact h.at_ i hi hl
  · rintro rfl
    rcases hn with hn | hn
    · exact hi hn
    · omega
theorem Chg.app {S : List Nat} {g g' : GS} (h : Chg S g g') (ex : GS) : Chg S g (g' ++ ex) := h.trans (.pre (List.prefix_append _ _))
theorem Chg.take {S : List Nat} {g g' : GS} (h : Chg S g g') : Chg S g (g'.take g.length) := by
  refine ⟨by rw [List.length_take]; have := h.le; omega, fun i hi hl => ?_⟩
  rw [List.getElem?_take_of_lt hl]
  exact h.at_ i hi hl
theorem Chg.mono {S T : List Nat} {g g' : GS} (h : Chg S g g') (k : ∀ i ∈ S, i ∈ T ∨ g.length ≤ i) : Chg T g g' := by
  refine ⟨h.le, fun i hi hl => h.at_ i (fun z => ?_) hl⟩
  rcases k i z with y | y
  · exact hi y
  · omega
section
variable {n : Nat} {kv : List (NK × D)} {es : List D} {k : NK} {g : GS}
theorem w_subMG {mo mi : Sl → M D} {d : D} {s : Sl} {Ps : Sl → GS → Prop} : okM (subMG mo mi d s g) Ps ↔ okM (mo s g) fun x g1 => okM (mi s g1) fun i g2 => okM (mputD x i d g2) fun _ g3 => Ps s g3 := by
  unfold subMG
  simp only [w_bnd, w_pur]
end
end
end DL
namespace DL
open PySem PySem.Spec PyProof.Rows L2
open Classical
end DL
namespace DL
open PySem PySem.Spec PyProof.Rows L2
section
variable (cells : List Addr) (fas : List He.Fa) (fns : List He.DefD) (tds : List He.Tab) (tfs : List He.Defn) (exB : PySem.W.Frag → Bool)
def obsA (look : Addr → Option Obj) : He.AlX :=
  let K := He.frT look cells
  (He.obsT fas fns tds K, exB K && He.tabsB look tfs K)
variable {cells fas fns tds tfs exB}
theorem obsA_says {w : World} {h : Heap} (e : obsA cells fas fns tds tfs exB h.get? = He.valX fns tds w) : He.SaysX fas fns tds tfs exB w h (He.frT h.get? cells) := by
  have e1 := congrArg Prod.fst e
  have e2 := congrArg Prod.snd e
  have e2 : (exB (He.frT h.get? cells) && He.tabsB h.get? tfs (He.frT h.get? cells)) = true := e2
  rw [Bool.and_eq_true] at e2
  have each : ∀ p, p ∈ tfs → PySem.W.codeHdIn (He.frT h.get? cells) (He.cT (He.frT h.get? cells) p).1 (He.cT (He.frT h.get? cells) p).2 = true ∧ ∃ o, h.get? (He.cT (He.frT h.get? cells) p).2 = some o ∧ He.emptyTab o = true := fun p m => by
    have a := List.all_eq_true.mp e2.2 p m
    rw [Bool.and_eq_true] at a
    refine ⟨a.1, ?_⟩
    have b := a.2
    cases c : h.get? (He.cT (He.frT h.get? cells) p).2 with
    | none => rw [c] at b; cases b
    | some o => rw [c] at b; exact ⟨o, rfl, b⟩
  refine ⟨e1, e2.1, fun p m => (each p m).1, fun p m => ?_, fun p m => ?_⟩
  · obtain ⟨_, o, c, b⟩ := each p m
    exact He.frT_none c b
  · obtain ⟨_, o, c, b⟩ := each p m
    rw [c, He.emptyTab_eq b]
variable (cells fas fns tds tfs exB)
def hookA : PySem.W.Hook :=
  ⟨He.AlX, fun s => obsA cells fas fns tds tfs exB s.heap.get?, fun w => He.valX fns tds w, (He.hookX 0 fas fns tds tfs exB).says, fun _ _ e => ⟨_, He.frT_in, obsA_says e⟩, (He.hookX 0 fas fns tds tfs exB).keeps⟩
theorem obsA_eq {look : Addr → Option Obj} {s : Shared} (h : ∀ a, look a = s.heap.get? a) : obsA cells fas fns tds tfs exB look = (hookA cells fas fns tds tfs exB).obs s := by
  have e : look = s.heap.get? := funext h
  subst e
  rfl
end
end DL
namespace K06
open PySem PySem.Spec PyProof.Rows L2 DL
open Classical
noncomputable section
def top (i : Nat) : Stmt := PySem.Challenge.pw_twoknowers_k06_states_that_are_reached.main.body.getD i (.Pass ⟨0, 0, 0, 0⟩)
abbrev s_press_of : Stmt := top 6
abbrev s_acts : Stmt := top 8
abbrev s_word_of : Stmt := top 5
abbrev s_put : Stmt := top 7
abbrev s__added : Stmt := top 14
abbrev s__changed : Stmt := top 13
abbrev s__changes_of : Stmt := top 10
abbrev s__next_focus : Stmt := top 12
abbrev s__moved : Stmt := top 11
abbrev s_step : Stmt := top 9
abbrev s__states_behind : Stmt := top 16
abbrev s_start : Stmt := top 4
abbrev s_reached : Stmt := top 15
abbrev s__law_next : Stmt := top 31
abbrev s__law_acts : Stmt := top 41
abbrev s__law_word : Stmt := top 36
abbrev s__law_put : Stmt := top 37
abbrev s__law_added : Stmt := top 38
abbrev s__law_turn : Stmt := top 39
abbrev s__law_after : Stmt := top 40
abbrev s__law_found : Stmt := top 42
abbrev s__is_number : Stmt := top 21
abbrev s_are_indexes : Stmt := top 29
abbrev s__is_change : Stmt := top 27
abbrev s_are_changes : Stmt := top 26
abbrev s__are_ticks : Stmt := top 28
abbrev s_is_shown : Stmt := top 25
abbrev s__is_part : Stmt := top 24
abbrev s__are_parts : Stmt := top 23
abbrev s_are_sizes : Stmt := top 22
abbrev s_init : Stmt := inClass (top 20) 0
abbrev s__law_made : Stmt := top 35
abbrev s__law_changes : Stmt := top 32
abbrev s__law_pair : Stmt := top 33
abbrev s__law_data : Stmt := top 34
abbrev s_law : Stmt := top 43
def tabs (K : PySem.W.Frag) : List Addr := [(He.cT K (("put" : Str), none)).2, (He.cT K (("are_changes" : Str), none)).2, (He.cT K (("_are_ticks" : Str), none)).2, (He.cT K (("is_shown" : Str), none)).2, (He.cT K (("_are_parts" : Str), none)).2, (He.cT K (("are_sizes" : Str), none)).2]
abbrev FnP (K : PySem.W.Frag) (x : Str) (st : Stmt) (f : Addr) (fd : FuncData) : Prop := FunD K x x (defArgs st) (defBody st) (defScope st) [] [] f fd
def kwsP (K : PySem.W.Frag) : List (Str × V) := []
structure Fx (P : Program) (w : World) (K : PySem.W.Frag) (mg : Str → Option Value) (base : Heap) : Prop where
  c_MOST_PARTS : ∃ t, mg ("MOST_PARTS" : Str) = some (.int 4 t)
  c_MOST_TICKS : ∃ t, mg ("MOST_TICKS" : Str) = some (.int 2 t)
  g_all : mg ("all" : Str) = none
  g_bool : mg ("bool" : Str) = none
  g_int : mg ("int" : Str) = none
  g_isinstance : mg ("isinstance" : Str) = none
  g_len : mg ("len" : Str) = none
  g_list : mg ("list" : Str) = none
  g_max : mg ("max" : Str) = none
  g_range : mg ("range" : Str) = none
  g_set : mg ("set" : Str) = none
  g_tuple : mg ("tuple" : Str) = none
  cls : Cls K (He.ga K ("Program" : Str))
  g_Program : mg ("Program" : Str) = some (.ref (He.ga K ("Program" : Str)))
  mkC : Mk K (He.ga K ("Program" : Str)) (He.fAd K (("Program" : Str), some "__init__"))
  no_live : NoAttr K (He.ga K ("Program" : Str)) ("live" : Str)
  no_parts : NoAttr K (He.ga K ("Program" : Str)) ("parts" : Str)
  no_sizes : NoAttr K (He.ga K ("Program" : Str)) ("sizes" : Str)
  no_skips : NoAttr K (He.ga K ("Program" : Str)) ("skips" : Str)
  no_ticks : NoAttr K (He.ga K ("Program" : Str)) ("ticks" : Str)
  no_all : ∀ f ∈ ([("sizes" : Str), ("parts" : Str), ("ticks" : Str), ("live" : Str), ("skips" : Str)] : List Str), NoAttr K (He.ga K ("Program" : Str)) f
  f_init : ∃ fd, FunD K "__init__" ("Program.__init__" : Str) (defArgs s_init) (defBody s_init) (defScope s_init) [] (kwsP K) (He.fAd K (("Program" : Str), some "__init__")) fd
  g_press_of : mg ("press_of" : Str) = some (.ref (He.fAd K (("press_of" : Str), none)))
  f_press_of : ∃ fd, FnP K ("press_of" : Str) s_press_of (He.fAd K (("press_of" : Str), none)) fd
  g_acts : mg ("acts" : Str) = some (.ref (He.fAd K (("acts" : Str), none)))
  f_acts : ∃ fd, FnP K ("acts" : Str) s_acts (He.fAd K (("acts" : Str), none)) fd
  g_word_of : mg ("word_of" : Str) = some (.ref (He.fAd K (("word_of" : Str), none)))
  f_word_of : ∃ fd, FnP K ("word_of" : Str) s_word_of (He.fAd K (("word_of" : Str), none)) fd
  g_put : mg ("put" : Str) = some (.ref (He.fAd K (("put" : Str), none)))
  f_put : ∃ fd, FnP K ("put" : Str) s_put (He.fAd K (("put" : Str), none)) fd
  g__added : mg ("_added" : Str) = some (.ref (He.fAd K (("_added" : Str), none)))
  f__added : ∃ fd, FnP K ("_added" : Str) s__added (He.fAd K (("_added" : Str), none)) fd
  g__changed : mg ("_changed" : Str) = some (.ref (He.fAd K (("_changed" : Str), none)))
  f__changed : ∃ fd, FnP K ("_changed" : Str) s__changed (He.fAd K (("_changed" : Str), none)) fd
  g__changes_of : mg ("_changes_of" : Str) = some (.ref (He.fAd K (("_changes_of" : Str), none)))
  f__changes_of : ∃ fd, FnP K ("_changes_of" : Str) s__changes_of (He.fAd K (("_changes_of" : Str), none)) fd
  g__next_focus : mg ("_next_focus" : Str) = some (.ref (He.fAd K (("_next_focus" : Str), none)))
  f__next_focus : ∃ fd, FnP K ("_next_focus" : Str) s__next_focus (He.fAd K (("_next_focus" : Str), none)) fd
  g__moved : mg ("_moved" : Str) = some (.ref (He.fAd K (("_moved" : Str), none)))
  f__moved : ∃ fd, FnP K ("_moved" : Str) s__moved (He.fAd K (("_moved" : Str), none)) fd
  g_step : mg ("step" : Str) = some (.ref (He.fAd K (("step" : Str), none)))
  f_step : ∃ fd, FnP K ("step" : Str) s_step (He.fAd K (("step" : Str), none)) fd
  g__states_behind : mg ("_states_behind" : Str) = some (.ref (He.fAd K (("_states_behind" : Str), none)))
  f__states_behind : ∃ fd, FnP K ("_states_behind" : Str) s__states_behind (He.fAd K (("_states_behind" : Str), none)) fd
  g_start : mg ("start" : Str) = some (.ref (He.fAd K (("start" : Str), none)))
  f_start : ∃ fd, FnP K ("start" : Str) s_start (He.fAd K (("start" : Str), none)) fd
  g_reached : mg ("reached" : Str) = some (.ref (He.fAd K (("reached" : Str), none)))
  f_reached : ∃ fd, FnP K ("reached" : Str) s_reached (He.fAd K (("reached" : Str), none)) fd
  g__law_next : mg ("_law_next" : Str) = some (.ref (He.fAd K (("_law_next" : Str), none)))
  f__law_next : ∃ fd, FnP K ("_law_next" : Str) s__law_next (He.fAd K (("_law_next" : Str), none)) fd
  g__law_acts : mg ("_law_acts" : Str) = some (.ref (He.fAd K (("_law_acts" : Str), none)))
  f__law_acts : ∃ fd, FnP K ("_law_acts" : Str) s__law_acts (He.fAd K (("_law_acts" : Str), none)) fd
  g__law_word : mg ("_law_word" : Str) = some (.ref (He.fAd K (("_law_word" : Str), none)))
  f__law_word : ∃ fd, FnP K ("_law_word" : Str) s__law_word (He.fAd K (("_law_word" : Str), none)) fd
  g__law_put : mg ("_law_put" : Str) = some (.ref (He.fAd K (("_law_put" : Str), none)))
  f__law_put : ∃ fd, FnP K ("_law_put" : Str) s__law_put (He.fAd K (("_law_put" : Str), none)) fd
  g__law_added : mg ("_law_added" : Str) = some (.ref (He.fAd K (("_law_added" : Str), none)))
  f__law_added : ∃ fd, FnP K ("_law_added" : Str) s__law_added (He.fAd K (("_law_added" : Str), none)) fd
  g__law_turn : mg ("_law_turn" : Str) = some (.ref (He.fAd K (("_law_turn" : Str), none)))
  f__law_turn : ∃ fd, FnP K ("_law_turn" : Str) s__law_turn (He.fAd K (("_law_turn" : Str), none)) fd
  g__law_after : mg ("_law_after" : Str) = some (.ref (He.fAd K (("_law_after" : Str), none)))
  f__law_after : ∃ fd, FnP K ("_law_after" : Str) s__law_after (He.fAd K (("_law_after" : Str), none)) fd
  g__law_found : mg ("_law_found" : Str) = some (.ref (He.fAd K (("_law_found" : Str), none)))
  f__law_found : ∃ fd, FnP K ("_law_found" : Str) s__law_found (He.fAd K (("_law_found" : Str), none)) fd
  g__is_number : mg ("_is_number" : Str) = some (.ref (He.fAd K (("_is_number" : Str), none)))
  f__is_number : ∃ fd, FnP K ("_is_number" : Str) s__is_number (He.fAd K (("_is_number" : Str), none)) fd
  g_are_indexes : mg ("are_indexes" : Str) = some (.ref (He.fAd K (("are_indexes" : Str), none)))
  f_are_indexes : ∃ fd, FnP K ("are_indexes" : Str) s_are_indexes (He.fAd K (("are_indexes" : Str), none)) fd
  g__is_change : mg ("_is_change" : Str) = some (.ref (He.fAd K (("_is_change" : Str), none)))
  f__is_change : ∃ fd, FnP K ("_is_change" : Str) s__is_change (He.fAd K (("_is_change" : Str), none)) fd
  g_are_changes : mg ("are_changes" : Str) = some (.ref (He.fAd K (("are_changes" : Str), none)))
  f_are_changes : ∃ fd, FnP K ("are_changes" : Str) s_are_changes (He.fAd K (("are_changes" : Str), none)) fd
  g__are_ticks : mg ("_are_ticks" : Str) = some (.ref (He.fAd K (("_are_ticks" : Str), none)))
  f__are_ticks : ∃ fd, FnP K ("_are_ticks" : Str) s__are_ticks (He.fAd K (("_are_ticks" : Str), none)) fd
  g_is_shown : mg ("is_shown" : Str) = some (.ref (He.fAd K (("is_shown" : Str), none)))
  f_is_shown : ∃ fd, FnP K ("is_shown" : Str) s_is_shown (He.fAd K (("is_shown" : Str), none)) fd
  g__is_part : mg ("_is_part" : Str) = some (.ref (He.fAd K (("_is_part" : Str), none)))
  f__is_part : ∃ fd, FnP K ("_is_part" : Str) s__is_part (He.fAd K (("_is_part" : Str), none)) fd
  g__are_parts : mg ("_are_parts" : Str) = some (.ref (He.fAd K (("_are_parts" : Str), none)))
  f__are_parts : ∃ fd, FnP K ("_are_parts" : Str) s__are_parts (He.fAd K (("_are_parts" : Str), none)) fd
  g_are_sizes : mg ("are_sizes" : Str) = some (.ref (He.fAd K (("are_sizes" : Str), none)))
  f_are_sizes : ∃ fd, FnP K ("are_sizes" : Str) s_are_sizes (He.fAd K (("are_sizes" : Str), none)) fd
  g__law_made : mg ("_law_made" : Str) = some (.ref (He.fAd K (("_law_made" : Str), none)))
  f__law_made : ∃ fd, FnP K ("_law_made" : Str) s__law_made (He.fAd K (("_law_made" : Str), none)) fd
  g__law_changes : mg ("_law_changes" : Str) = some (.ref (He.fAd K (("_law_changes" : Str), none)))
  f__law_changes : ∃ fd, FnP K ("_law_changes" : Str) s__law_changes (He.fAd K (("_law_changes" : Str), none)) fd
  g__law_pair : mg ("_law_pair" : Str) = some (.ref (He.fAd K (("_law_pair" : Str), none)))
  f__law_pair : ∃ fd, FnP K ("_law_pair" : Str) s__law_pair (He.fAd K (("_law_pair" : Str), none)) fd
  g__law_data : mg ("_law_data" : Str) = some (.ref (He.fAd K (("_law_data" : Str), none)))
  f__law_data : ∃ fd, FnP K ("_law_data" : Str) s__law_data (He.fAd K (("_law_data" : Str), none)) fd
  g_law : mg ("law" : Str) = some (.ref (He.fAd K (("law" : Str), none)))
  f_law : ∃ fd, FnP K ("law" : Str) s_law (He.fAd K (("law" : Str), none)) fd
  tb_put : GxR.TabB base mg (He.cT K (("put" : Str), none)).1 (He.cT K (("put" : Str), none)).2
  ts_put : (He.cT K (("put" : Str), none)).2 ∈ tabs K
  tb_are_changes : GxR.TabB base mg (He.cT K (("are_changes" : Str), none)).1 (He.cT K (("are_changes" : Str), none)).2
  ts_are_changes : (He.cT K (("are_changes" : Str), none)).2 ∈ tabs K
  tb__are_ticks : GxR.TabB base mg (He.cT K (("_are_ticks" : Str), none)).1 (He.cT K (("_are_ticks" : Str), none)).2
  ts__are_ticks : (He.cT K (("_are_ticks" : Str), none)).2 ∈ tabs K
  tb_is_shown : GxR.TabB base mg (He.cT K (("is_shown" : Str), none)).1 (He.cT K (("is_shown" : Str), none)).2
  ts_is_shown : (He.cT K (("is_shown" : Str), none)).2 ∈ tabs K
  tb__are_parts : GxR.TabB base mg (He.cT K (("_are_parts" : Str), none)).1 (He.cT K (("_are_parts" : Str), none)).2
  ts__are_parts : (He.cT K (("_are_parts" : Str), none)).2 ∈ tabs K
  tb_are_sizes : GxR.TabB base mg (He.cT K (("are_sizes" : Str), none)).1 (He.cT K (("are_sizes" : Str), none)).2
  ts_are_sizes : (He.cT K (("are_sizes" : Str), none)).2 ∈ tabs K
section
variable {P : Program} {w : World} {K : PySem.W.Frag} {mg : Str → Option Value} {base : Heap}
def m_press_of (cP : Addr) : MS := (seqS (retS fun s => bnd (bnd (bnd (sget s 0) (fldD cP ("parts" : Str))) fun x => bnd (sget s 1) fun y => ixD x y) fun x => bnd (pur (.int 2)) fun y => ixD x y)
    skipS)
def F_press_of (cP : Addr) : List D → M D := fnM 2 2 (m_press_of cP)
theorem sc_press_of : FnScope [("program" : Str), ("part" : Str)] [("program" : Str), ("part" : Str)] (defScope s_press_of) := ⟨rfl, rfl, rfl, by decide +kernel, rfl, by decide +kernel, by decide +kernel⟩
theorem ok_press_of (F : Fx P w K mg base) {fd : FuncData} (hF : FnP K ("press_of" : Str) s_press_of (He.fAd K (("press_of" : Str), none)) fd) : FnOk P w K mg base (L2.CX P w) 1 (He.fAd K (("press_of" : Str), none)) fd [("program" : Str), ("part" : Str)] (spD ⟨K, tabs K, DL.fw w⟩ (F_press_of (He.ga K ("Program" : Str)))) :=
  fn_D (N := [("program" : Str), ("part" : Str)]) (ps := [("program" : Str), ("part" : Str)]) (k := 0) hF sc_press_of 2 2 rfl rfl fun A outer s H E hr => by
    apply Exists.intro
    unfold m_press_of
    exact (dss_cons (ds_ret (de_ix (de_ix (de_fld F.cls F.no_parts (de_var (pv 0))) (de_var (pv 1)) (fun _ _ => rfl)) de_int (fun _ _ => rfl)))
      dss_nil)
theorem own_press_of (F : Fx P w K mg base) : Own P w K mg base (tabs K) 1 ("press_of" : Str) (F_press_of (He.ga K ("Program" : Str))) := by
  obtain ⟨fd, hF⟩ := F.f_press_of
  exact ⟨_, fd, _, ok_press_of F hF, F.g_press_of, hF.kp, hF.bindsN fun _ _ _ _ _ _ us hl => match us, hl with | [_, _], _ => rfl⟩
def m_acts (cP : Addr) : MS := (seqS (asgS (fun s => sget s 1) (tgT3 2 3 4))
    (seqS (asgS (fun s => bnd (compD (fun s => bnd (bnd (bnd (bnd (bnd (sget s 0) (fldD cP ("parts" : Str))) fun x => bnd (pur []) fun r => pur (x :: r)) lenD) fun x => bnd (pur []) fun r => pur (x :: r)) fun ds => match ds with | [d] => rngW [d] | _ => fail) (tgN 7) (fun s => bnd (bnd (bnd (bnd (sget s 0) fun x => bnd (bnd (sget s 7) fun x => bnd (pur []) fun r => pur (x :: r)) fun r => pur (x :: r)) (F_press_of cP)) fun x => bnd (pur .non) fun y => (isNoneD true) x y) asB) (fun s => sget s 7) [7] s) newL) (tgN 5))
    (seqS (asgS (fun s => bnd (compD (fun s => bnd (sget s 5) seqW) (tgN 7) (fun s => pur true) (fun s => bnd (bnd (pur (.str ("point" : Str))) fun x => bnd (bnd (sget s 7) fun x => bnd (pur []) fun r => pur (x :: r)) fun r => pur (x :: r)) mkT) [7] s) newL) (tgN 6))
    (seqS (dropS fun s => bnd (sget s 6) fun x => bnd (tyM "list" x) fun x => bnd (bnd (bnd (bnd (pur (.str ("next" : Str))) fun x => bnd (pur []) fun r => pur (x :: r)) mkT) fun x => bnd (pur []) fun r => pur (x :: r)) (appendD x))
    (seqS (ifS (fun s => bnd (bnd (sget s 3) fun x => bnd (sget s 5) fun y => (inD false) x y) asB) (seqS (dropS fun s => bnd (sget s 6) fun x => bnd (tyM "list" x) fun x => bnd (bnd (bnd (bnd (pur (.str ("press" : Str))) fun x => bnd (pur []) fun r => pur (x :: r)) mkT) fun x => bnd (pur []) fun r => pur (x :: r)) (appendD x))
    skipS) skipS)
    (seqS (dropS fun s => bnd (sget s 6) fun x => bnd (tyM "list" x) fun x => bnd (bnd (bnd (compD (fun s => bnd (bnd (bnd (bnd (bnd (sget s 0) (fldD cP ("ticks" : Str))) fun x => bnd (pur []) fun r => pur (x :: r)) lenD) fun x => bnd (pur []) fun r => pur (x :: r)) fun ds => match ds with | [d] => rngW [d] | _ => fail) (tgN 8) (fun s => pur true) (fun s => bnd (bnd (pur (.str ("tick" : Str))) fun x => bnd (bnd (sget s 8) fun x => bnd (pur []) fun r => pur (x :: r)) fun r => pur (x :: r)) mkT) [8] s) newL) fun x => bnd (pur []) fun r => pur (x :: r)) (extendD x))
    (seqS (ifS (fun s => bnd (sget s 4) truM) (seqS (dropS fun s => bnd (sget s 6) fun x => bnd (tyM "list" x) fun x => bnd (bnd (bnd (bnd (pur (.str ("speak" : Str))) fun x => bnd (pur []) fun r => pur (x :: r)) mkT) fun x => bnd (pur []) fun r => pur (x :: r)) (appendD x))
    skipS) skipS)
    (seqS (retS fun s => sget s 6)
    skipS))))))))
def F_acts (cP : Addr) : List D → M D := fnM 2 9 (m_acts cP)
theorem sc_acts : FnScope [("program" : Str), ("state" : Str), ("_" : Str), ("focus" : Str), ("queue" : Str), ("pressed" : Str), ("allowed" : Str), ("part" : Str), ("index" : Str)] [("program" : Str), ("state" : Str)] (defScope s_acts) := ⟨rfl, rfl, rfl, by decide +kernel, rfl, by decide +kernel, by decide +kernel⟩
theorem ok_acts (F : Fx P w K mg base) {fd : FuncData} (hF : FnP K ("acts" : Str) s_acts (He.fAd K (("acts" : Str), none)) fd) : FnOk P w K mg base (L2.CX P w) 2 (He.fAd K (("acts" : Str), none)) fd [("program" : Str), ("state" : Str)] (spD ⟨K, tabs K, DL.fw w⟩ (F_acts (He.ga K ("Program" : Str)))) :=
  fn_D (N := [("program" : Str), ("state" : Str), ("_" : Str), ("focus" : Str), ("queue" : Str), ("pressed" : Str), ("allowed" : Str), ("part" : Str), ("index" : Str)]) (ps := [("program" : Str), ("state" : Str)]) (k := 1) hF sc_acts 2 9 rfl rfl fun A outer s H E hr => by
    apply Exists.intro
    unfold m_acts
    exact (dss_cons (ds_asg (de_var (pv 1)) (dg_tup3 (pg_tup rfl (pgs_cons (pg_name sc_acts.nd rfl (by first | exact Or.inl rfl | exact Or.inr rfl)) (pgs_cons (pg_name sc_acts.nd rfl (by first | exact Or.inl rfl | exact Or.inr rfl)) (pgs_cons (pg_name sc_acts.nd rfl (by first | exact Or.inl rfl | exact Or.inr rfl)) pgs_nil))))))
      (dss_cons (ds_setLc rfl sc_acts.nd rfl rfl rfl [(("part" : Str), 7)] rfl rfl (di_range1 rfl F.g_range (da_cons (de_callB call_len_seq calld_len rfl F.g_len boot_len (da_cons (de_fld F.cls F.no_parts (de_var (pv 0))) da_nil)) da_nil)) (fun s H C cl fp => by exact (dg_name (pg_name sc_acts.nd rfl (by first | exact Or.inl rfl | exact Or.inr rfl)))) (fun s H C cl fp => by exact (dts_one (dt_cmp op_notN opd_notN (de_own (own_press_of F) (hr.mono (by decide)) rfl psE0 (da_cons (de_var (pv 0)) (da_cons (de_var (pv 7)) da_nil))) de_non (nomark _)))) (fun s H C cl fp => by exact (de_var (pv 7))))
      (dss_cons (ds_setLc rfl sc_acts.nd rfl rfl rfl [(("part" : Str), 7)] rfl rfl (di_seq (de_var (pv 5))) (fun s H C cl fp => by exact (dg_name (pg_name sc_acts.nd rfl (by first | exact Or.inl rfl | exact Or.inr rfl)))) (fun s H C cl fp => by exact dts_nil) (fun s H C cl fp => by exact (de_tup (da_cons de_str (da_cons (de_var (pv 7)) da_nil)))))
      (dss_cons (ds_expr (de_bm (T := "list") (.inl rfl) PySem.F.plainAttrs_list PySem.F.slot_list_append PySem.F.type_list_append mt_append mtd_append (de_var (pv 6)) (da_cons (de_tup (da_cons de_str da_nil)) da_nil)))
      (dss_cons (ds_if (dt_cmp (op_inA (hu65 hr)) opd_inD (de_var (pv 3)) (de_var (pv 5)) (by with_unfolding_all rfl)) (dss_cons (ds_expr (de_bm (T := "list") (.inl rfl) PySem.F.plainAttrs_list PySem.F.slot_list_append PySem.F.type_list_append mt_append mtd_append (de_var (pv 6)) (da_cons (de_tup (da_cons de_str da_nil)) da_nil)))
      dss_nil) dss_nil)
      (dss_cons (ds_expr (de_bm (T := "list") (.inl rfl) PySem.F.plainAttrs_list PySem.F.slot_list_extend PySem.F.type_list_extend mt_extend mtd_extend (de_var (pv 6)) (da_cons (de_lcB [(("index" : Str), 8)] rfl sc_acts.nd rfl rfl (di_range1 rfl F.g_range (da_cons (de_callB call_len_seq calld_len rfl F.g_len boot_len (da_cons (de_fld F.cls F.no_ticks (de_var (pv 0))) da_nil)) da_nil)) (fun s H C cl fp => by exact (dg_name (pg_name sc_acts.nd rfl (by first | exact Or.inl rfl | exact Or.inr rfl)))) (fun s H C cl fp => by exact dts_nil) (fun s H C cl fp => by exact (de_tup (da_cons de_str (da_cons (de_var (pv 8)) da_nil))))) da_nil)))
      (dss_cons (ds_if (dt_tru (de_var (pv 4))) (dss_cons (ds_expr (de_bm (T := "list") (.inl rfl) PySem.F.plainAttrs_list PySem.F.slot_list_append PySem.F.type_list_append mt_append mtd_append (de_var (pv 6)) (da_cons (de_tup (da_cons de_str da_nil)) da_nil)))
      dss_nil) dss_nil)
      (dss_cons (ds_ret (de_var (pv 6)))
      dss_nil))))))))
theorem own_acts (F : Fx P w K mg base) : Own P w K mg base (tabs K) 2 ("acts" : Str) (F_acts (He.ga K ("Program" : Str))) := by
  obtain ⟨fd, hF⟩ := F.f_acts
  exact ⟨_, fd, _, ok_acts F hF, F.g_acts, hF.kp, hF.bindsN fun _ _ _ _ _ _ us hl => match us, hl with | [_, _], _ => rfl⟩
def m_word_of (cP : Addr) : MS := (seqS (asgS (fun s => bnd (bnd (bnd (sget s 0) (fldD cP ("parts" : Str))) fun x => bnd (sget s 2) fun y => ixD x y) fun x => bnd (pur (.int 1)) fun y => ixD x y) (tgT2 3 4))
    (seqS (retS fun s => bnd (sget s 4) fun x => bnd (bnd (sget s 1) fun x => bnd (sget s 3) fun y => ixD x y) fun y => ixD x y)
    skipS))
def F_word_of (cP : Addr) : List D → M D := fnM 3 5 (m_word_of cP)
theorem sc_word_of : FnScope [("program" : Str), ("values" : Str), ("part" : Str), ("variable" : Str), ("table" : Str)] [("program" : Str), ("values" : Str), ("part" : Str)] (defScope s_word_of) := ⟨rfl, rfl, rfl, by decide +kernel, rfl, by decide +kernel, by decide +kernel⟩
theorem ok_word_of (F : Fx P w K mg base) {fd : FuncData} (hF : FnP K ("word_of" : Str) s_word_of (He.fAd K (("word_of" : Str), none)) fd) : FnOk P w K mg base (L2.CX P w) 1 (He.fAd K (("word_of" : Str), none)) fd [("program" : Str), ("values" : Str), ("part" : Str)] (spD ⟨K, tabs K, DL.fw w⟩ (F_word_of (He.ga K ("Program" : Str)))) :=
  fn_D (N := [("program" : Str), ("values" : Str), ("part" : Str), ("variable" : Str), ("table" : Str)]) (ps := [("program" : Str), ("values" : Str), ("part" : Str)]) (k := 0) hF sc_word_of 3 5 rfl rfl fun A outer s H E hr => by
    apply Exists.intro
    unfold m_word_of
    exact (dss_cons (ds_asg (de_ix (de_ix (de_fld F.cls F.no_parts (de_var (pv 0))) (de_var (pv 2)) (fun _ _ => rfl)) de_int (fun _ _ => rfl)) (dg_tup2 (pg_tup rfl (pgs_cons (pg_name sc_word_of.nd rfl (by first | exact Or.inl rfl | exact Or.inr rfl)) (pgs_cons (pg_name sc_word_of.nd rfl (by first | exact Or.inl rfl | exact Or.inr rfl)) pgs_nil)))))
      (dss_cons (ds_ret (de_ix (de_var (pv 4)) (de_ix (de_var (pv 1)) (de_var (pv 3)) (fun _ _ => rfl)) (fun _ _ => rfl)))
      dss_nil))
theorem own_word_of (F : Fx P w K mg base) : Own P w K mg base (tabs K) 1 ("word_of" : Str) (F_word_of (He.ga K ("Program" : Str))) := by
  obtain ⟨fd, hF⟩ := F.f_word_of
  exact ⟨_, fd, _, ok_word_of F hF, F.g_word_of, hF.kp, hF.bindsN fun _ _ _ _ _ _ us hl => match us, hl with | [_, _, _], _ => rfl⟩
def m_put (cP : Addr) : MS := (seqS (asgS (fun s => bnd (sget s 1) fun x => bnd (pur (.int 0)) fun y => ixD x y) (tgN 2))
    (seqS (ifS (fun s => bnd (genD (fun s => bnd (sget s 0) seqW) (tgN 3) (fun s => bnd (bnd (sget s 3) fun x => bnd (pur (.int 0)) fun y => ixD x y) fun x => bnd (sget s 2) fun y => neD x y) false [3] s) truM) (seqS (retS fun s => bnd (bnd (sget s 0) fun x => bnd (starD x) fun xs => bnd (bnd (sget s 1) fun x => bnd (pur []) fun r => pur (x :: r)) fun r => pur (xs ++ r)) mkT)
    skipS) skipS)
    (seqS (retS fun s => bnd (compD (fun s => bnd (sget s 0) seqW) (tgN 3) (fun s => pur true) (fun s => bnd (bnd (bnd (bnd (sget s 3) fun x => bnd (pur (.int 0)) fun y => ixD x y) fun x => bnd (sget s 2) fun y => eqD x y) asB) fun x => if x then sget s 1 else sget s 3) [3] s) fun ds => pur (.tup ds))
    skipS)))
def F_put (cP : Addr) : List D → M D := fnM 2 4 (m_put cP)
theorem sc_put : FnScope [("queue" : Str), ("message" : Str), ("part" : Str), ("waiting" : Str)] [("queue" : Str), ("message" : Str)] (defScope s_put) := ⟨rfl, rfl, rfl, by decide +kernel, rfl, by decide +kernel, by decide +kernel⟩
theorem ok_put (F : Fx P w K mg base) {fd : FuncData} (hF : FnP K ("put" : Str) s_put (He.fAd K (("put" : Str), none)) fd) : FnOk P w K mg base (L2.CX P w) 4 (He.fAd K (("put" : Str), none)) fd [("queue" : Str), ("message" : Str)] (spD ⟨K, tabs K, DL.fw w⟩ (F_put (He.ga K ("Program" : Str)))) :=
  fn_D (N := [("queue" : Str), ("message" : Str), ("part" : Str), ("waiting" : Str)]) (ps := [("queue" : Str), ("message" : Str)]) (k := 3) hF sc_put 2 4 rfl rfl fun A outer s H E hr => by
    apply Exists.intro
    unfold m_put
    exact (dss_cons (ds_set (i := 2) sc_put.nd rfl (by first | exact Or.inl rfl | exact Or.inr rfl) (de_ix (de_var (pv 1)) de_int (fun _ _ => rfl)))
      (dss_cons (ds_if (dt_tru (de_allB [(("waiting" : Str), 3)] 0 (hr.mono (by decide)) rfl F.g_all F.tb_put rfl F.ts_put rfl sc_put.nd rfl rfl rfl (di_seq (de_var (pv 0))) (fun s H C cl code fp pn => by exact (dg_name (pg_name sc_put.nd rfl (by first | exact Or.inl rfl | exact Or.inr rfl)))) (fun s H C cl code fp pn hr => by exact (de_cmp (op_neD (hu64 hr)) opd_neD (de_ix (de_var (pv 3)) de_int (fun _ _ => rfl)) (de_var (pv 2)) (nomark _))))) (dss_cons (ds_ret (de_tup (da_star (de_var (pv 0)) (da_cons (de_var (pv 1)) da_nil))))
      dss_nil) dss_nil)
      (dss_cons (ds_ret (de_tupLcB [(("waiting" : Str), 3)] rfl F.g_tuple rfl sc_put.nd rfl rfl (di_seq (de_var (pv 0))) (fun s H C cl fp => by exact (dg_name (pg_name sc_put.nd rfl (by first | exact Or.inl rfl | exact Or.inr rfl)))) (fun s H C cl fp => by exact dts_nil) (fun s H C cl fp => by exact (de_if (dt_cmp (op_eqD (hu64 hr)) opd_eqD (de_ix (de_var (pv 3)) de_int (fun _ _ => rfl)) (de_var (pv 2)) (nomark _)) (de_var (pv 1)) (de_var (pv 3))))))
      dss_nil)))
theorem own_put (F : Fx P w K mg base) : Own P w K mg base (tabs K) 4 ("put" : Str) (F_put (He.ga K ("Program" : Str))) := by
  obtain ⟨fd, hF⟩ := F.f_put
  exact ⟨_, fd, _, ok_put F hF, F.g_put, hF.kp, hF.bindsN fun _ _ _ _ _ _ us hl => match us, hl with | [_, _], _ => rfl⟩
def m__added (cP : Addr) : MS := (seqS (asgS (fun s => bnd (bnd (sget s 1) fun x => bnd (pur []) fun r => pur (x :: r)) listD) (tgN 3))
    (seqS (forS (fun s => bnd (sget s 2) seqW) (tgT2 4 5) (seqS (asgS (fun s => bnd (bnd (bnd (sget s 3) fun x => bnd (sget s 4) fun y => ixD x y) fun x => bnd (sget s 5) fun y => addD x y) fun x => bnd (bnd (sget s 0) fun x => bnd (sget s 4) fun y => ixD x y) fun y => modI x y) (subG (fun s => sget s 3) (fun s => sget s 4)))
    skipS))
    (seqS (retS fun s => bnd (bnd (sget s 3) fun x => bnd (pur []) fun r => pur (x :: r)) tupleD)
    skipS)))
def F__added (cP : Addr) : List D → M D := fnM 3 6 (m__added cP)
theorem sc__added : FnScope [("sizes" : Str), ("values" : Str), ("changes" : Str), ("behind" : Str), ("variable" : Str), ("add" : Str)] [("sizes" : Str), ("values" : Str), ("changes" : Str)] (defScope s__added) := ⟨rfl, rfl, rfl, by decide +kernel, rfl, by decide +kernel, by decide +kernel⟩
theorem ok__added (F : Fx P w K mg base) {fd : FuncData} (hF : FnP K ("_added" : Str) s__added (He.fAd K (("_added" : Str), none)) fd) : FnOk P w K mg base (L2.CX P w) 1 (He.fAd K (("_added" : Str), none)) fd [("sizes" : Str), ("values" : Str), ("changes" : Str)] (spD ⟨K, tabs K, DL.fw w⟩ (F__added (He.ga K ("Program" : Str)))) :=
  fn_D (N := [("sizes" : Str), ("values" : Str), ("changes" : Str), ("behind" : Str), ("variable" : Str), ("add" : Str)]) (ps := [("sizes" : Str), ("values" : Str), ("changes" : Str)]) (k := 0) hF sc__added 3 6 rfl rfl fun A outer s H E hr => by
    apply Exists.intro
    unfold m__added
    exact (dss_cons (ds_set (i := 3) sc__added.nd rfl (by first | exact Or.inl rfl | exact Or.inr rfl) (de_callTy call_list_of calld_list rfl F.g_list PyProof.Rows.boot_list (da_cons (de_var (pv 1)) da_nil)))
      (dss_cons (ds_for pown_of rfl (di_seq (de_var (pv 2))) (dg_tup2 (pg_tup rfl (pgs_cons (pg_name sc__added.nd rfl (by first | exact Or.inl rfl | exact Or.inr rfl)) (pgs_cons (pg_name sc__added.nd rfl (by first | exact Or.inl rfl | exact Or.inr rfl)) pgs_nil)))) (dss_cons (ds_asg (de_op op_mod opd_modI (de_op op_addA opd_addD (de_ix (de_var (pv 3)) (de_var (pv 4)) (fun _ _ => rfl)) (de_var (pv 5))) (de_ix (de_var (pv 0)) (de_var (pv 4)) (fun _ _ => rfl))) (dg_sub (de_var (pv 3)) (de_var (pv 4))))
      dss_nil))
      (dss_cons (ds_ret (de_callTy call_tuple_of calld_tuple rfl F.g_tuple PyProof.Rows.boot_tuple (da_cons (de_var (pv 3)) da_nil)))
      dss_nil)))
theorem own__added (F : Fx P w K mg base) : Own P w K mg base (tabs K) 1 ("_added" : Str) (F__added (He.ga K ("Program" : Str))) := by
  obtain ⟨fd, hF⟩ := F.f__added
  exact ⟨_, fd, _, ok__added F hF, F.g__added, hF.kp, hF.bindsN fun _ _ _ _ _ _ us hl => match us, hl with | [_, _, _], _ => rfl⟩
def m__changed (cP : Addr) : MS := (seqS (asgS (fun s => sget s 1) (tgT3 3 4 5))
    (seqS (asgS (fun s => bnd (bnd (bnd (sget s 0) (fldD cP ("sizes" : Str))) fun x => bnd (bnd (sget s 3) fun x => bnd (bnd (sget s 2) fun x => bnd (pur []) fun r => pur (x :: r)) fun r => pur (x :: r)) fun r => pur (x :: r)) (F__added cP)) (tgN 6))
    (seqS (forS (fun s => bnd (bnd (sget s 0) (fldD cP ("live" : Str))) seqW) (tgN 7) (seqS (asgS (fun s => bnd (bnd (sget s 0) fun x => bnd (bnd (sget s 6) fun x => bnd (bnd (sget s 7) fun x => bnd (pur []) fun r => pur (x :: r)) fun r => pur (x :: r)) fun r => pur (x :: r)) (F_word_of cP)) (tgN 8))
    (seqS (ifS (fun s => bnd (bnd (sget s 8) fun x => bnd (bnd (bnd (sget s 0) fun x => bnd (bnd (sget s 3) fun x => bnd (bnd (sget s 7) fun x => bnd (pur []) fun r => pur (x :: r)) fun r => pur (x :: r)) fun r => pur (x :: r)) (F_word_of cP)) fun y => neD x y) asB) (seqS (asgS (fun s => bnd (bnd (sget s 5) fun x => bnd (bnd (bnd (bnd (sget s 7) fun x => bnd (bnd (sget s 8) fun x => bnd (pur []) fun r => pur (x :: r)) fun r => pur (x :: r)) mkT) fun x => bnd (pur []) fun r => pur (x :: r)) fun r => pur (x :: r)) (F_put cP)) (tgN 5))
    skipS) skipS)
    skipS)))
    (seqS (retS fun s => bnd (bnd (sget s 6) fun x => bnd (bnd (sget s 4) fun x => bnd (bnd (sget s 5) fun x => bnd (pur []) fun r => pur (x :: r)) fun r => pur (x :: r)) fun r => pur (x :: r)) mkT)
    skipS))))
def F__changed (cP : Addr) : List D → M D := fnM 3 9 (m__changed cP)
theorem sc__changed : FnScope [("program" : Str), ("state" : Str), ("changes" : Str), ("values" : Str), ("focus" : Str), ("queue" : Str), ("behind" : Str), ("part" : Str), ("word" : Str)] [("program" : Str), ("state" : Str), ("changes" : Str)] (defScope s__changed) := ⟨rfl, rfl, rfl, by decide +kernel, rfl, by decide +kernel, by decide +kernel⟩
theorem ok__changed (F : Fx P w K mg base) {fd : FuncData} (hF : FnP K ("_changed" : Str) s__changed (He.fAd K (("_changed" : Str), none)) fd) : FnOk P w K mg base (L2.CX P w) 5 (He.fAd K (("_changed" : Str), none)) fd [("program" : Str), ("state" : Str), ("changes" : Str)] (spD ⟨K, tabs K, DL.fw w⟩ (F__changed (He.ga K ("Program" : Str)))) :=
  fn_D (N := [("program" : Str), ("state" : Str), ("changes" : Str), ("values" : Str), ("focus" : Str), ("queue" : Str), ("behind" : Str), ("part" : Str), ("word" : Str)]) (ps := [("program" : Str), ("state" : Str), ("changes" : Str)]) (k := 4) hF sc__changed 3 9 rfl rfl fun A outer s H E hr => by
    apply Exists.intro
    unfold m__changed
    exact (dss_cons (ds_asg (de_var (pv 1)) (dg_tup3 (pg_tup rfl (pgs_cons (pg_name sc__changed.nd rfl (by first | exact Or.inl rfl | exact Or.inr rfl)) (pgs_cons (pg_name sc__changed.nd rfl (by first | exact Or.inl rfl | exact Or.inr rfl)) (pgs_cons (pg_name sc__changed.nd rfl (by first | exact Or.inl rfl | exact Or.inr rfl)) pgs_nil))))))
      (dss_cons (ds_set (i := 6) sc__changed.nd rfl (by first | exact Or.inl rfl | exact Or.inr rfl) (de_own (own__added F) (hr.mono (by decide)) rfl psE_of (da_cons (de_fld F.cls F.no_sizes (de_var (pv 0))) (da_cons (de_var (pv 3)) (da_cons (de_var (pv 2)) da_nil)))))
      (dss_cons (ds_for pown_of rfl (di_seq (de_fld F.cls F.no_live (de_var (pv 0)))) (dg_name (pg_name sc__changed.nd rfl (by first | exact Or.inl rfl | exact Or.inr rfl))) (dss_cons (ds_set (i := 8) sc__changed.nd rfl (by first | exact Or.inl rfl | exact Or.inr rfl) (de_own (own_word_of F) (hr.mono (by decide)) rfl psE_of (da_cons (de_var (pv 0)) (da_cons (de_var (pv 6)) (da_cons (de_var (pv 7)) da_nil)))))
      (dss_cons (ds_if (dt_cmp (op_neD (hu64 hr)) opd_neD (de_var (pv 8)) (de_own (own_word_of F) (hr.mono (by decide)) rfl psE_of (da_cons (de_var (pv 0)) (da_cons (de_var (pv 3)) (da_cons (de_var (pv 7)) da_nil)))) (nomark _)) (dss_cons (ds_set (i := 5) sc__changed.nd rfl (by first | exact Or.inl rfl | exact Or.inr rfl) (de_own (own_put F) (hr.mono (by decide)) rfl psE_of (da_cons (de_var (pv 5)) (da_cons (de_tup (da_cons (de_var (pv 7)) (da_cons (de_var (pv 8)) da_nil))) da_nil))))
      dss_nil) dss_nil)
      dss_nil)))
      (dss_cons (ds_ret (de_tup (da_cons (de_var (pv 6)) (da_cons (de_var (pv 4)) (da_cons (de_var (pv 5)) da_nil)))))
      dss_nil))))
theorem own__changed (F : Fx P w K mg base) : Own P w K mg base (tabs K) 5 ("_changed" : Str) (F__changed (He.ga K ("Program" : Str))) := by
  obtain ⟨fd, hF⟩ := F.f__changed
  exact ⟨_, fd, _, ok__changed F hF, F.g__changed, hF.kp, hF.bindsN fun _ _ _ _ _ _ us hl => match us, hl with | [_, _, _], _ => rfl⟩
def m__changes_of (cP : Addr) : MS := (seqS (ifS (fun s => bnd (bnd (bnd (sget s 2) fun x => bnd (pur (.int 0)) fun y => ixD x y) fun x => bnd (pur (.str ("tick" : Str))) fun y => eqD x y) asB) (seqS (retS fun s => bnd (bnd (sget s 0) (fldD cP ("ticks" : Str))) fun x => bnd (bnd (sget s 2) fun x => bnd (pur (.int 1)) fun y => ixD x y) fun y => ixD x y)
    skipS) skipS)
    (seqS (ifS (fun s => bnd (bnd (bnd (sget s 2) fun x => bnd (pur (.int 0)) fun y => ixD x y) fun x => bnd (pur (.str ("point" : Str))) fun y => eqD x y) asB) (seqS (retS fun s => bnd (bnd (sget s 0) fun x => bnd (bnd (bnd (sget s 2) fun x => bnd (pur (.int 1)) fun y => ixD x y) fun x => bnd (pur []) fun r => pur (x :: r)) fun r => pur (x :: r)) (F_press_of cP))
    skipS) skipS)
    (seqS (retS fun s => bnd (bnd (sget s 0) fun x => bnd (bnd (sget s 1) fun x => bnd (pur []) fun r => pur (x :: r)) fun r => pur (x :: r)) (F_press_of cP))
    skipS)))
def F__changes_of (cP : Addr) : List D → M D := fnM 3 3 (m__changes_of cP)
theorem sc__changes_of : FnScope [("program" : Str), ("focus" : Str), ("act" : Str)] [("program" : Str), ("focus" : Str), ("act" : Str)] (defScope s__changes_of) := ⟨rfl, rfl, rfl, by decide +kernel, rfl, by decide +kernel, by decide +kernel⟩
theorem ok__changes_of (F : Fx P w K mg base) {fd : FuncData} (hF : FnP K ("_changes_of" : Str) s__changes_of (He.fAd K (("_changes_of" : Str), none)) fd) : FnOk P w K mg base (L2.CX P w) 2 (He.fAd K (("_changes_of" : Str), none)) fd [("program" : Str), ("focus" : Str), ("act" : Str)] (spD ⟨K, tabs K, DL.fw w⟩ (F__changes_of (He.ga K ("Program" : Str)))) :=
  fn_D (N := [("program" : Str), ("focus" : Str), ("act" : Str)]) (ps := [("program" : Str), ("focus" : Str), ("act" : Str)]) (k := 1) hF sc__changes_of 3 3 rfl rfl fun A outer s H E hr => by
    apply Exists.intro
    unfold m__changes_of
    exact (dss_cons (ds_if (dt_cmp (op_eqD (hu64 hr)) opd_eqD (de_ix (de_var (pv 2)) de_int (fun _ _ => rfl)) de_str (nomark _)) (dss_cons (ds_ret (de_ix (de_fld F.cls F.no_ticks (de_var (pv 0))) (de_ix (de_var (pv 2)) de_int (fun _ _ => rfl)) (fun _ _ => rfl)))
      dss_nil) dss_nil)
      (dss_cons (ds_if (dt_cmp (op_eqD (hu64 hr)) opd_eqD (de_ix (de_var (pv 2)) de_int (fun _ _ => rfl)) de_str (nomark _)) (dss_cons (ds_ret (de_own (own_press_of F) (hr.mono (by decide)) rfl psE_of (da_cons (de_var (pv 0)) (da_cons (de_ix (de_var (pv 2)) de_int (fun _ _ => rfl)) da_nil))))
      dss_nil) dss_nil)
      (dss_cons (ds_ret (de_own (own_press_of F) (hr.mono (by decide)) rfl psE_of (da_cons (de_var (pv 0)) (da_cons (de_var (pv 1)) da_nil))))
      dss_nil)))
theorem own__changes_of (F : Fx P w K mg base) : Own P w K mg base (tabs K) 2 ("_changes_of" : Str) (F__changes_of (He.ga K ("Program" : Str))) := by
  obtain ⟨fd, hF⟩ := F.f__changes_of
  exact ⟨_, fd, _, ok__changes_of F hF, F.g__changes_of, hF.kp, hF.bindsN fun _ _ _ _ _ _ us hl => match us, hl with | [_, _, _], _ => rfl⟩
def m__next_focus (cP : Addr) : MS := (seqS (asgS (fun s => bnd (bnd (bnd (sget s 0) (fldD cP ("parts" : Str))) fun x => bnd (pur []) fun r => pur (x :: r)) lenD) (tgN 2))
    (seqS (forS (fun s => bnd (bnd (pur (.int 1)) fun x => bnd (bnd (sget s 2) fun x => bnd (pur []) fun r => pur (x :: r)) fun r => pur (x :: r)) fun ds => match ds with | [d, d'] => rngW [d, d'] | _ => fail) (tgN 3) (seqS (asgS (fun s => bnd (bnd (sget s 1) fun x => bnd (sget s 3) fun y => addD x y) fun x => bnd (sget s 2) fun y => modI x y) (tgN 4))
    (seqS (ifS (fun s => bnd (bnd (sget s 4) fun x => bnd (bnd (sget s 0) (fldD cP ("skips" : Str))) fun y => (inD true) x y) asB) (seqS (retS fun s => sget s 4)
    skipS) skipS)
    skipS)))
    (seqS (retS fun s => sget s 1)
    skipS)))
def F__next_focus (cP : Addr) : List D → M D := fnM 2 5 (m__next_focus cP)
theorem sc__next_focus : FnScope [("program" : Str), ("focus" : Str), ("many" : Str), ("by" : Str), ("part" : Str)] [("program" : Str), ("focus" : Str)] (defScope s__next_focus) := ⟨rfl, rfl, rfl, by decide +kernel, rfl, by decide +kernel, by decide +kernel⟩
theorem ok__next_focus (F : Fx P w K mg base) {fd : FuncData} (hF : FnP K ("_next_focus" : Str) s__next_focus (He.fAd K (("_next_focus" : Str), none)) fd) : FnOk P w K mg base (L2.CX P w) 1 (He.fAd K (("_next_focus" : Str), none)) fd [("program" : Str), ("focus" : Str)] (spD ⟨K, tabs K, DL.fw w⟩ (F__next_focus (He.ga K ("Program" : Str)))) :=
  fn_D (N := [("program" : Str), ("focus" : Str), ("many" : Str), ("by" : Str), ("part" : Str)]) (ps := [("program" : Str), ("focus" : Str)]) (k := 0) hF sc__next_focus 2 5 rfl rfl fun A outer s H E hr => by
    apply Exists.intro
    unfold m__next_focus
    exact (dss_cons (ds_set (i := 2) sc__next_focus.nd rfl (by first | exact Or.inl rfl | exact Or.inr rfl) (de_callB call_len_seq calld_len rfl F.g_len boot_len (da_cons (de_fld F.cls F.no_parts (de_var (pv 0))) da_nil)))
      (dss_cons (ds_for pown_of rfl (di_range2 rfl F.g_range (da_cons de_int (da_cons (de_var (pv 2)) da_nil))) (dg_name (pg_name sc__next_focus.nd rfl (by first | exact Or.inl rfl | exact Or.inr rfl))) (dss_cons (ds_set (i := 4) sc__next_focus.nd rfl (by first | exact Or.inl rfl | exact Or.inr rfl) (de_op op_mod opd_modI (de_op op_addA opd_addD (de_var (pv 1)) (de_var (pv 3))) (de_var (pv 2))))
      (dss_cons (ds_if (dt_cmp (op_notInA (hu65 hr)) opd_inD (de_var (pv 4)) (de_fld F.cls F.no_skips (de_var (pv 0))) (by with_unfolding_all rfl)) (dss_cons (ds_ret (de_var (pv 4)))
      dss_nil) dss_nil)
      dss_nil)))
      (dss_cons (ds_ret (de_var (pv 1)))
      dss_nil)))
theorem own__next_focus (F : Fx P w K mg base) : Own P w K mg base (tabs K) 1 ("_next_focus" : Str) (F__next_focus (He.ga K ("Program" : Str))) := by
  obtain ⟨fd, hF⟩ := F.f__next_focus
  exact ⟨_, fd, _, ok__next_focus F hF, F.g__next_focus, hF.kp, hF.bindsN fun _ _ _ _ _ _ us hl => match us, hl with | [_, _], _ => rfl⟩
def m__moved (cP : Addr) : MS := (seqS (asgS (fun s => sget s 1) (tgT3 2 3 4))
    (seqS (asgS (fun s => bnd (bnd (sget s 0) fun x => bnd (bnd (sget s 3) fun x => bnd (pur []) fun r => pur (x :: r)) fun r => pur (x :: r)) (F__next_focus cP)) (tgN 5))
    (seqS (retS fun s => bnd (bnd (sget s 2) fun x => bnd (bnd (sget s 5) fun x => bnd (bnd (bnd (bnd (sget s 4) fun x => bnd (bnd (bnd (bnd (sget s 5) fun x => bnd (bnd (bnd (bnd (sget s 0) fun x => bnd (bnd (sget s 2) fun x => bnd (bnd (sget s 5) fun x => bnd (pur []) fun r => pur (x :: r)) fun r => pur (x :: r)) fun r => pur (x :: r)) (F_word_of cP)) fun x => bnd (pur []) fun r => pur (x :: r)) fun r => pur (x :: r)) mkT) fun x => bnd (pur []) fun r => pur (x :: r)) fun r => pur (x :: r)) (F_put cP)) fun x => bnd (pur []) fun r => pur (x :: r)) fun r => pur (x :: r)) fun r => pur (x :: r)) mkT)
    skipS)))
def F__moved (cP : Addr) : List D → M D := fnM 2 6 (m__moved cP)
theorem sc__moved : FnScope [("program" : Str), ("state" : Str), ("values" : Str), ("focus" : Str), ("queue" : Str), ("now" : Str)] [("program" : Str), ("state" : Str)] (defScope s__moved) := ⟨rfl, rfl, rfl, by decide +kernel, rfl, by decide +kernel, by decide +kernel⟩
theorem ok__moved (F : Fx P w K mg base) {fd : FuncData} (hF : FnP K ("_moved" : Str) s__moved (He.fAd K (("_moved" : Str), none)) fd) : FnOk P w K mg base (L2.CX P w) 5 (He.fAd K (("_moved" : Str), none)) fd [("program" : Str), ("state" : Str)] (spD ⟨K, tabs K, DL.fw w⟩ (F__moved (He.ga K ("Program" : Str)))) :=
  fn_D (N := [("program" : Str), ("state" : Str), ("values" : Str), ("focus" : Str), ("queue" : Str), ("now" : Str)]) (ps := [("program" : Str), ("state" : Str)]) (k := 4) hF sc__moved 2 6 rfl rfl fun A outer s H E hr => by
    apply Exists.intro
    unfold m__moved
    exact (dss_cons (ds_asg (de_var (pv 1)) (dg_tup3 (pg_tup rfl (pgs_cons (pg_name sc__moved.nd rfl (by first | exact Or.inl rfl | exact Or.inr rfl)) (pgs_cons (pg_name sc__moved.nd rfl (by first | exact Or.inl rfl | exact Or.inr rfl)) (pgs_cons (pg_name sc__moved.nd rfl (by first | exact Or.inl rfl | exact Or.inr rfl)) pgs_nil))))))
      (dss_cons (ds_set (i := 5) sc__moved.nd rfl (by first | exact Or.inl rfl | exact Or.inr rfl) (de_own (own__next_focus F) (hr.mono (by decide)) rfl psE_of (da_cons (de_var (pv 0)) (da_cons (de_var (pv 3)) da_nil))))
      (dss_cons (ds_ret (de_tup (da_cons (de_var (pv 2)) (da_cons (de_var (pv 5)) (da_cons (de_own (own_put F) (hr.mono (by decide)) rfl psE_of (da_cons (de_var (pv 4)) (da_cons (de_tup (da_cons (de_var (pv 5)) (da_cons (de_own (own_word_of F) (hr.mono (by decide)) rfl psE_of (da_cons (de_var (pv 0)) (da_cons (de_var (pv 2)) (da_cons (de_var (pv 5)) da_nil)))) da_nil))) da_nil))) da_nil)))))
      dss_nil)))
theorem own__moved (F : Fx P w K mg base) : Own P w K mg base (tabs K) 5 ("_moved" : Str) (F__moved (He.ga K ("Program" : Str))) := by
  obtain ⟨fd, hF⟩ := F.f__moved
  exact ⟨_, fd, _, ok__moved F hF, F.g__moved, hF.kp, hF.bindsN fun _ _ _ _ _ _ us hl => match us, hl with | [_, _], _ => rfl⟩
def m_step (cP : Addr) : MS := (seqS (asgS (fun s => sget s 1) (tgT3 3 4 5))
    (seqS (ifS (fun s => bnd (bnd (bnd (sget s 2) fun x => bnd (pur (.int 0)) fun y => ixD x y) fun x => bnd (pur (.str ("speak" : Str))) fun y => eqD x y) asB) (seqS (retS fun s => bnd (bnd (bnd (bnd (sget s 3) fun x => bnd (bnd (sget s 4) fun x => bnd (bnd (bnd (sget s 5) fun x => bnd (bnd (pur (.int 1)) asI) fun l => bnd (pur none) fun u => slD x l u) fun x => bnd (pur []) fun r => pur (x :: r)) fun r => pur (x :: r)) fun r => pur (x :: r)) mkT) fun x => bnd (bnd (bnd (sget s 5) fun x => bnd (pur (.int 0)) fun y => ixD x y) fun x => bnd (pur []) fun r => pur (x :: r)) fun r => pur (x :: r)) mkT)
    skipS) skipS)
    (seqS (ifS (fun s => bnd (bnd (bnd (sget s 2) fun x => bnd (pur (.int 0)) fun y => ixD x y) fun x => bnd (pur (.str ("next" : Str))) fun y => eqD x y) asB) (seqS (retS fun s => bnd (bnd (bnd (bnd (sget s 0) fun x => bnd (bnd (sget s 1) fun x => bnd (pur []) fun r => pur (x :: r)) fun r => pur (x :: r)) (F__moved cP)) fun x => bnd (bnd (bnd (pur []) mkT) fun x => bnd (pur []) fun r => pur (x :: r)) fun r => pur (x :: r)) mkT)
    skipS) skipS)
    (seqS (retS fun s => bnd (bnd (bnd (bnd (sget s 0) fun x => bnd (bnd (sget s 1) fun x => bnd (bnd (bnd (bnd (sget s 0) fun x => bnd (bnd (sget s 4) fun x => bnd (bnd (sget s 2) fun x => bnd (pur []) fun r => pur (x :: r)) fun r => pur (x :: r)) fun r => pur (x :: r)) (F__changes_of cP)) fun x => bnd (pur []) fun r => pur (x :: r)) fun r => pur (x :: r)) fun r => pur (x :: r)) (F__changed cP)) fun x => bnd (bnd (bnd (pur []) mkT) fun x => bnd (pur []) fun r => pur (x :: r)) fun r => pur (x :: r)) mkT)
    skipS))))
def F_step (cP : Addr) : List D → M D := fnM 3 6 (m_step cP)
theorem sc_step : FnScope [("program" : Str), ("state" : Str), ("act" : Str), ("values" : Str), ("focus" : Str), ("queue" : Str)] [("program" : Str), ("state" : Str), ("act" : Str)] (defScope s_step) := ⟨rfl, rfl, rfl, by decide +kernel, rfl, by decide +kernel, by decide +kernel⟩
theorem ok_step (F : Fx P w K mg base) {fd : FuncData} (hF : FnP K ("step" : Str) s_step (He.fAd K (("step" : Str), none)) fd) : FnOk P w K mg base (L2.CX P w) 6 (He.fAd K (("step" : Str), none)) fd [("program" : Str), ("state" : Str), ("act" : Str)] (spD ⟨K, tabs K, DL.fw w⟩ (F_step (He.ga K ("Program" : Str)))) :=
  fn_D (N := [("program" : Str), ("state" : Str), ("act" : Str), ("values" : Str), ("focus" : Str), ("queue" : Str)]) (ps := [("program" : Str), ("state" : Str), ("act" : Str)]) (k := 5) hF sc_step 3 6 rfl rfl fun A outer s H E hr => by
    apply Exists.intro
    unfold m_step
    exact (dss_cons (ds_asg (de_var (pv 1)) (dg_tup3 (pg_tup rfl (pgs_cons (pg_name sc_step.nd rfl (by first | exact Or.inl rfl | exact Or.inr rfl)) (pgs_cons (pg_name sc_step.nd rfl (by first | exact Or.inl rfl | exact Or.inr rfl)) (pgs_cons (pg_name sc_step.nd rfl (by first | exact Or.inl rfl | exact Or.inr rfl)) pgs_nil))))))
      (dss_cons (ds_if (dt_cmp (op_eqD (hu64 hr)) opd_eqD (de_ix (de_var (pv 2)) de_int (fun _ _ => rfl)) de_str (nomark _)) (dss_cons (ds_ret (de_tup (da_cons (de_tup (da_cons (de_var (pv 3)) (da_cons (de_var (pv 4)) (da_cons (de_sl (de_var (pv 5)) (do_some de_int) do_none) da_nil)))) (da_cons (de_ix (de_var (pv 5)) de_int (fun _ _ => rfl)) da_nil))))
      dss_nil) dss_nil)
      (dss_cons (ds_if (dt_cmp (op_eqD (hu64 hr)) opd_eqD (de_ix (de_var (pv 2)) de_int (fun _ _ => rfl)) de_str (nomark _)) (dss_cons (ds_ret (de_tup (da_cons (de_own (own__moved F) (hr.mono (by decide)) rfl psE_of (da_cons (de_var (pv 0)) (da_cons (de_var (pv 1)) da_nil))) (da_cons (de_tup da_nil) da_nil))))
      dss_nil) dss_nil)
      (dss_cons (ds_ret (de_tup (da_cons (de_own (own__changed F) (hr.mono (by decide)) rfl psE_of (da_cons (de_var (pv 0)) (da_cons (de_var (pv 1)) (da_cons (de_own (own__changes_of F) (hr.mono (by decide)) rfl psE_of (da_cons (de_var (pv 0)) (da_cons (de_var (pv 4)) (da_cons (de_var (pv 2)) da_nil)))) da_nil)))) (da_cons (de_tup da_nil) da_nil))))
      dss_nil))))
theorem own_step (F : Fx P w K mg base) : Own P w K mg base (tabs K) 6 ("step" : Str) (F_step (He.ga K ("Program" : Str))) := by
  obtain ⟨fd, hF⟩ := F.f_step
  exact ⟨_, fd, _, ok_step F hF, F.g_step, hF.kp, hF.bindsN fun _ _ _ _ _ _ us hl => match us, hl with | [_, _, _], _ => rfl⟩
def m__states_behind (cP : Addr) : MS := (seqS (retS fun s => bnd (compD (fun s => bnd (bnd (bnd (sget s 0) fun x => bnd (bnd (sget s 1) fun x => bnd (pur []) fun r => pur (x :: r)) fun r => pur (x :: r)) (F_acts cP)) seqW) (tgN 2) (fun s => pur true) (fun s => bnd (bnd (bnd (sget s 0) fun x => bnd (bnd (sget s 1) fun x => bnd (bnd (sget s 2) fun x => bnd (pur []) fun r => pur (x :: r)) fun r => pur (x :: r)) fun r => pur (x :: r)) (F_step cP)) fun x => bnd (pur (.int 0)) fun y => ixD x y) [2] s) newL)
    skipS)
def F__states_behind (cP : Addr) : List D → M D := fnM 2 3 (m__states_behind cP)
theorem sc__states_behind : FnScope [("program" : Str), ("state" : Str), ("act" : Str)] [("program" : Str), ("state" : Str)] (defScope s__states_behind) := ⟨rfl, rfl, rfl, by decide +kernel, rfl, by decide +kernel, by decide +kernel⟩
theorem ok__states_behind (F : Fx P w K mg base) {fd : FuncData} (hF : FnP K ("_states_behind" : Str) s__states_behind (He.fAd K (("_states_behind" : Str), none)) fd) : FnOk P w K mg base (L2.CX P w) 7 (He.fAd K (("_states_behind" : Str), none)) fd [("program" : Str), ("state" : Str)] (spD ⟨K, tabs K, DL.fw w⟩ (F__states_behind (He.ga K ("Program" : Str)))) :=
  fn_D (N := [("program" : Str), ("state" : Str), ("act" : Str)]) (ps := [("program" : Str), ("state" : Str)]) (k := 6) hF sc__states_behind 2 3 rfl rfl fun A outer s H E hr => by
    apply Exists.intro
    unfold m__states_behind
    exact (dss_cons (ds_ret (de_lcB [(("act" : Str), 2)] rfl sc__states_behind.nd rfl rfl (di_seq (de_own (own_acts F) (hr.mono (by decide)) rfl psE_of (da_cons (de_var (pv 0)) (da_cons (de_var (pv 1)) da_nil)))) (fun s H C cl fp => by exact (dg_name (pg_name sc__states_behind.nd rfl (by first | exact Or.inl rfl | exact Or.inr rfl)))) (fun s H C cl fp => by exact dts_nil) (fun s H C cl fp => by exact (de_ix (de_own (own_step F) (hr.mono (by decide)) rfl psE0 (da_cons (de_var (pv 0)) (da_cons (de_var (pv 1)) (da_cons (de_var (pv 2)) da_nil)))) de_int (fun _ _ => rfl)))))
      dss_nil)
theorem own__states_behind (F : Fx P w K mg base) : Own P w K mg base (tabs K) 7 ("_states_behind" : Str) (F__states_behind (He.ga K ("Program" : Str))) := by
  obtain ⟨fd, hF⟩ := F.f__states_behind
  exact ⟨_, fd, _, ok__states_behind F hF, F.g__states_behind, hF.kp, hF.bindsN fun _ _ _ _ _ _ us hl => match us, hl with | [_, _], _ => rfl⟩
def m_start (cP : Addr) : MS := (seqS (retS fun s => bnd (bnd (bnd (bnd (bnd (pur (.int 0)) fun x => bnd (pur []) fun r => pur (x :: r)) mkT) fun x => bnd (bnd (bnd (bnd (sget s 0) (fldD cP ("sizes" : Str))) fun x => bnd (pur []) fun r => pur (x :: r)) lenD) fun y => mulA x y) fun x => bnd (bnd (pur (.int 0)) fun x => bnd (bnd (bnd (pur []) mkT) fun x => bnd (pur []) fun r => pur (x :: r)) fun r => pur (x :: r)) fun r => pur (x :: r)) mkT)
    skipS)
def F_start (cP : Addr) : List D → M D := fnM 1 1 (m_start cP)
theorem sc_start : FnScope [("program" : Str)] [("program" : Str)] (defScope s_start) := ⟨rfl, rfl, rfl, by decide +kernel, rfl, by decide +kernel, by decide +kernel⟩
theorem ok_start (F : Fx P w K mg base) {fd : FuncData} (hF : FnP K ("start" : Str) s_start (He.fAd K (("start" : Str), none)) fd) : FnOk P w K mg base (L2.CX P w) 1 (He.fAd K (("start" : Str), none)) fd [("program" : Str)] (spD ⟨K, tabs K, DL.fw w⟩ (F_start (He.ga K ("Program" : Str)))) :=
  fn_D (N := [("program" : Str)]) (ps := [("program" : Str)]) (k := 0) hF sc_start 1 1 rfl rfl fun A outer s H E hr => by
    apply Exists.intro
    unfold m_start
    exact (dss_cons (ds_ret (de_tup (da_cons (de_op op_mulA opd_mulA (de_tup (da_cons de_int da_nil)) (de_callB call_len_seq calld_len rfl F.g_len boot_len (da_cons (de_fld F.cls F.no_sizes (de_var (pv 0))) da_nil))) (da_cons de_int (da_cons (de_tup da_nil) da_nil)))))
      dss_nil)
theorem own_start (F : Fx P w K mg base) : Own P w K mg base (tabs K) 1 ("start" : Str) (F_start (He.ga K ("Program" : Str))) := by
  obtain ⟨fd, hF⟩ := F.f_start
  exact ⟨_, fd, _, ok_start F hF, F.g_start, hF.kp, hF.bindsN fun _ _ _ _ _ _ us hl => match us, hl with | [_], _ => rfl⟩
def m_reached (cP : Addr) : MS := (seqS (asgS (fun s => bnd (bnd (bnd (bnd (sget s 0) fun x => bnd (pur []) fun r => pur (x :: r)) (F_start cP)) fun x => bnd (pur []) fun r => pur (x :: r)) mkL) (tgN 2))
    (seqS (asgS (fun s => bnd (pur []) newSetD) (tgN 3))
    (seqS (dropS fun s => bnd (sget s 3) fun x => bnd (setM x) fun x => bnd (bnd (bnd (sget s 2) fun x => bnd (pur (.int 0)) fun y => ixD x y) fun x => bnd (pur []) fun r => pur (x :: r)) (addSetD x))
    (seqS (asgS (fun s => pur (.int 0)) (tgN 4))
    (seqS (whileS (fun s => bnd (bnd (sget s 4) fun x => bnd (bnd (bnd (sget s 2) fun x => bnd (pur []) fun r => pur (x :: r)) lenD) fun y => ltI x y) asB) (seqS (asgS (fun s => bnd (bnd (sget s 0) fun x => bnd (bnd (bnd (sget s 2) fun x => bnd (sget s 4) fun y => ixD x y) fun x => bnd (pur []) fun r => pur (x :: r)) fun r => pur (x :: r)) (F__states_behind cP)) (tgN 5))
    (seqS (forS (fun s => bnd (sget s 5) seqW) (tgN 6) (seqS (ifS (fun s => bnd (bnd (sget s 6) fun x => bnd (sget s 3) fun y => (inSetD true) x y) asB) (seqS (ifS (fun s => bnd (bnd (bnd (bnd (sget s 2) fun x => bnd (pur []) fun r => pur (x :: r)) lenD) fun x => bnd (sget s 1) fun y => geI x y) asB) (seqS (retS fun s => pur .non)
    skipS) skipS)
    (seqS (dropS fun s => bnd (sget s 3) fun x => bnd (setM x) fun x => bnd (bnd (sget s 6) fun x => bnd (pur []) fun r => pur (x :: r)) (addSetD x))
    (seqS (dropS fun s => bnd (sget s 2) fun x => bnd (tyM "list" x) fun x => bnd (bnd (sget s 6) fun x => bnd (pur []) fun r => pur (x :: r)) (appendD x))
    skipS))) skipS)
    skipS))
    (seqS (augI (fun i j => i + j) 4 (fun s => pur (.int 1)))
    skipS))))
    (seqS (retS fun s => sget s 2)
    skipS))))))
def F_reached (cP : Addr) : List D → M D := fnM 2 7 (m_reached cP)
theorem sc_reached : FnScope [("program" : Str), ("limit" : Str), ("met" : Str), ("seen" : Str), ("taken" : Str), ("rows" : Str), ("state" : Str)] [("program" : Str), ("limit" : Str)] (defScope s_reached) := ⟨rfl, rfl, rfl, by decide +kernel, rfl, by decide +kernel, by decide +kernel⟩
theorem ok_reached (F : Fx P w K mg base) {fd : FuncData} (hF : FnP K ("reached" : Str) s_reached (He.fAd K (("reached" : Str), none)) fd) : FnOk P w K mg base (L2.CX P w) 8 (He.fAd K (("reached" : Str), none)) fd [("program" : Str), ("limit" : Str)] (spD ⟨K, tabs K, DL.fw w⟩ (F_reached (He.ga K ("Program" : Str)))) :=
  fn_D (N := [("program" : Str), ("limit" : Str), ("met" : Str), ("seen" : Str), ("taken" : Str), ("rows" : Str), ("state" : Str)]) (ps := [("program" : Str), ("limit" : Str)]) (k := 7) hF sc_reached 2 7 rfl rfl fun A outer s H E hr => by
    apply Exists.intro
    unfold m_reached
    exact (dss_cons (ds_set (i := 2) sc_reached.nd rfl (by first | exact Or.inl rfl | exact Or.inr rfl) (de_lst (da_cons (de_own (own_start F) (hr.mono (by decide)) rfl psE_of (da_cons (de_var (pv 0)) da_nil)) da_nil)))
      (dss_cons (ds_set (i := 3) sc_reached.nd rfl (by first | exact Or.inl rfl | exact Or.inr rfl) (de_newSet rfl F.g_set PyProof.Rows.boot_set))
      (dss_cons (ds_expr (de_addSet (hu64 hr) (de_var (pv 3)) (da_cons (de_ix (de_var (pv 2)) de_int (fun _ _ => rfl)) da_nil)))
      (dss_cons (ds_set (i := 4) sc_reached.nd rfl (by first | exact Or.inl rfl | exact Or.inr rfl) de_int)
      (dss_cons (ds_while pown_of (dt_cmp op_lt opd_ltI (de_var (pv 4)) (de_callB call_len_seq calld_len rfl F.g_len boot_len (da_cons (de_var (pv 2)) da_nil)) (nomark _)) (dss_cons (ds_set (i := 5) sc_reached.nd rfl (by first | exact Or.inl rfl | exact Or.inr rfl) (de_own (own__states_behind F) (hr.mono (by decide)) rfl psE_of (da_cons (de_var (pv 0)) (da_cons (de_ix (de_var (pv 2)) (de_var (pv 4)) (fun _ _ => rfl)) da_nil))))
      (dss_cons (ds_for pown_of rfl (di_seq (de_var (pv 5))) (dg_name (pg_name sc_reached.nd rfl (by first | exact Or.inl rfl | exact Or.inr rfl))) (dss_cons (ds_if (dt_cmp (DN.op_notN (hu64 hr)) opd_inSet (de_var (pv 6)) (de_var (pv 3)) (by with_unfolding_all rfl)) (dss_cons (ds_if (dt_cmp op_ge opd_geI (de_callB call_len_seq calld_len rfl F.g_len boot_len (da_cons (de_var (pv 2)) da_nil)) (de_var (pv 1)) (nomark _)) (dss_cons (ds_ret de_non)
      dss_nil) dss_nil)
      (dss_cons (ds_expr (de_addSet (hu64 hr) (de_var (pv 3)) (da_cons (de_var (pv 6)) da_nil)))
      (dss_cons (ds_expr (de_bm (T := "list") (.inl rfl) PySem.F.plainAttrs_list PySem.F.slot_list_append PySem.F.type_list_append mt_append mtd_append (de_var (pv 2)) (da_cons (de_var (pv 6)) da_nil)))
      dss_nil))) dss_nil)
      dss_nil))
      (dss_cons (ds_aug (f := (fun i j => i + j)) (i := 4) sc_reached.nd rfl (by first | exact Or.inl rfl | exact Or.inr rfl) de_int ip_add)
      dss_nil))))
      (dss_cons (ds_ret (de_var (pv 2)))
      dss_nil))))))
theorem own_reached (F : Fx P w K mg base) : Own P w K mg base (tabs K) 8 ("reached" : Str) (F_reached (He.ga K ("Program" : Str))) := by
  obtain ⟨fd, hF⟩ := F.f_reached
  exact ⟨_, fd, _, ok_reached F hF, F.g_reached, hF.kp, hF.bindsN fun _ _ _ _ _ _ us hl => match us, hl with | [_, _], _ => rfl⟩
def m__law_next (cP : Addr) : MS := (seqS (ifS (fun s => bnd (bnd (bnd (sget s 0) fun x => bnd (pur (.int 1)) fun y => ixD x y) fun x => bnd (sget s 1) fun y => ltI x y) asB) (seqS (ifS (fun s => bnd (bnd (bnd (bnd (bnd (sget s 0) fun x => bnd (pur (.int 0)) fun y => ixD x y) fun x => bnd (pur []) fun r => pur (x :: r)) lenD) fun x => bnd (pur (.int 0)) fun y => gtI x y) asB) (seqS (asgS (fun s => bnd (bnd (sget s 0) fun x => bnd (pur (.int 0)) fun y => ixD x y) fun x => bnd (tyM "list" x) fun x => bnd (bnd (pur (.int 0)) fun x => bnd (pur []) fun r => pur (x :: r)) (popAtD x)) (tgN 2))
    (seqS (asgS (fun s => bnd (bnd (bnd (sget s 2) fun x => bnd (pur (.int 0)) fun y => geI x y) asB) fun x => if x then bnd (pur (.int 2)) fun x => bnd (sget s 2) fun y => mulI x y else bnd (bnd (bnd (pur (.int 2)) negI) fun x => bnd (sget s 2) fun y => mulI x y) fun x => bnd (pur (.int 1)) fun y => subI x y) (subG (fun s => sget s 0) (fun s => pur (.int 1))))
    (seqS (asgS (fun s => bnd (bnd (bnd (bnd (bnd (bnd (sget s 0) fun x => bnd (pur (.int 2)) fun y => ixD x y) fun x => bnd (pur (.int 69621)) fun y => mulI x y) fun x => bnd (bnd (sget s 0) fun x => bnd (pur (.int 1)) fun y => ixD x y) fun y => addD x y) fun x => bnd (pur []) fun r => pur (x :: r)) intD) fun x => bnd (pur (.int 2147483647)) fun y => modI x y) (subG (fun s => sget s 0) (fun s => pur (.int 2))))
    skipS))) (seqS (asgS (fun s => bnd (bnd (bnd (bnd (bnd (bnd (sget s 0) fun x => bnd (pur (.int 2)) fun y => ixD x y) fun x => bnd (pur (.int 48271)) fun y => mulI x y) fun x => bnd (pur (.int 11)) fun y => addD x y) fun x => bnd (pur []) fun r => pur (x :: r)) intD) fun x => bnd (pur (.int 2147483647)) fun y => modI x y) (subG (fun s => sget s 0) (fun s => pur (.int 2))))
    (seqS (asgS (fun s => bnd (bnd (bnd (bnd (bnd (sget s 0) fun x => bnd (pur (.int 2)) fun y => ixD x y) fun x => bnd (bnd (sget s 0) fun x => bnd (pur (.int 2)) fun y => ixD x y) fun y => mulI x y) fun x => bnd (pur []) fun r => pur (x :: r)) intD) fun x => bnd (pur (.int 1000003)) fun y => modI x y) (subG (fun s => sget s 0) (fun s => pur (.int 1))))
    skipS)))
    skipS) skipS)
    (seqS (asgS (fun s => bnd (bnd (bnd (bnd (sget s 0) fun x => bnd (pur (.int 1)) fun y => ixD x y) fun x => bnd (pur []) fun r => pur (x :: r)) intD) fun x => bnd (sget s 1) fun y => modI x y) (tgN 3))
    (seqS (asgS (fun s => bnd (bnd (sget s 0) fun x => bnd (pur (.int 1)) fun y => ixD x y) fun x => bnd (sget s 1) fun y => divI x y) (subG (fun s => sget s 0) (fun s => pur (.int 1))))
    (seqS (retS fun s => sget s 3)
    skipS))))
def F__law_next (cP : Addr) : List D → M D := fnM 2 4 (m__law_next cP)
theorem sc__law_next : FnScope [("state" : Str), ("many" : Str), ("cell" : Str), ("drawn" : Str)] [("state" : Str), ("many" : Str)] (defScope s__law_next) := ⟨rfl, rfl, rfl, by decide +kernel, rfl, by decide +kernel, by decide +kernel⟩
theorem ok__law_next (F : Fx P w K mg base) {fd : FuncData} (hF : FnP K ("_law_next" : Str) s__law_next (He.fAd K (("_law_next" : Str), none)) fd) : FnOk P w K mg base (L2.CX P w) 1 (He.fAd K (("_law_next" : Str), none)) fd [("state" : Str), ("many" : Str)] (spD ⟨K, tabs K, DL.fw w⟩ (F__law_next (He.ga K ("Program" : Str)))) :=
  fn_D (N := [("state" : Str), ("many" : Str), ("cell" : Str), ("drawn" : Str)]) (ps := [("state" : Str), ("many" : Str)]) (k := 0) hF sc__law_next 2 4 rfl rfl fun A outer s H E hr => by
    apply Exists.intro
    unfold m__law_next
    exact (dss_cons (ds_if (dt_cmp op_lt opd_ltI (de_ix (de_var (pv 0)) de_int (fun _ _ => rfl)) (de_var (pv 1)) (nomark _)) (dss_cons (ds_if (dt_cmp op_gt opd_gtI (de_callB call_len_seq calld_len rfl F.g_len boot_len (da_cons (de_ix (de_var (pv 0)) de_int (fun _ _ => rfl)) da_nil)) de_int (nomark _)) (dss_cons (ds_set (i := 2) sc__law_next.nd rfl (by first | exact Or.inl rfl | exact Or.inr rfl) (de_bm (T := "list") (.inl rfl) PySem.F.plainAttrs_list PySem.F.slot_list_pop PySem.F.type_list_pop mt_popAt mtd_popAt (de_ix (de_var (pv 0)) de_int (fun _ _ => rfl)) (da_cons de_int da_nil)))
      (dss_cons (ds_asg (de_if (dt_cmp op_ge opd_geI (de_var (pv 2)) de_int (nomark _)) (de_op op_mul opd_mulI de_int (de_var (pv 2))) (de_op op_sub opd_subI (de_op op_mul opd_mulI (de_neg de_int) (de_var (pv 2))) de_int)) (dg_sub (de_var (pv 0)) de_int))
      (dss_cons (ds_asg (de_op op_mod opd_modI (de_callTy call_int1 calld_int rfl F.g_int PyProof.Rows.boot_int (da_cons (de_op op_addA opd_addD (de_op op_mul opd_mulI (de_ix (de_var (pv 0)) de_int (fun _ _ => rfl)) de_int) (de_ix (de_var (pv 0)) de_int (fun _ _ => rfl))) da_nil)) de_int) (dg_sub (de_var (pv 0)) de_int))
      dss_nil))) (dss_cons (ds_asg (de_op op_mod opd_modI (de_callTy call_int1 calld_int rfl F.g_int PyProof.Rows.boot_int (da_cons (de_op op_addA opd_addD (de_op op_mul opd_mulI (de_ix (de_var (pv 0)) de_int (fun _ _ => rfl)) de_int) de_int) da_nil)) de_int) (dg_sub (de_var (pv 0)) de_int))
      (dss_cons (ds_asg (de_op op_mod opd_modI (de_callTy call_int1 calld_int rfl F.g_int PyProof.Rows.boot_int (da_cons (de_op op_mul opd_mulI (de_ix (de_var (pv 0)) de_int (fun _ _ => rfl)) (de_ix (de_var (pv 0)) de_int (fun _ _ => rfl))) da_nil)) de_int) (dg_sub (de_var (pv 0)) de_int))
      dss_nil)))
      dss_nil) dss_nil)
      (dss_cons (ds_set (i := 3) sc__law_next.nd rfl (by first | exact Or.inl rfl | exact Or.inr rfl) (de_op op_mod opd_modI (de_callTy call_int1 calld_int rfl F.g_int PyProof.Rows.boot_int (da_cons (de_ix (de_var (pv 0)) de_int (fun _ _ => rfl)) da_nil)) (de_var (pv 1))))
      (dss_cons (ds_asg (de_op op_fdiv opd_divI (de_ix (de_var (pv 0)) de_int (fun _ _ => rfl)) (de_var (pv 1))) (dg_sub (de_var (pv 0)) de_int))
      (dss_cons (ds_ret (de_var (pv 3)))
      dss_nil))))
theorem own__law_next (F : Fx P w K mg base) : Own P w K mg base (tabs K) 1 ("_law_next" : Str) (F__law_next (He.ga K ("Program" : Str))) := by
  obtain ⟨fd, hF⟩ := F.f__law_next
  exact ⟨_, fd, _, ok__law_next F hF, F.g__law_next, hF.kp, hF.bindsN fun _ _ _ _ _ _ us hl => match us, hl with | [_, _], _ => rfl⟩
def m__law_acts (cP : Addr) : MS := (seqS (asgS (fun s => bnd (compD (fun s => bnd (bnd (bnd (bnd (bnd (sget s 0) fun x => bnd (pur (.str ("parts" : Str))) fun y => dgetD x y) fun x => bnd (pur []) fun r => pur (x :: r)) lenD) fun x => bnd (pur []) fun r => pur (x :: r)) fun ds => match ds with | [d] => rngW [d] | _ => fail) (tgN 3) (fun s => bnd (bnd (bnd (bnd (bnd (sget s 0) fun x => bnd (pur (.str ("parts" : Str))) fun y => dgetD x y) fun x => bnd (sget s 3) fun y => ixD x y) fun x => bnd (pur (.int 2)) fun y => ixD x y) fun x => bnd (pur .non) fun y => (isNoneD true) x y) asB) (fun s => bnd (bnd (pur (.str ("point" : Str))) fun x => bnd (bnd (sget s 3) fun x => bnd (pur []) fun r => pur (x :: r)) fun r => pur (x :: r)) mkT) [3] s) newL) (tgN 2))
    (seqS (dropS fun s => bnd (sget s 2) fun x => bnd (tyM "list" x) fun x => bnd (bnd (bnd (bnd (pur (.str ("next" : Str))) fun x => bnd (pur []) fun r => pur (x :: r)) mkT) fun x => bnd (pur []) fun r => pur (x :: r)) (appendD x))
    (seqS (ifS (fun s => bnd (bnd (bnd (bnd (bnd (sget s 0) fun x => bnd (pur (.str ("parts" : Str))) fun y => dgetD x y) fun x => bnd (bnd (sget s 1) fun x => bnd (pur (.int 1)) fun y => ixD x y) fun y => ixD x y) fun x => bnd (pur (.int 2)) fun y => ixD x y) fun x => bnd (pur .non) fun y => (isNoneD true) x y) asB) (seqS (dropS fun s => bnd (sget s 2) fun x => bnd (tyM "list" x) fun x => bnd (bnd (bnd (bnd (pur (.str ("press" : Str))) fun x => bnd (pur []) fun r => pur (x :: r)) mkT) fun x => bnd (pur []) fun r => pur (x :: r)) (appendD x))
    skipS) skipS)
    (seqS (forS (fun s => bnd (bnd (bnd (bnd (bnd (sget s 0) fun x => bnd (pur (.str ("ticks" : Str))) fun y => dgetD x y) fun x => bnd (pur []) fun r => pur (x :: r)) lenD) fun x => bnd (pur []) fun r => pur (x :: r)) fun ds => match ds with | [d] => rngW [d] | _ => fail) (tgN 3) (seqS (dropS fun s => bnd (sget s 2) fun x => bnd (tyM "list" x) fun x => bnd (bnd (bnd (bnd (pur (.str ("tick" : Str))) fun x => bnd (bnd (sget s 3) fun x => bnd (pur []) fun r => pur (x :: r)) fun r => pur (x :: r)) mkT) fun x => bnd (pur []) fun r => pur (x :: r)) (appendD x))
    skipS))
    (seqS (ifS (fun s => bnd (bnd (bnd (bnd (bnd (sget s 1) fun x => bnd (pur (.int 2)) fun y => ixD x y) fun x => bnd (pur []) fun r => pur (x :: r)) lenD) fun x => bnd (pur (.int 0)) fun y => gtI x y) asB) (seqS (dropS fun s => bnd (sget s 2) fun x => bnd (tyM "list" x) fun x => bnd (bnd (bnd (bnd (pur (.str ("speak" : Str))) fun x => bnd (pur []) fun r => pur (x :: r)) mkT) fun x => bnd (pur []) fun r => pur (x :: r)) (appendD x))
    skipS) skipS)
    (seqS (retS fun s => sget s 2)
    skipS))))))
def F__law_acts (cP : Addr) : List D → M D := fnM 2 4 (m__law_acts cP)
theorem sc__law_acts : FnScope [("data" : Str), ("world" : Str), ("found" : Str), ("k" : Str)] [("data" : Str), ("world" : Str)] (defScope s__law_acts) := ⟨rfl, rfl, rfl, by decide +kernel, rfl, by decide +kernel, by decide +kernel⟩
theorem ok__law_acts (F : Fx P w K mg base) {fd : FuncData} (hF : FnP K ("_law_acts" : Str) s__law_acts (He.fAd K (("_law_acts" : Str), none)) fd) : FnOk P w K mg base (L2.CX P w) 1 (He.fAd K (("_law_acts" : Str), none)) fd [("data" : Str), ("world" : Str)] (spD ⟨K, tabs K, DL.fw w⟩ (F__law_acts (He.ga K ("Program" : Str)))) :=
  fn_D (N := [("data" : Str), ("world" : Str), ("found" : Str), ("k" : Str)]) (ps := [("data" : Str), ("world" : Str)]) (k := 0) hF sc__law_acts 2 4 rfl rfl fun A outer s H E hr => by
    apply Exists.intro
    unfold m__law_acts
    exact (dss_cons (ds_setLc rfl sc__law_acts.nd rfl rfl rfl [(("k" : Str), 3)] rfl rfl (di_range1 rfl F.g_range (da_cons (de_callB call_len_seq calld_len rfl F.g_len boot_len (da_cons (de_dget (hu1 hr) (de_var (pv 0)) de_str) da_nil)) da_nil)) (fun s H C cl fp => by exact (dg_name (pg_name sc__law_acts.nd rfl (by first | exact Or.inl rfl | exact Or.inr rfl)))) (fun s H C cl fp => by exact (dts_one (dt_cmp op_notN opd_notN (de_ix (de_ix (de_dget (hu1 hr) (de_var (pv 0)) de_str) (de_var (pv 3)) (fun _ _ => rfl)) de_int (fun _ _ => rfl)) de_non (nomark _)))) (fun s H C cl fp => by exact (de_tup (da_cons de_str (da_cons (de_var (pv 3)) da_nil)))))
      (dss_cons (ds_expr (de_bm (T := "list") (.inl rfl) PySem.F.plainAttrs_list PySem.F.slot_list_append PySem.F.type_list_append mt_append mtd_append (de_var (pv 2)) (da_cons (de_tup (da_cons de_str da_nil)) da_nil)))
      (dss_cons (ds_if (dt_cmp op_notN opd_notN (de_ix (de_ix (de_dget (hu1 hr) (de_var (pv 0)) de_str) (de_ix (de_var (pv 1)) de_int (fun _ _ => rfl)) (fun _ _ => rfl)) de_int (fun _ _ => rfl)) de_non (nomark _)) (dss_cons (ds_expr (de_bm (T := "list") (.inl rfl) PySem.F.plainAttrs_list PySem.F.slot_list_append PySem.F.type_list_append mt_append mtd_append (de_var (pv 2)) (da_cons (de_tup (da_cons de_str da_nil)) da_nil)))
      dss_nil) dss_nil)
      (dss_cons (ds_for pown_of rfl (di_range1 rfl F.g_range (da_cons (de_callB call_len_seq calld_len rfl F.g_len boot_len (da_cons (de_dget (hu1 hr) (de_var (pv 0)) de_str) da_nil)) da_nil)) (dg_name (pg_name sc__law_acts.nd rfl (by first | exact Or.inl rfl | exact Or.inr rfl))) (dss_cons (ds_expr (de_bm (T := "list") (.inl rfl) PySem.F.plainAttrs_list PySem.F.slot_list_append PySem.F.type_list_append mt_append mtd_append (de_var (pv 2)) (da_cons (de_tup (da_cons de_str (da_cons (de_var (pv 3)) da_nil))) da_nil)))
      dss_nil))
      (dss_cons (ds_if (dt_cmp op_gt opd_gtI (de_callB call_len_seq calld_len rfl F.g_len boot_len (da_cons (de_ix (de_var (pv 1)) de_int (fun _ _ => rfl)) da_nil)) de_int (nomark _)) (dss_cons (ds_expr (de_bm (T := "list") (.inl rfl) PySem.F.plainAttrs_list PySem.F.slot_list_append PySem.F.type_list_append mt_append mtd_append (de_var (pv 2)) (da_cons (de_tup (da_cons de_str da_nil)) da_nil)))
      dss_nil) dss_nil)
      (dss_cons (ds_ret (de_var (pv 2)))
      dss_nil))))))
theorem own__law_acts (F : Fx P w K mg base) : Own P w K mg base (tabs K) 1 ("_law_acts" : Str) (F__law_acts (He.ga K ("Program" : Str))) := by
  obtain ⟨fd, hF⟩ := F.f__law_acts
  exact ⟨_, fd, _, ok__law_acts F hF, F.g__law_acts, hF.kp, hF.bindsN fun _ _ _ _ _ _ us hl => match us, hl with | [_, _], _ => rfl⟩
def m__law_word (cP : Addr) : MS := (seqS (asgS (fun s => bnd (bnd (bnd (sget s 0) fun x => bnd (pur (.str ("parts" : Str))) fun y => dgetD x y) fun x => bnd (sget s 2) fun y => ixD x y) fun x => bnd (pur (.int 1)) fun y => ixD x y) (tgT2 3 4))
    (seqS (retS fun s => bnd (sget s 4) fun x => bnd (bnd (sget s 1) fun x => bnd (sget s 3) fun y => ixD x y) fun y => ixD x y)
    skipS))
def F__law_word (cP : Addr) : List D → M D := fnM 3 5 (m__law_word cP)
theorem sc__law_word : FnScope [("data" : Str), ("values" : Str), ("part" : Str), ("variable" : Str), ("table" : Str)] [("data" : Str), ("values" : Str), ("part" : Str)] (defScope s__law_word) := ⟨rfl, rfl, rfl, by decide +kernel, rfl, by decide +kernel, by decide +kernel⟩
theorem ok__law_word (F : Fx P w K mg base) {fd : FuncData} (hF : FnP K ("_law_word" : Str) s__law_word (He.fAd K (("_law_word" : Str), none)) fd) : FnOk P w K mg base (L2.CX P w) 1 (He.fAd K (("_law_word" : Str), none)) fd [("data" : Str), ("values" : Str), ("part" : Str)] (spD ⟨K, tabs K, DL.fw w⟩ (F__law_word (He.ga K ("Program" : Str)))) :=
  fn_D (N := [("data" : Str), ("values" : Str), ("part" : Str), ("variable" : Str), ("table" : Str)]) (ps := [("data" : Str), ("values" : Str), ("part" : Str)]) (k := 0) hF sc__law_word 3 5 rfl rfl fun A outer s H E hr => by
    apply Exists.intro
    unfold m__law_word
    exact (dss_cons (ds_asg (de_ix (de_ix (de_dget (hu1 hr) (de_var (pv 0)) de_str) (de_var (pv 2)) (fun _ _ => rfl)) de_int (fun _ _ => rfl)) (dg_tup2 (pg_tup rfl (pgs_cons (pg_name sc__law_word.nd rfl (by first | exact Or.inl rfl | exact Or.inr rfl)) (pgs_cons (pg_name sc__law_word.nd rfl (by first | exact Or.inl rfl | exact Or.inr rfl)) pgs_nil)))))
      (dss_cons (ds_ret (de_ix (de_var (pv 4)) (de_ix (de_var (pv 1)) (de_var (pv 3)) (fun _ _ => rfl)) (fun _ _ => rfl)))
      dss_nil))
theorem own__law_word (F : Fx P w K mg base) : Own P w K mg base (tabs K) 1 ("_law_word" : Str) (F__law_word (He.ga K ("Program" : Str))) := by
  obtain ⟨fd, hF⟩ := F.f__law_word
  exact ⟨_, fd, _, ok__law_word F hF, F.g__law_word, hF.kp, hF.bindsN fun _ _ _ _ _ _ us hl => match us, hl with | [_, _, _], _ => rfl⟩
def m__law_put (cP : Addr) : MS := (seqS (asgS (fun s => bnd (bnd (sget s 0) fun x => bnd (pur []) fun r => pur (x :: r)) listD) (tgN 2))
    (seqS (forS (fun s => bnd (bnd (bnd (bnd (sget s 2) fun x => bnd (pur []) fun r => pur (x :: r)) lenD) fun x => bnd (pur []) fun r => pur (x :: r)) fun ds => match ds with | [d] => rngW [d] | _ => fail) (tgN 3) (seqS (ifS (fun s => bnd (bnd (bnd (bnd (sget s 2) fun x => bnd (sget s 3) fun y => ixD x y) fun x => bnd (pur (.int 0)) fun y => ixD x y) fun x => bnd (bnd (sget s 1) fun x => bnd (pur (.int 0)) fun y => ixD x y) fun y => eqD x y) asB) (seqS (asgS (fun s => sget s 1) (subG (fun s => sget s 2) (fun s => sget s 3)))
    (seqS (retS fun s => bnd (bnd (sget s 2) fun x => bnd (pur []) fun r => pur (x :: r)) tupleD)
    skipS)) skipS)
    skipS))
    (seqS (retS fun s => bnd (bnd (bnd (sget s 2) fun x => bnd (bnd (bnd (sget s 1) fun x => bnd (pur []) fun r => pur (x :: r)) mkL) fun y => addD x y) fun x => bnd (pur []) fun r => pur (x :: r)) tupleD)
    skipS)))
def F__law_put (cP : Addr) : List D → M D := fnM 2 4 (m__law_put cP)
theorem sc__law_put : FnScope [("queue" : Str), ("message" : Str), ("found" : Str), ("k" : Str)] [("queue" : Str), ("message" : Str)] (defScope s__law_put) := ⟨rfl, rfl, rfl, by decide +kernel, rfl, by decide +kernel, by decide +kernel⟩
theorem ok__law_put (F : Fx P w K mg base) {fd : FuncData} (hF : FnP K ("_law_put" : Str) s__law_put (He.fAd K (("_law_put" : Str), none)) fd) : FnOk P w K mg base (L2.CX P w) 1 (He.fAd K (("_law_put" : Str), none)) fd [("queue" : Str), ("message" : Str)] (spD ⟨K, tabs K, DL.fw w⟩ (F__law_put (He.ga K ("Program" : Str)))) :=
  fn_D (N := [("queue" : Str), ("message" : Str), ("found" : Str), ("k" : Str)]) (ps := [("queue" : Str), ("message" : Str)]) (k := 0) hF sc__law_put 2 4 rfl rfl fun A outer s H E hr => by
    apply Exists.intro
    unfold m__law_put
    exact (dss_cons (ds_set (i := 2) sc__law_put.nd rfl (by first | exact Or.inl rfl | exact Or.inr rfl) (de_callTy call_list_of calld_list rfl F.g_list PyProof.Rows.boot_list (da_cons (de_var (pv 0)) da_nil)))
      (dss_cons (ds_for pown_of rfl (di_range1 rfl F.g_range (da_cons (de_callB call_len_seq calld_len rfl F.g_len boot_len (da_cons (de_var (pv 2)) da_nil)) da_nil)) (dg_name (pg_name sc__law_put.nd rfl (by first | exact Or.inl rfl | exact Or.inr rfl))) (dss_cons (ds_if (dt_cmp (op_eqD (hu64 hr)) opd_eqD (de_ix (de_ix (de_var (pv 2)) (de_var (pv 3)) (fun _ _ => rfl)) de_int (fun _ _ => rfl)) (de_ix (de_var (pv 1)) de_int (fun _ _ => rfl)) (nomark _)) (dss_cons (ds_asg (de_var (pv 1)) (dg_sub (de_var (pv 2)) (de_var (pv 3))))
      (dss_cons (ds_ret (de_callTy call_tuple_of calld_tuple rfl F.g_tuple PyProof.Rows.boot_tuple (da_cons (de_var (pv 2)) da_nil)))
      dss_nil)) dss_nil)
      dss_nil))
      (dss_cons (ds_ret (de_callTy call_tuple_of calld_tuple rfl F.g_tuple PyProof.Rows.boot_tuple (da_cons (de_op op_addA opd_addD (de_var (pv 2)) (de_lst (da_cons (de_var (pv 1)) da_nil))) da_nil)))
      dss_nil)))
theorem own__law_put (F : Fx P w K mg base) : Own P w K mg base (tabs K) 1 ("_law_put" : Str) (F__law_put (He.ga K ("Program" : Str))) := by
  obtain ⟨fd, hF⟩ := F.f__law_put
  exact ⟨_, fd, _, ok__law_put F hF, F.g__law_put, hF.kp, hF.bindsN fun _ _ _ _ _ _ us hl => match us, hl with | [_, _], _ => rfl⟩
def m__law_added (cP : Addr) : MS := (seqS (asgS (fun s => bnd (bnd (sget s 1) fun x => bnd (pur []) fun r => pur (x :: r)) listD) (tgN 3))
    (seqS (forS (fun s => bnd (sget s 2) seqW) (tgT2 4 5) (seqS (asgS (fun s => bnd (bnd (bnd (bnd (bnd (sget s 3) fun x => bnd (sget s 4) fun y => ixD x y) fun x => bnd (sget s 5) fun y => addD x y) fun x => bnd (pur []) fun r => pur (x :: r)) intD) fun x => bnd (bnd (bnd (sget s 0) fun x => bnd (pur (.str ("sizes" : Str))) fun y => dgetD x y) fun x => bnd (sget s 4) fun y => ixD x y) fun y => modI x y) (subG (fun s => sget s 3) (fun s => sget s 4)))
    skipS))
    (seqS (retS fun s => bnd (bnd (sget s 3) fun x => bnd (pur []) fun r => pur (x :: r)) tupleD)
    skipS)))
def F__law_added (cP : Addr) : List D → M D := fnM 3 6 (m__law_added cP)
theorem sc__law_added : FnScope [("data" : Str), ("values" : Str), ("changes" : Str), ("found" : Str), ("variable" : Str), ("add" : Str)] [("data" : Str), ("values" : Str), ("changes" : Str)] (defScope s__law_added) := ⟨rfl, rfl, rfl, by decide +kernel, rfl, by decide +kernel, by decide +kernel⟩
theorem ok__law_added (F : Fx P w K mg base) {fd : FuncData} (hF : FnP K ("_law_added" : Str) s__law_added (He.fAd K (("_law_added" : Str), none)) fd) : FnOk P w K mg base (L2.CX P w) 1 (He.fAd K (("_law_added" : Str), none)) fd [("data" : Str), ("values" : Str), ("changes" : Str)] (spD ⟨K, tabs K, DL.fw w⟩ (F__law_added (He.ga K ("Program" : Str)))) :=
  fn_D (N := [("data" : Str), ("values" : Str), ("changes" : Str), ("found" : Str), ("variable" : Str), ("add" : Str)]) (ps := [("data" : Str), ("values" : Str), ("changes" : Str)]) (k := 0) hF sc__law_added 3 6 rfl rfl fun A outer s H E hr => by
    apply Exists.intro
    unfold m__law_added
    exact (dss_cons (ds_set (i := 3) sc__law_added.nd rfl (by first | exact Or.inl rfl | exact Or.inr rfl) (de_callTy call_list_of calld_list rfl F.g_list PyProof.Rows.boot_list (da_cons (de_var (pv 1)) da_nil)))
      (dss_cons (ds_for pown_of rfl (di_seq (de_var (pv 2))) (dg_tup2 (pg_tup rfl (pgs_cons (pg_name sc__law_added.nd rfl (by first | exact Or.inl rfl | exact Or.inr rfl)) (pgs_cons (pg_name sc__law_added.nd rfl (by first | exact Or.inl rfl | exact Or.inr rfl)) pgs_nil)))) (dss_cons (ds_asg (de_op op_mod opd_modI (de_callTy call_int1 calld_int rfl F.g_int PyProof.Rows.boot_int (da_cons (de_op op_addA opd_addD (de_ix (de_var (pv 3)) (de_var (pv 4)) (fun _ _ => rfl)) (de_var (pv 5))) da_nil)) (de_ix (de_dget (hu1 hr) (de_var (pv 0)) de_str) (de_var (pv 4)) (fun _ _ => rfl))) (dg_sub (de_var (pv 3)) (de_var (pv 4))))
      dss_nil))
      (dss_cons (ds_ret (de_callTy call_tuple_of calld_tuple rfl F.g_tuple PyProof.Rows.boot_tuple (da_cons (de_var (pv 3)) da_nil)))
      dss_nil)))
theorem own__law_added (F : Fx P w K mg base) : Own P w K mg base (tabs K) 1 ("_law_added" : Str) (F__law_added (He.ga K ("Program" : Str))) := by
  obtain ⟨fd, hF⟩ := F.f__law_added
  exact ⟨_, fd, _, ok__law_added F hF, F.g__law_added, hF.kp, hF.bindsN fun _ _ _ _ _ _ us hl => match us, hl with | [_, _, _], _ => rfl⟩
def m__law_turn (cP : Addr) : MS := (seqS (asgS (fun s => bnd (compD (fun s => bnd (bnd (bnd (bnd (bnd (sget s 0) fun x => bnd (pur (.str ("parts" : Str))) fun y => dgetD x y) fun x => bnd (pur []) fun r => pur (x :: r)) lenD) fun x => bnd (pur []) fun r => pur (x :: r)) fun ds => match ds with | [d] => rngW [d] | _ => fail) (tgN 4) (fun s => bnd (bnd (sget s 4) fun x => bnd (bnd (sget s 0) fun x => bnd (pur (.str ("skips" : Str))) fun y => dgetD x y) fun y => (inD true) x y) asB) (fun s => sget s 4) [4] s) newL) (tgN 2))
    (seqS (asgS (fun s => bnd (compD (fun s => bnd (sget s 2) seqW) (tgN 4) (fun s => bnd (bnd (sget s 4) fun x => bnd (sget s 1) fun y => gtI x y) asB) (fun s => sget s 4) [4] s) newL) (tgN 3))
    (seqS (retS fun s => bnd (bnd (bnd (sget s 3) fun x => bnd (sget s 2) fun y => addD x y) fun x => bnd (bnd (bnd (sget s 1) fun x => bnd (pur []) fun r => pur (x :: r)) mkL) fun y => addD x y) fun x => bnd (pur (.int 0)) fun y => ixD x y)
    skipS)))
def F__law_turn (cP : Addr) : List D → M D := fnM 2 5 (m__law_turn cP)
theorem sc__law_turn : FnScope [("data" : Str), ("focus" : Str), ("kept" : Str), ("later" : Str), ("k" : Str)] [("data" : Str), ("focus" : Str)] (defScope s__law_turn) := ⟨rfl, rfl, rfl, by decide +kernel, rfl, by decide +kernel, by decide +kernel⟩
theorem ok__law_turn (F : Fx P w K mg base) {fd : FuncData} (hF : FnP K ("_law_turn" : Str) s__law_turn (He.fAd K (("_law_turn" : Str), none)) fd) : FnOk P w K mg base (L2.CX P w) 1 (He.fAd K (("_law_turn" : Str), none)) fd [("data" : Str), ("focus" : Str)] (spD ⟨K, tabs K, DL.fw w⟩ (F__law_turn (He.ga K ("Program" : Str)))) :=
  fn_D (N := [("data" : Str), ("focus" : Str), ("kept" : Str), ("later" : Str), ("k" : Str)]) (ps := [("data" : Str), ("focus" : Str)]) (k := 0) hF sc__law_turn 2 5 rfl rfl fun A outer s H E hr => by
    apply Exists.intro
    unfold m__law_turn
    exact (dss_cons (ds_setLc rfl sc__law_turn.nd rfl rfl rfl [(("k" : Str), 4)] rfl rfl (di_range1 rfl F.g_range (da_cons (de_callB call_len_seq calld_len rfl F.g_len boot_len (da_cons (de_dget (hu1 hr) (de_var (pv 0)) de_str) da_nil)) da_nil)) (fun s H C cl fp => by exact (dg_name (pg_name sc__law_turn.nd rfl (by first | exact Or.inl rfl | exact Or.inr rfl)))) (fun s H C cl fp => by exact (dts_one (dt_cmp (op_notInA (hu65 hr)) opd_inD (de_var (pv 4)) (de_dget (hu1 hr) (de_var (pv 0)) de_str) (by with_unfolding_all rfl)))) (fun s H C cl fp => by exact (de_var (pv 4))))
      (dss_cons (ds_setLc rfl sc__law_turn.nd rfl rfl rfl [(("k" : Str), 4)] rfl rfl (di_seq (de_var (pv 2))) (fun s H C cl fp => by exact (dg_name (pg_name sc__law_turn.nd rfl (by first | exact Or.inl rfl | exact Or.inr rfl)))) (fun s H C cl fp => by exact (dts_one (dt_cmp op_gt opd_gtI (de_var (pv 4)) (de_var (pv 1)) (nomark _)))) (fun s H C cl fp => by exact (de_var (pv 4))))
      (dss_cons (ds_ret (de_ix (de_op op_addA opd_addD (de_op op_addA opd_addD (de_var (pv 3)) (de_var (pv 2))) (de_lst (da_cons (de_var (pv 1)) da_nil))) de_int (fun _ _ => rfl)))
      dss_nil)))
theorem own__law_turn (F : Fx P w K mg base) : Own P w K mg base (tabs K) 1 ("_law_turn" : Str) (F__law_turn (He.ga K ("Program" : Str))) := by
  obtain ⟨fd, hF⟩ := F.f__law_turn
  exact ⟨_, fd, _, ok__law_turn F hF, F.g__law_turn, hF.kp, hF.bindsN fun _ _ _ _ _ _ us hl => match us, hl with | [_, _], _ => rfl⟩
def m__law_after (cP : Addr) : MS := (seqS (asgS (fun s => sget s 1) (tgT3 3 4 5))
    (seqS (ifS (fun s => bnd (bnd (bnd (sget s 2) fun x => bnd (pur (.int 0)) fun y => ixD x y) fun x => bnd (pur (.str ("speak" : Str))) fun y => eqD x y) asB) (seqS (retS fun s => bnd (bnd (bnd (bnd (sget s 3) fun x => bnd (bnd (sget s 4) fun x => bnd (bnd (bnd (sget s 5) fun x => bnd (bnd (pur (.int 1)) asI) fun l => bnd (pur none) fun u => slD x l u) fun x => bnd (pur []) fun r => pur (x :: r)) fun r => pur (x :: r)) fun r => pur (x :: r)) mkT) fun x => bnd (bnd (bnd (sget s 5) fun x => bnd (pur (.int 0)) fun y => ixD x y) fun x => bnd (pur []) fun r => pur (x :: r)) fun r => pur (x :: r)) mkT)
    skipS) skipS)
    (seqS (ifS (fun s => bnd (bnd (bnd (sget s 2) fun x => bnd (pur (.int 0)) fun y => ixD x y) fun x => bnd (pur (.str ("next" : Str))) fun y => eqD x y) asB) (seqS (asgS (fun s => bnd (bnd (sget s 0) fun x => bnd (bnd (sget s 4) fun x => bnd (pur []) fun r => pur (x :: r)) fun r => pur (x :: r)) (F__law_turn cP)) (tgN 4))
    (seqS (retS fun s => bnd (bnd (bnd (bnd (sget s 3) fun x => bnd (bnd (sget s 4) fun x => bnd (bnd (bnd (bnd (sget s 5) fun x => bnd (bnd (bnd (bnd (sget s 4) fun x => bnd (bnd (bnd (bnd (sget s 0) fun x => bnd (bnd (sget s 3) fun x => bnd (bnd (sget s 4) fun x => bnd (pur []) fun r => pur (x :: r)) fun r => pur (x :: r)) fun r => pur (x :: r)) (F__law_word cP)) fun x => bnd (pur []) fun r => pur (x :: r)) fun r => pur (x :: r)) mkT) fun x => bnd (pur []) fun r => pur (x :: r)) fun r => pur (x :: r)) (F__law_put cP)) fun x => bnd (pur []) fun r => pur (x :: r)) fun r => pur (x :: r)) fun r => pur (x :: r)) mkT) fun x => bnd (bnd (bnd (pur []) mkT) fun x => bnd (pur []) fun r => pur (x :: r)) fun r => pur (x :: r)) mkT)
    skipS)) skipS)
    (seqS (ifS (fun s => bnd (bnd (bnd (sget s 2) fun x => bnd (pur (.int 0)) fun y => ixD x y) fun x => bnd (pur (.str ("tick" : Str))) fun y => eqD x y) asB) (seqS (asgS (fun s => bnd (bnd (sget s 0) fun x => bnd (pur (.str ("ticks" : Str))) fun y => dgetD x y) fun x => bnd (bnd (sget s 2) fun x => bnd (pur (.int 1)) fun y => ixD x y) fun y => ixD x y) (tgN 6))
    skipS) (seqS (asgS (fun s => bnd (bnd (bnd (sget s 0) fun x => bnd (pur (.str ("parts" : Str))) fun y => dgetD x y) fun x => bnd (bnd (bnd (bnd (bnd (sget s 2) fun x => bnd (pur (.int 0)) fun y => ixD x y) fun x => bnd (pur (.str ("point" : Str))) fun y => eqD x y) asB) fun x => if x then bnd (sget s 2) fun x => bnd (pur (.int 1)) fun y => ixD x y else sget s 4) fun y => ixD x y) fun x => bnd (pur (.int 2)) fun y => ixD x y) (tgN 6))
    skipS))
    (seqS (asgS (fun s => bnd (bnd (sget s 0) fun x => bnd (bnd (sget s 3) fun x => bnd (bnd (sget s 6) fun x => bnd (pur []) fun r => pur (x :: r)) fun r => pur (x :: r)) fun r => pur (x :: r)) (F__law_added cP)) (tgN 7))
    (seqS (forS (fun s => bnd (bnd (sget s 0) fun x => bnd (pur (.str ("live" : Str))) fun y => dgetD x y) seqW) (tgN 8) (seqS (ifS (fun s => bnd (bnd (bnd (bnd (sget s 0) fun x => bnd (bnd (sget s 7) fun x => bnd (bnd (sget s 8) fun x => bnd (pur []) fun r => pur (x :: r)) fun r => pur (x :: r)) fun r => pur (x :: r)) (F__law_word cP)) fun x => bnd (bnd (bnd (sget s 0) fun x => bnd (bnd (sget s 3) fun x => bnd (bnd (sget s 8) fun x => bnd (pur []) fun r => pur (x :: r)) fun r => pur (x :: r)) fun r => pur (x :: r)) (F__law_word cP)) fun y => neD x y) asB) (seqS (asgS (fun s => bnd (bnd (sget s 5) fun x => bnd (bnd (bnd (bnd (sget s 8) fun x => bnd (bnd (bnd (bnd (sget s 0) fun x => bnd (bnd (sget s 7) fun x => bnd (bnd (sget s 8) fun x => bnd (pur []) fun r => pur (x :: r)) fun r => pur (x :: r)) fun r => pur (x :: r)) (F__law_word cP)) fun x => bnd (pur []) fun r => pur (x :: r)) fun r => pur (x :: r)) mkT) fun x => bnd (pur []) fun r => pur (x :: r)) fun r => pur (x :: r)) (F__law_put cP)) (tgN 5))
    skipS) skipS)
    skipS))
    (seqS (retS fun s => bnd (bnd (bnd (bnd (sget s 7) fun x => bnd (bnd (sget s 4) fun x => bnd (bnd (sget s 5) fun x => bnd (pur []) fun r => pur (x :: r)) fun r => pur (x :: r)) fun r => pur (x :: r)) mkT) fun x => bnd (bnd (bnd (pur []) mkT) fun x => bnd (pur []) fun r => pur (x :: r)) fun r => pur (x :: r)) mkT)
    skipS)))))))
def F__law_after (cP : Addr) : List D → M D := fnM 3 9 (m__law_after cP)
theorem sc__law_after : FnScope [("data" : Str), ("world" : Str), ("act" : Str), ("values" : Str), ("focus" : Str), ("queue" : Str), ("changes" : Str), ("later" : Str), ("part" : Str)] [("data" : Str), ("world" : Str), ("act" : Str)] (defScope s__law_after) := ⟨rfl, rfl, rfl, by decide +kernel, rfl, by decide +kernel, by decide +kernel⟩
theorem ok__law_after (F : Fx P w K mg base) {fd : FuncData} (hF : FnP K ("_law_after" : Str) s__law_after (He.fAd K (("_law_after" : Str), none)) fd) : FnOk P w K mg base (L2.CX P w) 2 (He.fAd K (("_law_after" : Str), none)) fd [("data" : Str), ("world" : Str), ("act" : Str)] (spD ⟨K, tabs K, DL.fw w⟩ (F__law_after (He.ga K ("Program" : Str)))) :=
  fn_D (N := [("data" : Str), ("world" : Str), ("act" : Str), ("values" : Str), ("focus" : Str), ("queue" : Str), ("changes" : Str), ("later" : Str), ("part" : Str)]) (ps := [("data" : Str), ("world" : Str), ("act" : Str)]) (k := 1) hF sc__law_after 3 9 rfl rfl fun A outer s H E hr => by
    apply Exists.intro
    unfold m__law_after
    exact (dss_cons (ds_asg (de_var (pv 1)) (dg_tup3 (pg_tup rfl (pgs_cons (pg_name sc__law_after.nd rfl (by first | exact Or.inl rfl | exact Or.inr rfl)) (pgs_cons (pg_name sc__law_after.nd rfl (by first | exact Or.inl rfl | exact Or.inr rfl)) (pgs_cons (pg_name sc__law_after.nd rfl (by first | exact Or.inl rfl | exact Or.inr rfl)) pgs_nil))))))
      (dss_cons (ds_if (dt_cmp (op_eqD (hu64 hr)) opd_eqD (de_ix (de_var (pv 2)) de_int (fun _ _ => rfl)) de_str (nomark _)) (dss_cons (ds_ret (de_tup (da_cons (de_tup (da_cons (de_var (pv 3)) (da_cons (de_var (pv 4)) (da_cons (de_sl (de_var (pv 5)) (do_some de_int) do_none) da_nil)))) (da_cons (de_ix (de_var (pv 5)) de_int (fun _ _ => rfl)) da_nil))))
      dss_nil) dss_nil)
      (dss_cons (ds_if (dt_cmp (op_eqD (hu64 hr)) opd_eqD (de_ix (de_var (pv 2)) de_int (fun _ _ => rfl)) de_str (nomark _)) (dss_cons (ds_set (i := 4) sc__law_after.nd rfl (by first | exact Or.inl rfl | exact Or.inr rfl) (de_own (own__law_turn F) (hr.mono (by decide)) rfl psE_of (da_cons (de_var (pv 0)) (da_cons (de_var (pv 4)) da_nil))))
      (dss_cons (ds_ret (de_tup (da_cons (de_tup (da_cons (de_var (pv 3)) (da_cons (de_var (pv 4)) (da_cons (de_own (own__law_put F) (hr.mono (by decide)) rfl psE_of (da_cons (de_var (pv 5)) (da_cons (de_tup (da_cons (de_var (pv 4)) (da_cons (de_own (own__law_word F) (hr.mono (by decide)) rfl psE_of (da_cons (de_var (pv 0)) (da_cons (de_var (pv 3)) (da_cons (de_var (pv 4)) da_nil)))) da_nil))) da_nil))) da_nil)))) (da_cons (de_tup da_nil) da_nil))))
      dss_nil)) dss_nil)
      (dss_cons (ds_if (dt_cmp (op_eqD (hu64 hr)) opd_eqD (de_ix (de_var (pv 2)) de_int (fun _ _ => rfl)) de_str (nomark _)) (dss_cons (ds_set (i := 6) sc__law_after.nd rfl (by first | exact Or.inl rfl | exact Or.inr rfl) (de_ix (de_dget (hu1 hr) (de_var (pv 0)) de_str) (de_ix (de_var (pv 2)) de_int (fun _ _ => rfl)) (fun _ _ => rfl)))
      dss_nil) (dss_cons (ds_set (i := 6) sc__law_after.nd rfl (by first | exact Or.inl rfl | exact Or.inr rfl) (de_ix (de_ix (de_dget (hu1 hr) (de_var (pv 0)) de_str) (de_if (dt_cmp (op_eqD (hu64 hr)) opd_eqD (de_ix (de_var (pv 2)) de_int (fun _ _ => rfl)) de_str (nomark _)) (de_ix (de_var (pv 2)) de_int (fun _ _ => rfl)) (de_var (pv 4))) (fun _ _ => rfl)) de_int (fun _ _ => rfl)))
      dss_nil))
      (dss_cons (ds_set (i := 7) sc__law_after.nd rfl (by first | exact Or.inl rfl | exact Or.inr rfl) (de_own (own__law_added F) (hr.mono (by decide)) rfl psE_of (da_cons (de_var (pv 0)) (da_cons (de_var (pv 3)) (da_cons (de_var (pv 6)) da_nil)))))
      (dss_cons (ds_for pown_of rfl (di_seq (de_dget (hu1 hr) (de_var (pv 0)) de_str)) (dg_name (pg_name sc__law_after.nd rfl (by first | exact Or.inl rfl | exact Or.inr rfl))) (dss_cons (ds_if (dt_cmp (op_neD (hu64 hr)) opd_neD (de_own (own__law_word F) (hr.mono (by decide)) rfl psE_of (da_cons (de_var (pv 0)) (da_cons (de_var (pv 7)) (da_cons (de_var (pv 8)) da_nil)))) (de_own (own__law_word F) (hr.mono (by decide)) rfl psE_of (da_cons (de_var (pv 0)) (da_cons (de_var (pv 3)) (da_cons (de_var (pv 8)) da_nil)))) (nomark _)) (dss_cons (ds_set (i := 5) sc__law_after.nd rfl (by first | exact Or.inl rfl | exact Or.inr rfl) (de_own (own__law_put F) (hr.mono (by decide)) rfl psE_of (da_cons (de_var (pv 5)) (da_cons (de_tup (da_cons (de_var (pv 8)) (da_cons (de_own (own__law_word F) (hr.mono (by decide)) rfl psE_of (da_cons (de_var (pv 0)) (da_cons (de_var (pv 7)) (da_cons (de_var (pv 8)) da_nil)))) da_nil))) da_nil))))
      dss_nil) dss_nil)
      dss_nil))
      (dss_cons (ds_ret (de_tup (da_cons (de_tup (da_cons (de_var (pv 7)) (da_cons (de_var (pv 4)) (da_cons (de_var (pv 5)) da_nil)))) (da_cons (de_tup da_nil) da_nil))))
      dss_nil)))))))
theorem own__law_after (F : Fx P w K mg base) : Own P w K mg base (tabs K) 2 ("_law_after" : Str) (F__law_after (He.ga K ("Program" : Str))) := by
  obtain ⟨fd, hF⟩ := F.f__law_after
  exact ⟨_, fd, _, ok__law_after F hF, F.g__law_after, hF.kp, hF.bindsN fun _ _ _ _ _ _ us hl => match us, hl with | [_, _, _], _ => rfl⟩
def m__law_found (cP : Addr) : MS := (seqS (asgS (fun s => bnd (bnd (bnd (bnd (bnd (compD (fun s => bnd (bnd (sget s 0) fun x => bnd (pur (.str ("sizes" : Str))) fun y => dgetD x y) seqW) (tgN 7) (fun s => pur true) (fun s => pur (.int 0)) [7] s) fun ds => pur (.tup ds)) fun x => bnd (bnd (pur (.int 0)) fun x => bnd (bnd (bnd (pur []) mkT) fun x => bnd (pur []) fun r => pur (x :: r)) fun r => pur (x :: r)) fun r => pur (x :: r)) mkT) fun x => bnd (pur []) fun r => pur (x :: r)) mkL) (tgN 2))
    (seqS (asgS (newMap1 (fun s => bnd (sget s 2) fun x => bnd (pur (.int 0)) fun y => ixD x y) (fun s => pur (.bl true))) (tgN 3))
    (seqS (forS (fun s => bnd (bnd (sget s 1) fun x => bnd (pur []) fun r => pur (x :: r)) fun ds => match ds with | [d] => rngW [d] | _ => fail) (tgN 4) (seqS (ifS (fun s => bnd (bnd (bnd (sget s 4) fun x => bnd (bnd (bnd (sget s 2) fun x => bnd (pur []) fun r => pur (x :: r)) lenD) fun y => geI x y) asB) fun x => if x then pur true else bnd (bnd (bnd (bnd (sget s 2) fun x => bnd (pur []) fun r => pur (x :: r)) lenD) fun x => bnd (sget s 1) fun y => gtI x y) asB) (seqS brkS
    skipS) skipS)
    (seqS (forS (fun s => bnd (bnd (bnd (sget s 0) fun x => bnd (bnd (bnd (sget s 2) fun x => bnd (sget s 4) fun y => ixD x y) fun x => bnd (pur []) fun r => pur (x :: r)) fun r => pur (x :: r)) (F__law_acts cP)) seqW) (tgN 5) (seqS (asgS (fun s => bnd (bnd (bnd (sget s 0) fun x => bnd (bnd (bnd (sget s 2) fun x => bnd (sget s 4) fun y => ixD x y) fun x => bnd (bnd (sget s 5) fun x => bnd (pur []) fun r => pur (x :: r)) fun r => pur (x :: r)) fun r => pur (x :: r)) (F__law_after cP)) fun x => bnd (pur (.int 0)) fun y => ixD x y) (tgN 6))
    (seqS (ifS (fun s => bnd (bnd (sget s 6) fun x => bnd (sget s 3) fun y => (inMapD true) x y) asB) (seqS (asgS (fun s => pur (.bl true)) (subMG (fun s => sget s 3) (fun s => sget s 6)))
    (seqS (dropS fun s => bnd (sget s 2) fun x => bnd (tyM "list" x) fun x => bnd (bnd (sget s 6) fun x => bnd (pur []) fun r => pur (x :: r)) (appendD x))
    skipS)) skipS)
    skipS)))
    skipS)))
    (seqS (retS fun s => sget s 2)
    skipS))))
def F__law_found (cP : Addr) : List D → M D := fnM 2 8 (m__law_found cP)
theorem sc__law_found : FnScope [("data" : Str), ("most" : Str), ("found" : Str), ("known" : Str), ("k" : Str), ("act" : Str), ("world" : Str), ("size" : Str)] [("data" : Str), ("most" : Str)] (defScope s__law_found) := ⟨rfl, rfl, rfl, by decide +kernel, rfl, by decide +kernel, by decide +kernel⟩
theorem ok__law_found (F : Fx P w K mg base) {fd : FuncData} (hF : FnP K ("_law_found" : Str) s__law_found (He.fAd K (("_law_found" : Str), none)) fd) : FnOk P w K mg base (L2.CX P w) 3 (He.fAd K (("_law_found" : Str), none)) fd [("data" : Str), ("most" : Str)] (spD ⟨K, tabs K, DL.fw w⟩ (F__law_found (He.ga K ("Program" : Str)))) :=
  fn_D (N := [("data" : Str), ("most" : Str), ("found" : Str), ("known" : Str), ("k" : Str), ("act" : Str), ("world" : Str), ("size" : Str)]) (ps := [("data" : Str), ("most" : Str)]) (k := 2) hF sc__law_found 2 8 rfl rfl fun A outer s H E hr => by
    apply Exists.intro
    unfold m__law_found
    exact (dss_cons (ds_set (i := 2) sc__law_found.nd rfl (by first | exact Or.inl rfl | exact Or.inr rfl) (de_lst (da_cons (de_tup (da_cons (de_tupLcB [(("size" : Str), 7)] rfl F.g_tuple rfl sc__law_found.nd rfl rfl (di_seq (de_dget (hu1 hr) (de_var (pv 0)) de_str)) (fun s H C cl fp => by exact (dg_name (pg_name sc__law_found.nd rfl (by first | exact Or.inl rfl | exact Or.inr rfl)))) (fun s H C cl fp => by exact dts_nil) (fun s H C cl fp => by exact de_int)) (da_cons de_int (da_cons (de_tup da_nil) da_nil)))) da_nil)))
      (dss_cons (ds_set (i := 3) sc__law_found.nd rfl (by first | exact Or.inl rfl | exact Or.inr rfl) (de_newMap1 (hu64 hr) (de_ix (de_var (pv 2)) de_int (fun _ _ => rfl)) de_bl))
      (dss_cons (ds_for pown_of rfl (di_range1 rfl F.g_range (da_cons (de_var (pv 1)) da_nil)) (dg_name (pg_name sc__law_found.nd rfl (by first | exact Or.inl rfl | exact Or.inr rfl))) (dss_cons (ds_if (DW.dt (dw_or (dt_cmp op_ge opd_geI (de_var (pv 4)) (de_callB call_len_seq calld_len rfl F.g_len boot_len (da_cons (de_var (pv 2)) da_nil)) (nomark _)) (dw_or1 (dt_cmp op_gt opd_gtI (de_callB call_len_seq calld_len rfl F.g_len boot_len (da_cons (de_var (pv 2)) da_nil)) (de_var (pv 1)) (nomark _))))) (dss_cons ds_break
      dss_nil) dss_nil)
      (dss_cons (ds_for pown_of rfl (di_seq (de_own (own__law_acts F) (hr.mono (by decide)) rfl psE_of (da_cons (de_var (pv 0)) (da_cons (de_ix (de_var (pv 2)) (de_var (pv 4)) (fun _ _ => rfl)) da_nil)))) (dg_name (pg_name sc__law_found.nd rfl (by first | exact Or.inl rfl | exact Or.inr rfl))) (dss_cons (ds_set (i := 6) sc__law_found.nd rfl (by first | exact Or.inl rfl | exact Or.inr rfl) (de_ix (de_own (own__law_after F) (hr.mono (by decide)) rfl psE_of (da_cons (de_var (pv 0)) (da_cons (de_ix (de_var (pv 2)) (de_var (pv 4)) (fun _ _ => rfl)) (da_cons (de_var (pv 5)) da_nil)))) de_int (fun _ _ => rfl)))
      (dss_cons (ds_if (dt_cmp (DN.op_notM (hu64 hr)) opd_inMap (de_var (pv 6)) (de_var (pv 3)) (by with_unfolding_all rfl)) (dss_cons (ds_asg de_bl (dg_msub (hu64 hr) (de_var (pv 3)) (de_var (pv 6))))
      (dss_cons (ds_expr (de_bm (T := "list") (.inl rfl) PySem.F.plainAttrs_list PySem.F.slot_list_append PySem.F.type_list_append mt_append mtd_append (de_var (pv 2)) (da_cons (de_var (pv 6)) da_nil)))
      dss_nil)) dss_nil)
      dss_nil)))
      dss_nil)))
      (dss_cons (ds_ret (de_var (pv 2)))
      dss_nil))))
theorem own__law_found (F : Fx P w K mg base) : Own P w K mg base (tabs K) 3 ("_law_found" : Str) (F__law_found (He.ga K ("Program" : Str))) := by
  obtain ⟨fd, hF⟩ := F.f__law_found
  exact ⟨_, fd, _, ok__law_found F hF, F.g__law_found, hF.kp, hF.bindsN fun _ _ _ _ _ _ us hl => match us, hl with | [_, _], _ => rfl⟩
def m__is_number (cP : Addr) : MS := (seqS (ifS (fun s => bnd (bnd (bnd (bnd (sget s 0) fun x => bnd (bnd (pur (.ty "bool")) fun x => bnd (pur []) fun r => pur (x :: r)) fun r => pur (x :: r)) (isiD "bool")) truM) fun x => if x then pur true else bnd (bnd (bnd (bnd (sget s 0) fun x => bnd (bnd (pur (.ty "int")) fun x => bnd (pur []) fun r => pur (x :: r)) fun r => pur (x :: r)) (isiD "int")) truM) fun b => pur (!b)) (seqS (retS fun s => pur (.bl false))
    skipS) skipS)
    (seqS (retS fun s => bnd (sget s 1) fun x => bnd (sget s 0) fun y => bnd (leI x y) fun d => bnd (asB d) fun k => if k then bnd (sget s 2) (fun z => leI y z) else pur (.bl false))
    skipS))
def F__is_number (cP : Addr) : List D → M D := fnM 3 3 (m__is_number cP)
theorem sc__is_number : FnScope [("found" : Str), ("low" : Str), ("high" : Str)] [("found" : Str), ("low" : Str), ("high" : Str)] (defScope s__is_number) := ⟨rfl, rfl, rfl, by decide +kernel, rfl, by decide +kernel, by decide +kernel⟩
theorem ok__is_number (F : Fx P w K mg base) {fd : FuncData} (hF : FnP K ("_is_number" : Str) s__is_number (He.fAd K (("_is_number" : Str), none)) fd) : FnOk P w K mg base (L2.CX P w) 1 (He.fAd K (("_is_number" : Str), none)) fd [("found" : Str), ("low" : Str), ("high" : Str)] (spD ⟨K, tabs K, DL.fw w⟩ (F__is_number (He.ga K ("Program" : Str)))) :=
  fn_D (N := [("found" : Str), ("low" : Str), ("high" : Str)]) (ps := [("found" : Str), ("low" : Str), ("high" : Str)]) (k := 0) hF sc__is_number 3 3 rfl rfl fun A outer s H E hr => by
    apply Exists.intro
    unfold m__is_number
    exact (dss_cons (ds_if (DW.dt (dw_or (dt_tru (de_callB call_isi (calld_isi (T := "bool")) rfl F.g_isinstance PyProof.Rows.boot_isinstance (da_cons (de_var (pv 0)) (da_cons (de_ty rfl F.g_bool PyProof.Rows.boot_bool) da_nil)))) (dw_or1 (dt_not (dt_tru (de_callB call_isi (calld_isi (T := "int")) rfl F.g_isinstance PyProof.Rows.boot_isinstance (da_cons (de_var (pv 0)) (da_cons (de_ty rfl F.g_int PyProof.Rows.boot_int) da_nil)))))))) (dss_cons (ds_ret de_bl)
      dss_nil) dss_nil)
      (dss_cons (ds_ret (de_chain op_le op_le opd_leI opd_leI (de_var (pv 1)) (de_var (pv 0)) (de_var (pv 2))))
      dss_nil))
theorem own__is_number (F : Fx P w K mg base) : Own P w K mg base (tabs K) 1 ("_is_number" : Str) (F__is_number (He.ga K ("Program" : Str))) := by
  obtain ⟨fd, hF⟩ := F.f__is_number
  exact ⟨_, fd, _, ok__is_number F hF, F.g__is_number, hF.kp, hF.bindsN fun _ _ _ _ _ _ us hl => match us, hl with | [_, _, _], _ => rfl⟩
def m_are_indexes (cP : Addr) : MS := (seqS (asgS (fun s => pur (.int 0)) (tgN 2))
    (seqS (forS (fun s => bnd (sget s 1) seqW) (tgN 3) (seqS (ifS (fun s => bnd (bnd (bnd (bnd (sget s 3) fun x => bnd (bnd (sget s 2) fun x => bnd (bnd (bnd (sget s 0) fun x => bnd (pur (.int 1)) fun y => subI x y) fun x => bnd (pur []) fun r => pur (x :: r)) fun r => pur (x :: r)) fun r => pur (x :: r)) (F__is_number cP)) truM) fun b => pur (!b)) (seqS (retS fun s => pur (.bl false))
    skipS) skipS)
    (seqS (asgS (fun s => bnd (sget s 3) fun x => bnd (pur (.int 1)) fun y => addD x y) (tgN 2))
    skipS)))
    (seqS (retS fun s => pur (.bl true))
    skipS)))
def F_are_indexes (cP : Addr) : List D → M D := fnM 2 4 (m_are_indexes cP)
theorem sc_are_indexes : FnScope [("many" : Str), ("indexes" : Str), ("low" : Str), ("index" : Str)] [("many" : Str), ("indexes" : Str)] (defScope s_are_indexes) := ⟨rfl, rfl, rfl, by decide +kernel, rfl, by decide +kernel, by decide +kernel⟩
theorem ok_are_indexes (F : Fx P w K mg base) {fd : FuncData} (hF : FnP K ("are_indexes" : Str) s_are_indexes (He.fAd K (("are_indexes" : Str), none)) fd) : FnOk P w K mg base (L2.CX P w) 2 (He.fAd K (("are_indexes" : Str), none)) fd [("many" : Str), ("indexes" : Str)] (spD ⟨K, tabs K, DL.fw w⟩ (F_are_indexes (He.ga K ("Program" : Str)))) :=
  fn_D (N := [("many" : Str), ("indexes" : Str), ("low" : Str), ("index" : Str)]) (ps := [("many" : Str), ("indexes" : Str)]) (k := 1) hF sc_are_indexes 2 4 rfl rfl fun A outer s H E hr => by
    apply Exists.intro
    unfold m_are_indexes
    exact (dss_cons (ds_set (i := 2) sc_are_indexes.nd rfl (by first | exact Or.inl rfl | exact Or.inr rfl) de_int)
      (dss_cons (ds_for pown_of rfl (di_seq (de_var (pv 1))) (dg_name (pg_name sc_are_indexes.nd rfl (by first | exact Or.inl rfl | exact Or.inr rfl))) (dss_cons (ds_if (dt_not (dt_tru (de_own (own__is_number F) (hr.mono (by decide)) rfl psE_of (da_cons (de_var (pv 3)) (da_cons (de_var (pv 2)) (da_cons (de_op op_sub opd_subI (de_var (pv 0)) de_int) da_nil)))))) (dss_cons (ds_ret de_bl)
      dss_nil) dss_nil)
      (dss_cons (ds_set (i := 2) sc_are_indexes.nd rfl (by first | exact Or.inl rfl | exact Or.inr rfl) (de_op op_addA opd_addD (de_var (pv 3)) de_int))
      dss_nil)))
      (dss_cons (ds_ret de_bl)
      dss_nil)))
theorem own_are_indexes (F : Fx P w K mg base) : Own P w K mg base (tabs K) 2 ("are_indexes" : Str) (F_are_indexes (He.ga K ("Program" : Str))) := by
  obtain ⟨fd, hF⟩ := F.f_are_indexes
  exact ⟨_, fd, _, ok_are_indexes F hF, F.g_are_indexes, hF.kp, hF.bindsN fun _ _ _ _ _ _ us hl => match us, hl with | [_, _], _ => rfl⟩
def m__is_change (cP : Addr) : MS := (seqS (asgS (fun s => sget s 1) (tgT2 2 3))
    (seqS (retS fun s => bnd (bnd (bnd (sget s 2) fun x => bnd (bnd (pur (.int 0)) fun x => bnd (bnd (bnd (bnd (bnd (sget s 0) fun x => bnd (pur []) fun r => pur (x :: r)) lenD) fun x => bnd (pur (.int 1)) fun y => subI x y) fun x => bnd (pur []) fun r => pur (x :: r)) fun r => pur (x :: r)) fun r => pur (x :: r)) (F__is_number cP)) fun d => bnd (asB d) fun x => if x then bnd (bnd (sget s 3) fun x => bnd (bnd (pur (.int 1)) fun x => bnd (bnd (pur (.int 3)) fun x => bnd (pur []) fun r => pur (x :: r)) fun r => pur (x :: r)) fun r => pur (x :: r)) (F__is_number cP) else pur (.bl false))
    skipS))
def F__is_change (cP : Addr) : List D → M D := fnM 2 4 (m__is_change cP)
theorem sc__is_change : FnScope [("sizes" : Str), ("change" : Str), ("variable" : Str), ("add" : Str)] [("sizes" : Str), ("change" : Str)] (defScope s__is_change) := ⟨rfl, rfl, rfl, by decide +kernel, rfl, by decide +kernel, by decide +kernel⟩
theorem ok__is_change (F : Fx P w K mg base) {fd : FuncData} (hF : FnP K ("_is_change" : Str) s__is_change (He.fAd K (("_is_change" : Str), none)) fd) : FnOk P w K mg base (L2.CX P w) 2 (He.fAd K (("_is_change" : Str), none)) fd [("sizes" : Str), ("change" : Str)] (spD ⟨K, tabs K, DL.fw w⟩ (F__is_change (He.ga K ("Program" : Str)))) :=
  fn_D (N := [("sizes" : Str), ("change" : Str), ("variable" : Str), ("add" : Str)]) (ps := [("sizes" : Str), ("change" : Str)]) (k := 1) hF sc__is_change 2 4 rfl rfl fun A outer s H E hr => by
    apply Exists.intro
    unfold m__is_change
    exact (dss_cons (ds_asg (de_var (pv 1)) (dg_tup2 (pg_tup rfl (pgs_cons (pg_name sc__is_change.nd rfl (by first | exact Or.inl rfl | exact Or.inr rfl)) (pgs_cons (pg_name sc__is_change.nd rfl (by first | exact Or.inl rfl | exact Or.inr rfl)) pgs_nil)))))
      (dss_cons (ds_ret (de_and (de_own (own__is_number F) (hr.mono (by decide)) rfl psE_of (da_cons (de_var (pv 2)) (da_cons de_int (da_cons (de_op op_sub opd_subI (de_callB call_len_seq calld_len rfl F.g_len boot_len (da_cons (de_var (pv 0)) da_nil)) de_int) da_nil)))) (de_one (de_own (own__is_number F) (hr.mono (by decide)) rfl psE_of (da_cons (de_var (pv 3)) (da_cons de_int (da_cons de_int da_nil)))))))
      dss_nil))
theorem own__is_change (F : Fx P w K mg base) : Own P w K mg base (tabs K) 2 ("_is_change" : Str) (F__is_change (He.ga K ("Program" : Str))) := by
  obtain ⟨fd, hF⟩ := F.f__is_change
  exact ⟨_, fd, _, ok__is_change F hF, F.g__is_change, hF.kp, hF.bindsN fun _ _ _ _ _ _ us hl => match us, hl with | [_, _], _ => rfl⟩
def m_are_changes (cP : Addr) : MS := (seqS (retS fun s => bnd (bnd (pur (.int 1)) fun x => bnd (bnd (bnd (sget s 1) fun x => bnd (pur []) fun r => pur (x :: r)) lenD) fun y => bnd (leI x y) fun d => bnd (asB d) fun k => if k then bnd (pur (.int 3)) (fun z => leI y z) else pur (.bl false)) fun d => bnd (asB d) fun x => if x then genD (fun s => bnd (sget s 1) seqW) (tgN 2) (fun s => bnd (bnd (sget s 0) fun x => bnd (bnd (sget s 2) fun x => bnd (pur []) fun r => pur (x :: r)) fun r => pur (x :: r)) (F__is_change cP)) false [2] s else pur (.bl false))
    skipS)
def F_are_changes (cP : Addr) : List D → M D := fnM 2 3 (m_are_changes cP)
theorem sc_are_changes : FnScope [("sizes" : Str), ("changes" : Str), ("change" : Str)] [("sizes" : Str), ("changes" : Str)] (defScope s_are_changes) := ⟨rfl, rfl, rfl, by decide +kernel, rfl, by decide +kernel, by decide +kernel⟩
theorem ok_are_changes (F : Fx P w K mg base) {fd : FuncData} (hF : FnP K ("are_changes" : Str) s_are_changes (He.fAd K (("are_changes" : Str), none)) fd) : FnOk P w K mg base (L2.CX P w) 6 (He.fAd K (("are_changes" : Str), none)) fd [("sizes" : Str), ("changes" : Str)] (spD ⟨K, tabs K, DL.fw w⟩ (F_are_changes (He.ga K ("Program" : Str)))) :=
  fn_D (N := [("sizes" : Str), ("changes" : Str), ("change" : Str)]) (ps := [("sizes" : Str), ("changes" : Str)]) (k := 5) hF sc_are_changes 2 3 rfl rfl fun A outer s H E hr => by
    apply Exists.intro
    unfold m_are_changes
    exact (dss_cons (ds_ret (de_and (de_chain op_le op_le opd_leI opd_leI de_int (de_callB call_len_seq calld_len rfl F.g_len boot_len (da_cons (de_var (pv 1)) da_nil)) de_int) (de_one (de_allB [(("change" : Str), 2)] 2 (hr.mono (by decide)) rfl F.g_all F.tb_are_changes rfl F.ts_are_changes rfl sc_are_changes.nd rfl rfl rfl (di_seq (de_var (pv 1))) (fun s H C cl code fp pn => by exact (dg_name (pg_name sc_are_changes.nd rfl (by first | exact Or.inl rfl | exact Or.inr rfl)))) (fun s H C cl code fp pn hr => by exact (de_own (own__is_change F) (hr.mono (by decide)) rfl psE0 (da_cons (de_var (pv 0)) (da_cons (de_var (pv 2)) da_nil))))))))
      dss_nil)
theorem own_are_changes (F : Fx P w K mg base) : Own P w K mg base (tabs K) 6 ("are_changes" : Str) (F_are_changes (He.ga K ("Program" : Str))) := by
  obtain ⟨fd, hF⟩ := F.f_are_changes
  exact ⟨_, fd, _, ok_are_changes F hF, F.g_are_changes, hF.kp, hF.bindsN fun _ _ _ _ _ _ us hl => match us, hl with | [_, _], _ => rfl⟩
def m__are_ticks (cP : Addr) : MS := (seqS (retS fun s => bnd (bnd (bnd (bnd (sget s 1) fun x => bnd (pur []) fun r => pur (x :: r)) lenD) fun x => bnd (pur (.int 2)) fun y => leI x y) fun d => bnd (asB d) fun x => if x then genD (fun s => bnd (sget s 1) seqW) (tgN 2) (fun s => bnd (bnd (sget s 0) fun x => bnd (bnd (sget s 2) fun x => bnd (pur []) fun r => pur (x :: r)) fun r => pur (x :: r)) (F_are_changes cP)) false [2] s else pur (.bl false))
    skipS)
def F__are_ticks (cP : Addr) : List D → M D := fnM 2 3 (m__are_ticks cP)
theorem sc__are_ticks : FnScope [("sizes" : Str), ("ticks" : Str), ("tick" : Str)] [("sizes" : Str), ("ticks" : Str)] (defScope s__are_ticks) := ⟨rfl, rfl, rfl, by decide +kernel, rfl, by decide +kernel, by decide +kernel⟩
theorem ok__are_ticks (F : Fx P w K mg base) {fd : FuncData} (hF : FnP K ("_are_ticks" : Str) s__are_ticks (He.fAd K (("_are_ticks" : Str), none)) fd) : FnOk P w K mg base (L2.CX P w) 10 (He.fAd K (("_are_ticks" : Str), none)) fd [("sizes" : Str), ("ticks" : Str)] (spD ⟨K, tabs K, DL.fw w⟩ (F__are_ticks (He.ga K ("Program" : Str)))) :=
  fn_D (N := [("sizes" : Str), ("ticks" : Str), ("tick" : Str)]) (ps := [("sizes" : Str), ("ticks" : Str)]) (k := 9) hF sc__are_ticks 2 3 rfl rfl fun A outer s H E hr => by
    apply Exists.intro
    unfold m__are_ticks
    exact (dss_cons (ds_ret (de_and (de_cmp op_le opd_leI (de_callB call_len_seq calld_len rfl F.g_len boot_len (da_cons (de_var (pv 1)) da_nil)) (de_globI rfl F.c_MOST_TICKS) (nomark _)) (de_one (de_allB [(("tick" : Str), 2)] 6 (hr.mono (by decide)) rfl F.g_all F.tb__are_ticks rfl F.ts__are_ticks rfl sc__are_ticks.nd rfl rfl rfl (di_seq (de_var (pv 1))) (fun s H C cl code fp pn => by exact (dg_name (pg_name sc__are_ticks.nd rfl (by first | exact Or.inl rfl | exact Or.inr rfl)))) (fun s H C cl code fp pn hr => by exact (de_own (own_are_changes F) (hr.mono (by decide)) rfl psE0 (da_cons (de_var (pv 0)) (da_cons (de_var (pv 2)) da_nil))))))))
      dss_nil)
theorem own__are_ticks (F : Fx P w K mg base) : Own P w K mg base (tabs K) 10 ("_are_ticks" : Str) (F__are_ticks (He.ga K ("Program" : Str))) := by
  obtain ⟨fd, hF⟩ := F.f__are_ticks
  exact ⟨_, fd, _, ok__are_ticks F hF, F.g__are_ticks, hF.kp, hF.bindsN fun _ _ _ _ _ _ us hl => match us, hl with | [_, _], _ => rfl⟩
def m_is_shown (cP : Addr) : MS := (seqS (asgS (fun s => sget s 1) (tgT2 2 3))
    (seqS (ifS (fun s => bnd (bnd (bnd (bnd (sget s 2) fun x => bnd (bnd (pur (.int 0)) fun x => bnd (bnd (bnd (bnd (bnd (sget s 0) fun x => bnd (pur []) fun r => pur (x :: r)) lenD) fun x => bnd (pur (.int 1)) fun y => subI x y) fun x => bnd (pur []) fun r => pur (x :: r)) fun r => pur (x :: r)) fun r => pur (x :: r)) (F__is_number cP)) truM) fun b => pur (!b)) (seqS (retS fun s => pur (.bl false))
    skipS) skipS)
    (seqS (retS fun s => bnd (bnd (bnd (bnd (sget s 3) fun x => bnd (pur []) fun r => pur (x :: r)) lenD) fun x => bnd (bnd (sget s 0) fun x => bnd (sget s 2) fun y => ixD x y) fun y => eqD x y) fun d => bnd (asB d) fun x => if x then genD (fun s => bnd (sget s 3) seqW) (tgN 4) (fun s => bnd (bnd (sget s 4) fun x => bnd (bnd (pur (.int 0)) fun x => bnd (bnd (pur (.int 7)) fun x => bnd (pur []) fun r => pur (x :: r)) fun r => pur (x :: r)) fun r => pur (x :: r)) (F__is_number cP)) false [4] s else pur (.bl false))
    skipS)))
def F_is_shown (cP : Addr) : List D → M D := fnM 2 5 (m_is_shown cP)
theorem sc_is_shown : FnScope [("sizes" : Str), ("pair" : Str), ("variable" : Str), ("table" : Str), ("entry" : Str)] [("sizes" : Str), ("pair" : Str)] (defScope s_is_shown) := ⟨rfl, rfl, rfl, by decide +kernel, rfl, by decide +kernel, by decide +kernel⟩
theorem ok_is_shown (F : Fx P w K mg base) {fd : FuncData} (hF : FnP K ("is_shown" : Str) s_is_shown (He.fAd K (("is_shown" : Str), none)) fd) : FnOk P w K mg base (L2.CX P w) 5 (He.fAd K (("is_shown" : Str), none)) fd [("sizes" : Str), ("pair" : Str)] (spD ⟨K, tabs K, DL.fw w⟩ (F_is_shown (He.ga K ("Program" : Str)))) :=
  fn_D (N := [("sizes" : Str), ("pair" : Str), ("variable" : Str), ("table" : Str), ("entry" : Str)]) (ps := [("sizes" : Str), ("pair" : Str)]) (k := 4) hF sc_is_shown 2 5 rfl rfl fun A outer s H E hr => by
    apply Exists.intro
    unfold m_is_shown
    exact (dss_cons (ds_asg (de_var (pv 1)) (dg_tup2 (pg_tup rfl (pgs_cons (pg_name sc_is_shown.nd rfl (by first | exact Or.inl rfl | exact Or.inr rfl)) (pgs_cons (pg_name sc_is_shown.nd rfl (by first | exact Or.inl rfl | exact Or.inr rfl)) pgs_nil)))))
      (dss_cons (ds_if (dt_not (dt_tru (de_own (own__is_number F) (hr.mono (by decide)) rfl psE_of (da_cons (de_var (pv 2)) (da_cons de_int (da_cons (de_op op_sub opd_subI (de_callB call_len_seq calld_len rfl F.g_len boot_len (da_cons (de_var (pv 0)) da_nil)) de_int) da_nil)))))) (dss_cons (ds_ret de_bl)
      dss_nil) dss_nil)
      (dss_cons (ds_ret (de_and (de_cmp (op_eqD (hu64 hr)) opd_eqD (de_callB call_len_seq calld_len rfl F.g_len boot_len (da_cons (de_var (pv 3)) da_nil)) (de_ix (de_var (pv 0)) (de_var (pv 2)) (fun _ _ => rfl)) (nomark _)) (de_one (de_allB [(("entry" : Str), 4)] 1 (hr.mono (by decide)) rfl F.g_all F.tb_is_shown rfl F.ts_is_shown rfl sc_is_shown.nd rfl rfl rfl (di_seq (de_var (pv 3))) (fun s H C cl code fp pn => by exact (dg_name (pg_name sc_is_shown.nd rfl (by first | exact Or.inl rfl | exact Or.inr rfl)))) (fun s H C cl code fp pn hr => by exact (de_own (own__is_number F) (hr.mono (by decide)) rfl psE0 (da_cons (de_var (pv 4)) (da_cons de_int (da_cons de_int da_nil)))))))))
      dss_nil)))
theorem own_is_shown (F : Fx P w K mg base) : Own P w K mg base (tabs K) 5 ("is_shown" : Str) (F_is_shown (He.ga K ("Program" : Str))) := by
  obtain ⟨fd, hF⟩ := F.f_is_shown
  exact ⟨_, fd, _, ok_is_shown F hF, F.g_is_shown, hF.kp, hF.bindsN fun _ _ _ _ _ _ us hl => match us, hl with | [_, _], _ => rfl⟩
def m__is_part (cP : Addr) : MS := (seqS (asgS (fun s => sget s 1) (tgT3 2 3 4))
    (seqS (ifS (fun s => bnd (bnd (bnd (bnd (bnd (sget s 0) fun x => bnd (bnd (sget s 2) fun x => bnd (pur []) fun r => pur (x :: r)) fun r => pur (x :: r)) (F_is_shown cP)) truM) fun b => pur (!b)) fun x => if x then pur true else bnd (bnd (bnd (bnd (sget s 0) fun x => bnd (bnd (sget s 3) fun x => bnd (pur []) fun r => pur (x :: r)) fun r => pur (x :: r)) (F_is_shown cP)) truM) fun b => pur (!b)) (seqS (retS fun s => pur (.bl false))
    skipS) skipS)
    (seqS (retS fun s => bnd (bnd (sget s 4) fun x => bnd (pur .non) fun y => (isNoneD false) x y) fun d => bnd (asB d) fun x => if x then pur (.bl true) else bnd (bnd (sget s 0) fun x => bnd (bnd (sget s 4) fun x => bnd (pur []) fun r => pur (x :: r)) fun r => pur (x :: r)) (F_are_changes cP))
    skipS)))
def F__is_part (cP : Addr) : List D → M D := fnM 2 5 (m__is_part cP)
theorem sc__is_part : FnScope [("sizes" : Str), ("part" : Str), ("look" : Str), ("word" : Str), ("press" : Str)] [("sizes" : Str), ("part" : Str)] (defScope s__is_part) := ⟨rfl, rfl, rfl, by decide +kernel, rfl, by decide +kernel, by decide +kernel⟩
theorem ok__is_part (F : Fx P w K mg base) {fd : FuncData} (hF : FnP K ("_is_part" : Str) s__is_part (He.fAd K (("_is_part" : Str), none)) fd) : FnOk P w K mg base (L2.CX P w) 7 (He.fAd K (("_is_part" : Str), none)) fd [("sizes" : Str), ("part" : Str)] (spD ⟨K, tabs K, DL.fw w⟩ (F__is_part (He.ga K ("Program" : Str)))) :=
  fn_D (N := [("sizes" : Str), ("part" : Str), ("look" : Str), ("word" : Str), ("press" : Str)]) (ps := [("sizes" : Str), ("part" : Str)]) (k := 6) hF sc__is_part 2 5 rfl rfl fun A outer s H E hr => by
    apply Exists.intro
    unfold m__is_part
    exact (dss_cons (ds_asg (de_var (pv 1)) (dg_tup3 (pg_tup rfl (pgs_cons (pg_name sc__is_part.nd rfl (by first | exact Or.inl rfl | exact Or.inr rfl)) (pgs_cons (pg_name sc__is_part.nd rfl (by first | exact Or.inl rfl | exact Or.inr rfl)) (pgs_cons (pg_name sc__is_part.nd rfl (by first | exact Or.inl rfl | exact Or.inr rfl)) pgs_nil))))))
      (dss_cons (ds_if (DW.dt (dw_or (dt_not (dt_tru (de_own (own_is_shown F) (hr.mono (by decide)) rfl psE_of (da_cons (de_var (pv 0)) (da_cons (de_var (pv 2)) da_nil))))) (dw_or1 (dt_not (dt_tru (de_own (own_is_shown F) (hr.mono (by decide)) rfl psE_of (da_cons (de_var (pv 0)) (da_cons (de_var (pv 3)) da_nil)))))))) (dss_cons (ds_ret de_bl)
      dss_nil) dss_nil)
      (dss_cons (ds_ret (de_or (de_cmp op_isN opd_isN (de_var (pv 4)) de_non (nomark _)) (de_one (de_own (own_are_changes F) (hr.mono (by decide)) rfl psE_of (da_cons (de_var (pv 0)) (da_cons (de_var (pv 4)) da_nil))))))
      dss_nil)))
theorem own__is_part (F : Fx P w K mg base) : Own P w K mg base (tabs K) 7 ("_is_part" : Str) (F__is_part (He.ga K ("Program" : Str))) := by
  obtain ⟨fd, hF⟩ := F.f__is_part
  exact ⟨_, fd, _, ok__is_part F hF, F.g__is_part, hF.kp, hF.bindsN fun _ _ _ _ _ _ us hl => match us, hl with | [_, _], _ => rfl⟩
def m__are_parts (cP : Addr) : MS := (seqS (retS fun s => bnd (bnd (pur (.int 1)) fun x => bnd (bnd (bnd (sget s 1) fun x => bnd (pur []) fun r => pur (x :: r)) lenD) fun y => bnd (leI x y) fun d => bnd (asB d) fun k => if k then bnd (pur (.int 4)) (fun z => leI y z) else pur (.bl false)) fun d => bnd (asB d) fun x => if x then genD (fun s => bnd (sget s 1) seqW) (tgN 2) (fun s => bnd (bnd (sget s 0) fun x => bnd (bnd (sget s 2) fun x => bnd (pur []) fun r => pur (x :: r)) fun r => pur (x :: r)) (F__is_part cP)) false [2] s else pur (.bl false))
    skipS)
def F__are_parts (cP : Addr) : List D → M D := fnM 2 3 (m__are_parts cP)
theorem sc__are_parts : FnScope [("sizes" : Str), ("parts" : Str), ("part" : Str)] [("sizes" : Str), ("parts" : Str)] (defScope s__are_parts) := ⟨rfl, rfl, rfl, by decide +kernel, rfl, by decide +kernel, by decide +kernel⟩
theorem ok__are_parts (F : Fx P w K mg base) {fd : FuncData} (hF : FnP K ("_are_parts" : Str) s__are_parts (He.fAd K (("_are_parts" : Str), none)) fd) : FnOk P w K mg base (L2.CX P w) 11 (He.fAd K (("_are_parts" : Str), none)) fd [("sizes" : Str), ("parts" : Str)] (spD ⟨K, tabs K, DL.fw w⟩ (F__are_parts (He.ga K ("Program" : Str)))) :=
  fn_D (N := [("sizes" : Str), ("parts" : Str), ("part" : Str)]) (ps := [("sizes" : Str), ("parts" : Str)]) (k := 10) hF sc__are_parts 2 3 rfl rfl fun A outer s H E hr => by
    apply Exists.intro
    unfold m__are_parts
    exact (dss_cons (ds_ret (de_and (de_chain op_le op_le opd_leI opd_leI de_int (de_callB call_len_seq calld_len rfl F.g_len boot_len (da_cons (de_var (pv 1)) da_nil)) (de_globI rfl F.c_MOST_PARTS)) (de_one (de_allB [(("part" : Str), 2)] 7 (hr.mono (by decide)) rfl F.g_all F.tb__are_parts rfl F.ts__are_parts rfl sc__are_parts.nd rfl rfl rfl (di_seq (de_var (pv 1))) (fun s H C cl code fp pn => by exact (dg_name (pg_name sc__are_parts.nd rfl (by first | exact Or.inl rfl | exact Or.inr rfl)))) (fun s H C cl code fp pn hr => by exact (de_own (own__is_part F) (hr.mono (by decide)) rfl psE0 (da_cons (de_var (pv 0)) (da_cons (de_var (pv 2)) da_nil))))))))
      dss_nil)
theorem own__are_parts (F : Fx P w K mg base) : Own P w K mg base (tabs K) 11 ("_are_parts" : Str) (F__are_parts (He.ga K ("Program" : Str))) := by
  obtain ⟨fd, hF⟩ := F.f__are_parts
  exact ⟨_, fd, _, ok__are_parts F hF, F.g__are_parts, hF.kp, hF.bindsN fun _ _ _ _ _ _ us hl => match us, hl with | [_, _], _ => rfl⟩
def m_are_sizes (cP : Addr) : MS := (seqS (retS fun s => bnd (bnd (pur (.int 1)) fun x => bnd (bnd (bnd (sget s 0) fun x => bnd (pur []) fun r => pur (x :: r)) lenD) fun y => bnd (leI x y) fun d => bnd (asB d) fun k => if k then bnd (pur (.int 3)) (fun z => leI y z) else pur (.bl false)) fun d => bnd (asB d) fun x => if x then genD (fun s => bnd (sget s 0) seqW) (tgN 1) (fun s => bnd (bnd (sget s 1) fun x => bnd (bnd (pur (.int 2)) fun x => bnd (bnd (pur (.int 4)) fun x => bnd (pur []) fun r => pur (x :: r)) fun r => pur (x :: r)) fun r => pur (x :: r)) (F__is_number cP)) false [1] s else pur (.bl false))
    skipS)
def F_are_sizes (cP : Addr) : List D → M D := fnM 1 2 (m_are_sizes cP)
theorem sc_are_sizes : FnScope [("sizes" : Str), ("size" : Str)] [("sizes" : Str)] (defScope s_are_sizes) := ⟨rfl, rfl, rfl, by decide +kernel, rfl, by decide +kernel, by decide +kernel⟩
theorem ok_are_sizes (F : Fx P w K mg base) {fd : FuncData} (hF : FnP K ("are_sizes" : Str) s_are_sizes (He.fAd K (("are_sizes" : Str), none)) fd) : FnOk P w K mg base (L2.CX P w) 5 (He.fAd K (("are_sizes" : Str), none)) fd [("sizes" : Str)] (spD ⟨K, tabs K, DL.fw w⟩ (F_are_sizes (He.ga K ("Program" : Str)))) :=
  fn_D (N := [("sizes" : Str), ("size" : Str)]) (ps := [("sizes" : Str)]) (k := 4) hF sc_are_sizes 1 2 rfl rfl fun A outer s H E hr => by
    apply Exists.intro
    unfold m_are_sizes
    exact (dss_cons (ds_ret (de_and (de_chain op_le op_le opd_leI opd_leI de_int (de_callB call_len_seq calld_len rfl F.g_len boot_len (da_cons (de_var (pv 0)) da_nil)) de_int) (de_one (de_allB [(("size" : Str), 1)] 1 (hr.mono (by decide)) rfl F.g_all F.tb_are_sizes rfl F.ts_are_sizes rfl sc_are_sizes.nd rfl rfl rfl (di_seq (de_var (pv 0))) (fun s H C cl code fp pn => by exact (dg_name (pg_name sc_are_sizes.nd rfl (by first | exact Or.inl rfl | exact Or.inr rfl)))) (fun s H C cl code fp pn hr => by exact (de_own (own__is_number F) (hr.mono (by decide)) rfl psE0 (da_cons (de_var (pv 1)) (da_cons de_int (da_cons de_int da_nil)))))))))
      dss_nil)
theorem own_are_sizes (F : Fx P w K mg base) : Own P w K mg base (tabs K) 5 ("are_sizes" : Str) (F_are_sizes (He.ga K ("Program" : Str))) := by
  obtain ⟨fd, hF⟩ := F.f_are_sizes
  exact ⟨_, fd, _, ok_are_sizes F hF, F.g_are_sizes, hF.kp, hF.bindsN fun _ _ _ _ _ _ us hl => match us, hl with | [_], _ => rfl⟩
def nsP : List Str := [("sizes" : Str), ("parts" : Str), ("ticks" : Str), ("live" : Str), ("skips" : Str)]
def m_init (cP : Addr) : MS := (seqS (ifS (fun s => bnd (bnd (bnd (bnd (sget s 1) fun x => bnd (pur []) fun r => pur (x :: r)) (F_are_sizes cP)) truM) fun b => pur (!b)) (seqS badS
    skipS) skipS)
    (seqS (ifS (fun s => bnd (bnd (bnd (bnd (sget s 1) fun x => bnd (bnd (sget s 2) fun x => bnd (pur []) fun r => pur (x :: r)) fun r => pur (x :: r)) (F__are_parts cP)) truM) fun b => pur (!b)) (seqS badS
    skipS) skipS)
    (seqS (ifS (fun s => bnd (bnd (bnd (bnd (sget s 1) fun x => bnd (bnd (sget s 3) fun x => bnd (pur []) fun r => pur (x :: r)) fun r => pur (x :: r)) (F__are_ticks cP)) truM) fun b => pur (!b)) (seqS badS
    skipS) skipS)
    (seqS (ifS (fun s => bnd (bnd (bnd (bnd (bnd (bnd (sget s 2) fun x => bnd (pur []) fun r => pur (x :: r)) lenD) fun x => bnd (bnd (sget s 4) fun x => bnd (pur []) fun r => pur (x :: r)) fun r => pur (x :: r)) (F_are_indexes cP)) truM) fun b => pur (!b)) (seqS badS
    skipS) skipS)
    (seqS (ifS (fun s => bnd (bnd (bnd (bnd (bnd (bnd (sget s 2) fun x => bnd (pur []) fun r => pur (x :: r)) lenD) fun x => bnd (bnd (sget s 5) fun x => bnd (pur []) fun r => pur (x :: r)) fun r => pur (x :: r)) (F_are_indexes cP)) truM) fun b => pur (!b)) (seqS badS
    skipS) skipS)
    skipS)))))
theorem sc_init : FnScope [("self" : Str), ("sizes" : Str), ("parts" : Str), ("ticks" : Str), ("live" : Str), ("skips" : Str)] [("self" : Str), ("sizes" : Str), ("parts" : Str), ("ticks" : Str), ("live" : Str), ("skips" : Str)] (defScope s_init) := ⟨rfl, rfl, rfl, by decide +kernel, rfl, by decide +kernel, by decide +kernel⟩
theorem own_Program (F : Fx P w K mg base) : OwnC P w K mg base (tabs K) 12 ("Program" : Str) (He.ga K ("Program" : Str)) nsP (m_init (He.ga K ("Program" : Str))) := by
  obtain ⟨fd, hF⟩ := F.f_init
  have hm : He.fAd K (("Program" : Str), some "__init__") = He.ma K (He.ga K ("Program" : Str)) "__init__" := rfl
  refine ⟨_, fd, [("self" : Str), ("sizes" : Str), ("parts" : Str), ("ticks" : Str), ("live" : Str), ("skips" : Str)], fn_I (N := [("self" : Str), ("sizes" : Str), ("parts" : Str), ("ticks" : Str), ("live" : Str), ("skips" : Str)]) (k := 11) hF sc_init F.cls F.no_all (by decide +kernel) rfl (by decide) (keeps_seq (keeps_if (keeps_seq keeps_bad keeps_skip) keeps_skip) (keeps_seq (keeps_if (keeps_seq keeps_bad keeps_skip) keeps_skip) (keeps_seq (keeps_if (keeps_seq keeps_bad keeps_skip) keeps_skip) (keeps_seq (keeps_if (keeps_seq keeps_bad keeps_skip) keeps_skip) (keeps_seq (keeps_if (keeps_seq keeps_bad keeps_skip) keeps_skip) keeps_skip))))) (indp_seq (keeps_if (keeps_seq keeps_bad keeps_skip) keeps_skip) (indp_if (fun _ _ _ => rfl) (indp_seq keeps_bad indp_bad indp_skip) indp_skip) (indp_seq (keeps_if (keeps_seq keeps_bad keeps_skip) keeps_skip) (indp_if (fun _ _ _ => rfl) (indp_seq keeps_bad indp_bad indp_skip) indp_skip) (indp_seq (keeps_if (keeps_seq keeps_bad keeps_skip) keeps_skip) (indp_if (fun _ _ _ => rfl) (indp_seq keeps_bad indp_bad indp_skip) indp_skip) (indp_seq (keeps_if (keeps_seq keeps_bad keeps_skip) keeps_skip) (indp_if (fun _ _ _ => rfl) (indp_seq keeps_bad indp_bad indp_skip) indp_skip) (indp_seq (keeps_if (keeps_seq keeps_bad keeps_skip) keeps_skip) (indp_if (fun _ _ _ => rfl) (indp_seq keeps_bad indp_bad indp_skip) indp_skip) indp_skip))))) [(1, ("sizes" : Str)), (2, ("parts" : Str)), (3, ("ticks" : Str)), (4, ("live" : Str)), (5, ("skips" : Str))] (by rfl) fun A outer s H E hr => by
    apply Exists.intro
    unfold m_init
    exact (db_cons (ds_if (dt_not (dt_tru (de_own (own_are_sizes F) (hr.mono (by decide)) rfl psE_of (da_cons (de_var (pv 1)) da_nil)))) (dss_cons ds_never
      dss_nil) dss_nil)
      (db_cons (ds_if (dt_not (dt_tru (de_own (own__are_parts F) (hr.mono (by decide)) rfl psE_of (da_cons (de_var (pv 1)) (da_cons (de_var (pv 2)) da_nil))))) (dss_cons ds_never
      dss_nil) dss_nil)
      (db_cons (ds_if (dt_not (dt_tru (de_own (own__are_ticks F) (hr.mono (by decide)) rfl psE_of (da_cons (de_var (pv 1)) (da_cons (de_var (pv 3)) da_nil))))) (dss_cons ds_never
      dss_nil) dss_nil)
      (db_cons (ds_if (dt_not (dt_tru (de_own (own_are_indexes F) (hr.mono (by decide)) rfl psE_of (da_cons (de_callB call_len_seq calld_len rfl F.g_len boot_len (da_cons (de_var (pv 2)) da_nil)) (da_cons (de_var (pv 4)) da_nil))))) (dss_cons ds_never
      dss_nil) dss_nil)
      (db_cons (ds_if (dt_not (dt_tru (de_own (own_are_indexes F) (hr.mono (by decide)) rfl psE_of (da_cons (de_callB call_len_seq calld_len rfl F.g_len boot_len (da_cons (de_var (pv 2)) da_nil)) (da_cons (de_var (pv 5)) da_nil))))) (dss_cons ds_never
      dss_nil) dss_nil)
      (db_tail (pss_cons (ps_fld (pv 0) (pv 1) rfl) (pss_cons (ps_fld (pv 0) (pv 2) rfl) (pss_cons (ps_fld (pv 0) (pv 3) rfl) (pss_cons (ps_fld (pv 0) (pv 4) rfl) (pss_cons (ps_fld (pv 0) (pv 5) rfl) pss_nil))))))))))), F.g_Program, F.mkC, kb_all hF fun _ _ _ _ _ _ us ws h1 h2 => match us, ws, h1, h2 with | [_], [_, _, _, _, _], _, _ => rfl⟩
def m__law_made (cP : Addr) : MS := (seqS (retS fun s => bnd (bnd (bnd (sget s 0) fun x => bnd (pur (.str ("sizes" : Str))) fun y => dgetD x y) fun x => bnd (bnd (bnd (sget s 0) fun x => bnd (pur (.str ("parts" : Str))) fun y => dgetD x y) fun x => bnd (bnd (bnd (sget s 0) fun x => bnd (pur (.str ("ticks" : Str))) fun y => dgetD x y) fun x => bnd (bnd (bnd (sget s 0) fun x => bnd (pur (.str ("live" : Str))) fun y => dgetD x y) fun x => bnd (bnd (bnd (sget s 0) fun x => bnd (pur (.str ("skips" : Str))) fun y => dgetD x y) fun x => bnd (pur []) fun r => pur (x :: r)) fun r => pur (x :: r)) fun r => pur (x :: r)) fun r => pur (x :: r)) fun r => pur (x :: r)) (makeD cP nsP (m_init cP)))
    skipS)
def F__law_made (cP : Addr) : List D → M D := fnM 1 1 (m__law_made cP)
theorem sc__law_made : FnScope [("data" : Str)] [("data" : Str)] (defScope s__law_made) := ⟨rfl, rfl, rfl, by decide +kernel, rfl, by decide +kernel, by decide +kernel⟩
theorem ok__law_made (F : Fx P w K mg base) {fd : FuncData} (hF : FnP K ("_law_made" : Str) s__law_made (He.fAd K (("_law_made" : Str), none)) fd) : FnOk P w K mg base (L2.CX P w) 14 (He.fAd K (("_law_made" : Str), none)) fd [("data" : Str)] (spD ⟨K, tabs K, DL.fw w⟩ (F__law_made (He.ga K ("Program" : Str)))) :=
  fn_D (N := [("data" : Str)]) (ps := [("data" : Str)]) (k := 13) hF sc__law_made 1 1 rfl rfl fun A outer s H E hr => by
    apply Exists.intro
    unfold m__law_made
    exact (dss_cons (ds_ret (de_make (own_Program F) (hr.mono (by decide)) rfl psE_of (dk_cons (de_dget (hu1 hr) (de_var (pv 0)) de_str) (dk_cons (de_dget (hu1 hr) (de_var (pv 0)) de_str) (dk_cons (de_dget (hu1 hr) (de_var (pv 0)) de_str) (dk_cons (de_dget (hu1 hr) (de_var (pv 0)) de_str) (dk_cons (de_dget (hu1 hr) (de_var (pv 0)) de_str) dk_nil))))) (by exact fun z => nomatch z)))
      dss_nil)
theorem own__law_made (F : Fx P w K mg base) : Own P w K mg base (tabs K) 14 ("_law_made" : Str) (F__law_made (He.ga K ("Program" : Str))) := by
  obtain ⟨fd, hF⟩ := F.f__law_made
  exact ⟨_, fd, _, ok__law_made F hF, F.g__law_made, hF.kp, hF.bindsN fun _ _ _ _ _ _ us hl => match us, hl with | [_], _ => rfl⟩
def m__law_changes (cP : Addr) : MS := (seqS (retS fun s => bnd (compD (fun s => bnd (bnd (bnd (pur (.int 1)) fun x => bnd (bnd (bnd (sget s 0) fun x => bnd (bnd (pur (.int 3)) fun x => bnd (pur []) fun r => pur (x :: r)) fun r => pur (x :: r)) (F__law_next cP)) fun y => addD x y) fun x => bnd (pur []) fun r => pur (x :: r)) fun ds => match ds with | [d] => rngW [d] | _ => fail) (tgN 2) (fun s => pur true) (fun s => bnd (bnd (bnd (bnd (sget s 0) fun x => bnd (bnd (bnd (bnd (sget s 1) fun x => bnd (pur []) fun r => pur (x :: r)) lenD) fun x => bnd (pur []) fun r => pur (x :: r)) fun r => pur (x :: r)) (F__law_next cP)) fun x => bnd (bnd (bnd (pur (.int 1)) fun x => bnd (bnd (bnd (sget s 0) fun x => bnd (bnd (pur (.int 3)) fun x => bnd (pur []) fun r => pur (x :: r)) fun r => pur (x :: r)) (F__law_next cP)) fun y => addD x y) fun x => bnd (pur []) fun r => pur (x :: r)) fun r => pur (x :: r)) mkT) [2] s) fun ds => pur (.tup ds))
    skipS)
def F__law_changes (cP : Addr) : List D → M D := fnM 2 3 (m__law_changes cP)
theorem sc__law_changes : FnScope [("state" : Str), ("sizes" : Str), ("k" : Str)] [("state" : Str), ("sizes" : Str)] (defScope s__law_changes) := ⟨rfl, rfl, rfl, by decide +kernel, rfl, by decide +kernel, by decide +kernel⟩
theorem ok__law_changes (F : Fx P w K mg base) {fd : FuncData} (hF : FnP K ("_law_changes" : Str) s__law_changes (He.fAd K (("_law_changes" : Str), none)) fd) : FnOk P w K mg base (L2.CX P w) 2 (He.fAd K (("_law_changes" : Str), none)) fd [("state" : Str), ("sizes" : Str)] (spD ⟨K, tabs K, DL.fw w⟩ (F__law_changes (He.ga K ("Program" : Str)))) :=
  fn_D (N := [("state" : Str), ("sizes" : Str), ("k" : Str)]) (ps := [("state" : Str), ("sizes" : Str)]) (k := 1) hF sc__law_changes 2 3 rfl rfl fun A outer s H E hr => by
    apply Exists.intro
    unfold m__law_changes
    exact (dss_cons (ds_ret (de_tupLcB [(("k" : Str), 2)] rfl F.g_tuple rfl sc__law_changes.nd rfl rfl (di_range1 rfl F.g_range (da_cons (de_op op_addA opd_addD de_int (de_own (own__law_next F) (hr.mono (by decide)) rfl psE_of (da_cons (de_var (pv 0)) (da_cons de_int da_nil)))) da_nil)) (fun s H C cl fp => by exact (dg_name (pg_name sc__law_changes.nd rfl (by first | exact Or.inl rfl | exact Or.inr rfl)))) (fun s H C cl fp => by exact dts_nil) (fun s H C cl fp => by exact (de_tup (da_cons (de_own (own__law_next F) (hr.mono (by decide)) rfl psE0 (da_cons (de_var (pv 0)) (da_cons (de_callB call_len_seq calld_len rfl F.g_len boot_len (da_cons (de_var (pv 1)) da_nil)) da_nil))) (da_cons (de_op op_addA opd_addD de_int (de_own (own__law_next F) (hr.mono (by decide)) rfl psE0 (da_cons (de_var (pv 0)) (da_cons de_int da_nil)))) da_nil))))))
      dss_nil)
theorem own__law_changes (F : Fx P w K mg base) : Own P w K mg base (tabs K) 2 ("_law_changes" : Str) (F__law_changes (He.ga K ("Program" : Str))) := by
  obtain ⟨fd, hF⟩ := F.f__law_changes
  exact ⟨_, fd, _, ok__law_changes F hF, F.g__law_changes, hF.kp, hF.bindsN fun _ _ _ _ _ _ us hl => match us, hl with | [_, _], _ => rfl⟩
def m__law_pair (cP : Addr) : MS := (seqS (asgS (fun s => bnd (bnd (sget s 0) fun x => bnd (bnd (bnd (bnd (sget s 1) fun x => bnd (pur []) fun r => pur (x :: r)) lenD) fun x => bnd (pur []) fun r => pur (x :: r)) fun r => pur (x :: r)) (F__law_next cP)) (tgN 3))
    (seqS (retS fun s => bnd (bnd (sget s 3) fun x => bnd (bnd (bnd (compD (fun s => bnd (bnd (bnd (sget s 1) fun x => bnd (sget s 3) fun y => ixD x y) fun x => bnd (pur []) fun r => pur (x :: r)) fun ds => match ds with | [d] => rngW [d] | _ => fail) (tgN 4) (fun s => pur true) (fun s => bnd (bnd (sget s 0) fun x => bnd (bnd (sget s 2) fun x => bnd (pur []) fun r => pur (x :: r)) fun r => pur (x :: r)) (F__law_next cP)) [4] s) fun ds => pur (.tup ds)) fun x => bnd (pur []) fun r => pur (x :: r)) fun r => pur (x :: r)) mkT)
    skipS))
def F__law_pair (cP : Addr) : List D → M D := fnM 3 5 (m__law_pair cP)
theorem sc__law_pair : FnScope [("state" : Str), ("sizes" : Str), ("most" : Str), ("variable" : Str), ("k" : Str)] [("state" : Str), ("sizes" : Str), ("most" : Str)] (defScope s__law_pair) := ⟨rfl, rfl, rfl, by decide +kernel, rfl, by decide +kernel, by decide +kernel⟩
theorem ok__law_pair (F : Fx P w K mg base) {fd : FuncData} (hF : FnP K ("_law_pair" : Str) s__law_pair (He.fAd K (("_law_pair" : Str), none)) fd) : FnOk P w K mg base (L2.CX P w) 2 (He.fAd K (("_law_pair" : Str), none)) fd [("state" : Str), ("sizes" : Str), ("most" : Str)] (spD ⟨K, tabs K, DL.fw w⟩ (F__law_pair (He.ga K ("Program" : Str)))) :=
  fn_D (N := [("state" : Str), ("sizes" : Str), ("most" : Str), ("variable" : Str), ("k" : Str)]) (ps := [("state" : Str), ("sizes" : Str), ("most" : Str)]) (k := 1) hF sc__law_pair 3 5 rfl rfl fun A outer s H E hr => by
    apply Exists.intro
    unfold m__law_pair
    exact (dss_cons (ds_set (i := 3) sc__law_pair.nd rfl (by first | exact Or.inl rfl | exact Or.inr rfl) (de_own (own__law_next F) (hr.mono (by decide)) rfl psE_of (da_cons (de_var (pv 0)) (da_cons (de_callB call_len_seq calld_len rfl F.g_len boot_len (da_cons (de_var (pv 1)) da_nil)) da_nil))))
      (dss_cons (ds_ret (de_tup (da_cons (de_var (pv 3)) (da_cons (de_tupLcB [(("k" : Str), 4)] rfl F.g_tuple rfl sc__law_pair.nd rfl rfl (di_range1 rfl F.g_range (da_cons (de_ix (de_var (pv 1)) (de_var (pv 3)) (fun _ _ => rfl)) da_nil)) (fun s H C cl fp => by exact (dg_name (pg_name sc__law_pair.nd rfl (by first | exact Or.inl rfl | exact Or.inr rfl)))) (fun s H C cl fp => by exact dts_nil) (fun s H C cl fp => by exact (de_own (own__law_next F) (hr.mono (by decide)) rfl psE0 (da_cons (de_var (pv 0)) (da_cons (de_var (pv 2)) da_nil))))) da_nil))))
      dss_nil))
theorem own__law_pair (F : Fx P w K mg base) : Own P w K mg base (tabs K) 2 ("_law_pair" : Str) (F__law_pair (He.ga K ("Program" : Str))) := by
  obtain ⟨fd, hF⟩ := F.f__law_pair
  exact ⟨_, fd, _, ok__law_pair F hF, F.g__law_pair, hF.kp, hF.bindsN fun _ _ _ _ _ _ us hl => match us, hl with | [_, _, _], _ => rfl⟩
def m__law_data (cP : Addr) : MS := (seqS (asgS (fun s => bnd (compD (fun s => bnd (bnd (bnd (pur (.int 1)) fun x => bnd (bnd (bnd (sget s 0) fun x => bnd (bnd (pur (.int 3)) fun x => bnd (pur []) fun r => pur (x :: r)) fun r => pur (x :: r)) (F__law_next cP)) fun y => addD x y) fun x => bnd (pur []) fun r => pur (x :: r)) fun ds => match ds with | [d] => rngW [d] | _ => fail) (tgN 3) (fun s => pur true) (fun s => bnd (pur (.int 2)) fun x => bnd (bnd (bnd (sget s 0) fun x => bnd (bnd (pur (.int 3)) fun x => bnd (pur []) fun r => pur (x :: r)) fun r => pur (x :: r)) (F__law_next cP)) fun y => addD x y) [3] s) fun ds => pur (.tup ds)) (tgN 1))
    (seqS (asgS (fun s => bnd (pur []) mkL) (tgN 2))
    (seqS (forS (fun s => bnd (bnd (bnd (pur (.int 1)) fun x => bnd (bnd (bnd (sget s 0) fun x => bnd (bnd (pur (.int 4)) fun x => bnd (pur []) fun r => pur (x :: r)) fun r => pur (x :: r)) (F__law_next cP)) fun y => addD x y) fun x => bnd (pur []) fun r => pur (x :: r)) fun ds => match ds with | [d] => rngW [d] | _ => fail) (tgN 3) (seqS (asgS (fun s => bnd (bnd (bnd (pur (.int 8)) fun x => bnd (bnd (pur (.int 2)) fun x => bnd (bnd (pur (.int 3)) fun x => bnd (pur []) fun r => pur (x :: r)) fun r => pur (x :: r)) fun r => pur (x :: r)) mkL) fun x => bnd (bnd (bnd (sget s 0) fun x => bnd (bnd (pur (.int 3)) fun x => bnd (pur []) fun r => pur (x :: r)) fun r => pur (x :: r)) (F__law_next cP)) fun y => ixD x y) (tgN 4))
    (seqS (asgS (fun s => bnd (bnd (sget s 0) fun x => bnd (bnd (sget s 1) fun x => bnd (bnd (sget s 4) fun x => bnd (pur []) fun r => pur (x :: r)) fun r => pur (x :: r)) fun r => pur (x :: r)) (F__law_pair cP)) (tgN 5))
    (seqS (asgS (fun s => bnd (bnd (sget s 0) fun x => bnd (bnd (sget s 1) fun x => bnd (bnd (sget s 4) fun x => bnd (pur []) fun r => pur (x :: r)) fun r => pur (x :: r)) fun r => pur (x :: r)) (F__law_pair cP)) (tgN 6))
    (seqS (asgS (fun s => bnd (bnd (bnd (bnd (bnd (sget s 0) fun x => bnd (bnd (pur (.int 4)) fun x => bnd (pur []) fun r => pur (x :: r)) fun r => pur (x :: r)) (F__law_next cP)) fun x => bnd (pur (.int 0)) fun y => eqD x y) asB) fun x => if x then pur .non else bnd (bnd (sget s 0) fun x => bnd (bnd (sget s 1) fun x => bnd (pur []) fun r => pur (x :: r)) fun r => pur (x :: r)) (F__law_changes cP)) (tgN 7))
    (seqS (dropS fun s => bnd (sget s 2) fun x => bnd (tyM "list" x) fun x => bnd (bnd (bnd (bnd (sget s 5) fun x => bnd (bnd (sget s 6) fun x => bnd (bnd (sget s 7) fun x => bnd (pur []) fun r => pur (x :: r)) fun r => pur (x :: r)) fun r => pur (x :: r)) mkT) fun x => bnd (pur []) fun r => pur (x :: r)) (appendD x))
    skipS))))))
    (seqS (asgS (fun s => bnd (compD (fun s => bnd (bnd (bnd (bnd (sget s 0) fun x => bnd (bnd (pur (.int 3)) fun x => bnd (pur []) fun r => pur (x :: r)) fun r => pur (x :: r)) (F__law_next cP)) fun x => bnd (pur []) fun r => pur (x :: r)) fun ds => match ds with | [d] => rngW [d] | _ => fail) (tgN 3) (fun s => pur true) (fun s => bnd (bnd (sget s 0) fun x => bnd (bnd (sget s 1) fun x => bnd (pur []) fun r => pur (x :: r)) fun r => pur (x :: r)) (F__law_changes cP)) [3] s) fun ds => pur (.tup ds)) (tgN 8))
    (seqS (asgS (fun s => bnd (compD (fun s => bnd (bnd (bnd (bnd (sget s 2) fun x => bnd (pur []) fun r => pur (x :: r)) lenD) fun x => bnd (pur []) fun r => pur (x :: r)) fun ds => match ds with | [d] => rngW [d] | _ => fail) (tgN 3) (fun s => bnd (bnd (bnd (bnd (sget s 0) fun x => bnd (bnd (pur (.int 2)) fun x => bnd (pur []) fun r => pur (x :: r)) fun r => pur (x :: r)) (F__law_next cP)) fun x => bnd (pur (.int 0)) fun y => eqD x y) asB) (fun s => sget s 3) [3] s) fun ds => pur (.tup ds)) (tgN 9))
    (seqS (asgS (fun s => bnd (compD (fun s => bnd (bnd (bnd (bnd (sget s 2) fun x => bnd (pur []) fun r => pur (x :: r)) lenD) fun x => bnd (pur []) fun r => pur (x :: r)) fun ds => match ds with | [d] => rngW [d] | _ => fail) (tgN 3) (fun s => bnd (bnd (bnd (bnd (sget s 0) fun x => bnd (bnd (pur (.int 4)) fun x => bnd (pur []) fun r => pur (x :: r)) fun r => pur (x :: r)) (F__law_next cP)) fun x => bnd (pur (.int 0)) fun y => eqD x y) asB) (fun s => sget s 3) [3] s) fun ds => pur (.tup ds)) (tgN 10))
    (seqS (retS fun s => bnd (bnd (sget s 1) fun x => bnd (bnd (bnd (bnd (sget s 2) fun x => bnd (pur []) fun r => pur (x :: r)) tupleD) fun x => bnd (bnd (sget s 8) fun x => bnd (bnd (sget s 9) fun x => bnd (bnd (sget s 10) fun x => bnd (pur []) fun r => pur (x :: r)) fun r => pur (x :: r)) fun r => pur (x :: r)) fun r => pur (x :: r)) fun r => pur (x :: r)) fun ds => if ds.length = ([("sizes" : Str), ("parts" : Str), ("ticks" : Str), ("live" : Str), ("skips" : Str)] : List Str).length then dispD [("sizes" : Str), ("parts" : Str), ("ticks" : Str), ("live" : Str), ("skips" : Str)] ds else fail)
    skipS)))))))
def F__law_data (cP : Addr) : List D → M D := fnM 1 11 (m__law_data cP)
theorem sc__law_data : FnScope [("state" : Str), ("sizes" : Str), ("parts" : Str), ("k" : Str), ("most" : Str), ("look" : Str), ("word" : Str), ("press" : Str), ("ticks" : Str), ("live" : Str), ("skips" : Str)] [("state" : Str)] (defScope s__law_data) := ⟨rfl, rfl, rfl, by decide +kernel, rfl, by decide +kernel, by decide +kernel⟩
theorem ok__law_data (F : Fx P w K mg base) {fd : FuncData} (hF : FnP K ("_law_data" : Str) s__law_data (He.fAd K (("_law_data" : Str), none)) fd) : FnOk P w K mg base (L2.CX P w) 3 (He.fAd K (("_law_data" : Str), none)) fd [("state" : Str)] (spD ⟨K, tabs K, DL.fw w⟩ (F__law_data (He.ga K ("Program" : Str)))) :=
  fn_D (N := [("state" : Str), ("sizes" : Str), ("parts" : Str), ("k" : Str), ("most" : Str), ("look" : Str), ("word" : Str), ("press" : Str), ("ticks" : Str), ("live" : Str), ("skips" : Str)]) (ps := [("state" : Str)]) (k := 2) hF sc__law_data 1 11 rfl rfl fun A outer s H E hr => by
    apply Exists.intro
    unfold m__law_data
    exact (dss_cons (ds_set (i := 1) sc__law_data.nd rfl (by first | exact Or.inl rfl | exact Or.inr rfl) (de_tupLcB [(("k" : Str), 3)] rfl F.g_tuple rfl sc__law_data.nd rfl rfl (di_range1 rfl F.g_range (da_cons (de_op op_addA opd_addD de_int (de_own (own__law_next F) (hr.mono (by decide)) rfl psE_of (da_cons (de_var (pv 0)) (da_cons de_int da_nil)))) da_nil)) (fun s H C cl fp => by exact (dg_name (pg_name sc__law_data.nd rfl (by first | exact Or.inl rfl | exact Or.inr rfl)))) (fun s H C cl fp => by exact dts_nil) (fun s H C cl fp => by exact (de_op op_addA opd_addD de_int (de_own (own__law_next F) (hr.mono (by decide)) rfl psE0 (da_cons (de_var (pv 0)) (da_cons de_int da_nil)))))))
      (dss_cons (ds_set (i := 2) sc__law_data.nd rfl (by first | exact Or.inl rfl | exact Or.inr rfl) (de_lst da_nil))
      (dss_cons (ds_for pown_of rfl (di_range1 rfl F.g_range (da_cons (de_op op_addA opd_addD de_int (de_own (own__law_next F) (hr.mono (by decide)) rfl psE_of (da_cons (de_var (pv 0)) (da_cons de_int da_nil)))) da_nil)) (dg_name (pg_name sc__law_data.nd rfl (by first | exact Or.inl rfl | exact Or.inr rfl))) (dss_cons (ds_set (i := 4) sc__law_data.nd rfl (by first | exact Or.inl rfl | exact Or.inr rfl) (de_ix (de_lst (da_cons de_int (da_cons de_int (da_cons de_int da_nil)))) (de_own (own__law_next F) (hr.mono (by decide)) rfl psE_of (da_cons (de_var (pv 0)) (da_cons de_int da_nil))) (fun _ _ => rfl)))
      (dss_cons (ds_set (i := 5) sc__law_data.nd rfl (by first | exact Or.inl rfl | exact Or.inr rfl) (de_own (own__law_pair F) (hr.mono (by decide)) rfl psE_of (da_cons (de_var (pv 0)) (da_cons (de_var (pv 1)) (da_cons (de_var (pv 4)) da_nil)))))
      (dss_cons (ds_set (i := 6) sc__law_data.nd rfl (by first | exact Or.inl rfl | exact Or.inr rfl) (de_own (own__law_pair F) (hr.mono (by decide)) rfl psE_of (da_cons (de_var (pv 0)) (da_cons (de_var (pv 1)) (da_cons (de_var (pv 4)) da_nil)))))
      (dss_cons (ds_set (i := 7) sc__law_data.nd rfl (by first | exact Or.inl rfl | exact Or.inr rfl) (de_if (dt_cmp (op_eqD (hu64 hr)) opd_eqD (de_own (own__law_next F) (hr.mono (by decide)) rfl psE_of (da_cons (de_var (pv 0)) (da_cons de_int da_nil))) de_int (nomark _)) de_non (de_own (own__law_changes F) (hr.mono (by decide)) rfl psE_of (da_cons (de_var (pv 0)) (da_cons (de_var (pv 1)) da_nil)))))
      (dss_cons (ds_expr (de_bm (T := "list") (.inl rfl) PySem.F.plainAttrs_list PySem.F.slot_list_append PySem.F.type_list_append mt_append mtd_append (de_var (pv 2)) (da_cons (de_tup (da_cons (de_var (pv 5)) (da_cons (de_var (pv 6)) (da_cons (de_var (pv 7)) da_nil)))) da_nil)))
      dss_nil))))))
      (dss_cons (ds_set (i := 8) sc__law_data.nd rfl (by first | exact Or.inl rfl | exact Or.inr rfl) (de_tupLcB [(("k" : Str), 3)] rfl F.g_tuple rfl sc__law_data.nd rfl rfl (di_range1 rfl F.g_range (da_cons (de_own (own__law_next F) (hr.mono (by decide)) rfl psE_of (da_cons (de_var (pv 0)) (da_cons de_int da_nil))) da_nil)) (fun s H C cl fp => by exact (dg_name (pg_name sc__law_data.nd rfl (by first | exact Or.inl rfl | exact Or.inr rfl)))) (fun s H C cl fp => by exact dts_nil) (fun s H C cl fp => by exact (de_own (own__law_changes F) (hr.mono (by decide)) rfl psE0 (da_cons (de_var (pv 0)) (da_cons (de_var (pv 1)) da_nil))))))
      (dss_cons (ds_set (i := 9) sc__law_data.nd rfl (by first | exact Or.inl rfl | exact Or.inr rfl) (de_tupLcB [(("k" : Str), 3)] rfl F.g_tuple rfl sc__law_data.nd rfl rfl (di_range1 rfl F.g_range (da_cons (de_callB call_len_seq calld_len rfl F.g_len boot_len (da_cons (de_var (pv 2)) da_nil)) da_nil)) (fun s H C cl fp => by exact (dg_name (pg_name sc__law_data.nd rfl (by first | exact Or.inl rfl | exact Or.inr rfl)))) (fun s H C cl fp => by exact (dts_one (dt_cmp (op_eqD (hu64 hr)) opd_eqD (de_own (own__law_next F) (hr.mono (by decide)) rfl psE0 (da_cons (de_var (pv 0)) (da_cons de_int da_nil))) de_int (nomark _)))) (fun s H C cl fp => by exact (de_var (pv 3)))))
      (dss_cons (ds_set (i := 10) sc__law_data.nd rfl (by first | exact Or.inl rfl | exact Or.inr rfl) (de_tupLcB [(("k" : Str), 3)] rfl F.g_tuple rfl sc__law_data.nd rfl rfl (di_range1 rfl F.g_range (da_cons (de_callB call_len_seq calld_len rfl F.g_len boot_len (da_cons (de_var (pv 2)) da_nil)) da_nil)) (fun s H C cl fp => by exact (dg_name (pg_name sc__law_data.nd rfl (by first | exact Or.inl rfl | exact Or.inr rfl)))) (fun s H C cl fp => by exact (dts_one (dt_cmp (op_eqD (hu64 hr)) opd_eqD (de_own (own__law_next F) (hr.mono (by decide)) rfl psE0 (da_cons (de_var (pv 0)) (da_cons de_int da_nil))) de_int (nomark _)))) (fun s H C cl fp => by exact (de_var (pv 3)))))
      (dss_cons (ds_ret (de_disp (dp_cons (de_var (pv 1)) (dp_cons (de_callTy call_tuple_of calld_tuple rfl F.g_tuple PyProof.Rows.boot_tuple (da_cons (de_var (pv 2)) da_nil)) (dp_cons (de_var (pv 8)) (dp_cons (de_var (pv 9)) (dp_cons (de_var (pv 10)) dp_nil))))) (by decide) (by decide +kernel)))
      dss_nil)))))))
theorem own__law_data (F : Fx P w K mg base) : Own P w K mg base (tabs K) 3 ("_law_data" : Str) (F__law_data (He.ga K ("Program" : Str))) := by
  obtain ⟨fd, hF⟩ := F.f__law_data
  exact ⟨_, fd, _, ok__law_data F hF, F.g__law_data, hF.kp, hF.bindsN fun _ _ _ _ _ _ us hl => match us, hl with | [_], _ => rfl⟩
def m_law (cP : Addr) : MS := (seqS (asgS (fun s => bnd (bnd (bnd (bnd (sget s 0) fun x => bnd (pur []) fun r => pur (x :: r)) listD) fun x => bnd (bnd (pur (.int 0)) fun x => bnd (bnd (pur (.int 1)) fun x => bnd (pur []) fun r => pur (x :: r)) fun r => pur (x :: r)) fun r => pur (x :: r)) mkL) (tgN 1))
    (seqS (asgS (fun s => bnd (bnd (sget s 1) fun x => bnd (pur []) fun r => pur (x :: r)) (F__law_data cP)) (tgN 2))
    (seqS (asgS (fun s => bnd (bnd (sget s 2) fun x => bnd (pur []) fun r => pur (x :: r)) (F__law_made cP)) (tgN 3))
    (seqS (asgS (fun s => bnd (bnd (bnd (pur (.int 400)) fun x => bnd (bnd (pur (.int 60)) fun x => bnd (bnd (pur (.int 60)) fun x => bnd (bnd (pur (.int 60)) fun x => bnd (bnd (pur (.int 60)) fun x => bnd (bnd (pur (.int 60)) fun x => bnd (pur []) fun r => pur (x :: r)) fun r => pur (x :: r)) fun r => pur (x :: r)) fun r => pur (x :: r)) fun r => pur (x :: r)) fun r => pur (x :: r)) mkL) fun x => bnd (bnd (bnd (sget s 1) fun x => bnd (bnd (pur (.int 6)) fun x => bnd (pur []) fun r => pur (x :: r)) fun r => pur (x :: r)) (F__law_next cP)) fun y => ixD x y) (tgN 4))
    (seqS (asgS (fun s => bnd (pur (.int 1)) fun x => bnd (bnd (bnd (sget s 1) fun x => bnd (bnd (sget s 4) fun x => bnd (pur []) fun r => pur (x :: r)) fun r => pur (x :: r)) (F__law_next cP)) fun y => addD x y) (tgN 5))
    (seqS (asgS (fun s => bnd (bnd (sget s 2) fun x => bnd (bnd (sget s 4) fun x => bnd (pur []) fun r => pur (x :: r)) fun r => pur (x :: r)) (F__law_found cP)) (tgN 6))
    (seqS (asgS (fun s => bnd (bnd (sget s 1) fun x => bnd (bnd (pur (.int 3)) fun x => bnd (pur []) fun r => pur (x :: r)) fun r => pur (x :: r)) (F__law_next cP)) (tgN 7))
    (seqS (ifS (fun s => bnd (bnd (bnd (sget s 7) fun x => bnd (pur (.int 0)) fun y => gtI x y) asB) fun x => if x then bnd (bnd (bnd (bnd (sget s 6) fun x => bnd (pur []) fun r => pur (x :: r)) lenD) fun x => bnd (sget s 4) fun y => leI x y) asB else pur false) (seqS (asgS (fun s => bnd (bnd (pur (.int 1)) fun x => bnd (bnd (bnd (bnd (bnd (bnd (sget s 6) fun x => bnd (pur []) fun r => pur (x :: r)) lenD) fun x => bnd (pur (.int 1)) fun y => addD x y) fun x => bnd (sget s 7) fun y => subI x y) fun x => bnd (pur []) fun r => pur (x :: r)) fun r => pur (x :: r)) maxD) (tgN 5))
    skipS) skipS)
    (seqS (ifS (fun s => bnd (bnd (bnd (bnd (sget s 3) fun x => bnd (bnd (pur (.int 1)) fun x => bnd (pur []) fun r => pur (x :: r)) fun r => pur (x :: r)) (F_reached cP)) fun x => bnd (pur .non) fun y => (isNoneD true) x y) asB) (seqS (retS fun s => pur (.bl false))
    skipS) skipS)
    (seqS (asgS (fun s => bnd (bnd (sget s 3) fun x => bnd (bnd (sget s 5) fun x => bnd (pur []) fun r => pur (x :: r)) fun r => pur (x :: r)) (F_reached cP)) (tgN 8))
    (seqS (ifS (fun s => bnd (bnd (bnd (bnd (sget s 6) fun x => bnd (pur []) fun r => pur (x :: r)) lenD) fun x => bnd (sget s 5) fun y => gtI x y) asB) (seqS (retS fun s => bnd (sget s 8) fun x => bnd (pur .non) fun y => (isNoneD false) x y)
    skipS) skipS)
    (seqS (ifS (fun s => bnd (bnd (bnd (bnd (bnd (sget s 8) fun x => bnd (bnd (pur (.ty "list")) fun x => bnd (pur []) fun r => pur (x :: r)) fun r => pur (x :: r)) (isiD "list")) truM) fun b => pur (!b)) fun x => if x then pur true else bnd (bnd (bnd (sget s 8) fun x => bnd (sget s 6) fun y => neD x y) asB) fun x => if x then pur true else bnd (bnd (bnd (bnd (sget s 3) fun x => bnd (pur []) fun r => pur (x :: r)) (F_start cP)) fun x => bnd (bnd (sget s 6) fun x => bnd (pur (.int 0)) fun y => ixD x y) fun y => neD x y) asB) (seqS (retS fun s => pur (.bl false))
    skipS) skipS)
    (seqS (dropS fun s => bnd (sget s 8) fun x => bnd (tyM "list" x) fun x => bnd (bnd (bnd (sget s 6) fun x => bnd (pur (.int 0)) fun y => ixD x y) fun x => bnd (pur []) fun r => pur (x :: r)) (appendD x))
    (seqS (retS fun s => bnd (bnd (bnd (sget s 3) fun x => bnd (bnd (sget s 5) fun x => bnd (pur []) fun r => pur (x :: r)) fun r => pur (x :: r)) (F_reached cP)) fun x => bnd (sget s 6) fun y => eqD x y)
    skipS))))))))))))))
def F_law (cP : Addr) : List D → M D := fnM 1 9 (m_law cP)
theorem sc_law : FnScope [("script" : Str), ("state" : Str), ("data" : Str), ("program" : Str), ("most" : Str), ("limit" : Str), ("found" : Str), ("kind" : Str), ("told" : Str)] [("script" : Str)] (defScope s_law) := ⟨rfl, rfl, rfl, by decide +kernel, rfl, by decide +kernel, by decide +kernel⟩
theorem ok_law (F : Fx P w K mg base) {fd : FuncData} (hF : FnP K ("law" : Str) s_law (He.fAd K (("law" : Str), none)) fd) : FnOk P w K mg base (L2.CX P w) 15 (He.fAd K (("law" : Str), none)) fd [("script" : Str)] (spD ⟨K, tabs K, DL.fw w⟩ (F_law (He.ga K ("Program" : Str)))) :=
  fn_D (N := [("script" : Str), ("state" : Str), ("data" : Str), ("program" : Str), ("most" : Str), ("limit" : Str), ("found" : Str), ("kind" : Str), ("told" : Str)]) (ps := [("script" : Str)]) (k := 14) hF sc_law 1 9 rfl rfl fun A outer s H E hr => by
    apply Exists.intro
    unfold m_law
    exact (dss_cons (ds_set (i := 1) sc_law.nd rfl (by first | exact Or.inl rfl | exact Or.inr rfl) (de_lst (da_cons (de_callTy call_list_of calld_list rfl F.g_list PyProof.Rows.boot_list (da_cons (de_var (pv 0)) da_nil)) (da_cons de_int (da_cons de_int da_nil)))))
      (dss_cons (ds_set (i := 2) sc_law.nd rfl (by first | exact Or.inl rfl | exact Or.inr rfl) (de_own (own__law_data F) (hr.mono (by decide)) rfl psE_of (da_cons (de_var (pv 1)) da_nil)))
      (dss_cons (ds_set (i := 3) sc_law.nd rfl (by first | exact Or.inl rfl | exact Or.inr rfl) (de_own (own__law_made F) (hr.mono (by decide)) rfl psE_of (da_cons (de_var (pv 2)) da_nil)))
      (dss_cons (ds_set (i := 4) sc_law.nd rfl (by first | exact Or.inl rfl | exact Or.inr rfl) (de_ix (de_lst (da_cons de_int (da_cons de_int (da_cons de_int (da_cons de_int (da_cons de_int (da_cons de_int da_nil))))))) (de_own (own__law_next F) (hr.mono (by decide)) rfl psE_of (da_cons (de_var (pv 1)) (da_cons de_int da_nil))) (fun _ _ => rfl)))
      (dss_cons (ds_set (i := 5) sc_law.nd rfl (by first | exact Or.inl rfl | exact Or.inr rfl) (de_op op_addA opd_addD de_int (de_own (own__law_next F) (hr.mono (by decide)) rfl psE_of (da_cons (de_var (pv 1)) (da_cons (de_var (pv 4)) da_nil)))))
      (dss_cons (ds_set (i := 6) sc_law.nd rfl (by first | exact Or.inl rfl | exact Or.inr rfl) (de_own (own__law_found F) (hr.mono (by decide)) rfl psE_of (da_cons (de_var (pv 2)) (da_cons (de_var (pv 4)) da_nil))))
      (dss_cons (ds_set (i := 7) sc_law.nd rfl (by first | exact Or.inl rfl | exact Or.inr rfl) (de_own (own__law_next F) (hr.mono (by decide)) rfl psE_of (da_cons (de_var (pv 1)) (da_cons de_int da_nil))))
      (dss_cons (ds_if (DW.dt (dw_and (dt_cmp op_gt opd_gtI (de_var (pv 7)) de_int (nomark _)) (dw_and1 (dt_cmp op_le opd_leI (de_callB call_len_seq calld_len rfl F.g_len boot_len (da_cons (de_var (pv 6)) da_nil)) (de_var (pv 4)) (nomark _))))) (dss_cons (ds_set (i := 5) sc_law.nd rfl (by first | exact Or.inl rfl | exact Or.inr rfl) (de_callB (call_max2 rfl) calld_max rfl F.g_max PyProof.Rows.boot_max (da_cons de_int (da_cons (de_op op_sub opd_subI (de_op op_addA opd_addD (de_callB call_len_seq calld_len rfl F.g_len boot_len (da_cons (de_var (pv 6)) da_nil)) de_int) (de_var (pv 7))) da_nil))))
      dss_nil) dss_nil)
      (dss_cons (ds_if (dt_cmp op_notN opd_notN (de_own (own_reached F) (hr.mono (by decide)) rfl psE_of (da_cons (de_var (pv 3)) (da_cons de_int da_nil))) de_non (nomark _)) (dss_cons (ds_ret de_bl)
      dss_nil) dss_nil)
      (dss_cons (ds_set (i := 8) sc_law.nd rfl (by first | exact Or.inl rfl | exact Or.inr rfl) (de_own (own_reached F) (hr.mono (by decide)) rfl psE_of (da_cons (de_var (pv 3)) (da_cons (de_var (pv 5)) da_nil))))
      (dss_cons (ds_if (dt_cmp op_gt opd_gtI (de_callB call_len_seq calld_len rfl F.g_len boot_len (da_cons (de_var (pv 6)) da_nil)) (de_var (pv 5)) (nomark _)) (dss_cons (ds_ret (de_cmp op_isN opd_isN (de_var (pv 8)) de_non (nomark _)))
      dss_nil) dss_nil)
      (dss_cons (ds_if (DW.dt (dw_or (dt_not (dt_tru (de_callB call_isi (calld_isi (T := "list")) rfl F.g_isinstance PyProof.Rows.boot_isinstance (da_cons (de_var (pv 8)) (da_cons (de_ty rfl F.g_list PyProof.Rows.boot_list) da_nil))))) (dw_or (dt_cmp (op_neD (hu64 hr)) opd_neD (de_var (pv 8)) (de_var (pv 6)) (nomark _)) (dw_or1 (dt_cmp (op_neD (hu64 hr)) opd_neD (de_own (own_start F) (hr.mono (by decide)) rfl psE_of (da_cons (de_var (pv 3)) da_nil)) (de_ix (de_var (pv 6)) de_int (fun _ _ => rfl)) (nomark _)))))) (dss_cons (ds_ret de_bl)
      dss_nil) dss_nil)
      (dss_cons (ds_expr (de_bm (T := "list") (.inl rfl) PySem.F.plainAttrs_list PySem.F.slot_list_append PySem.F.type_list_append mt_append mtd_append (de_var (pv 8)) (da_cons (de_ix (de_var (pv 6)) de_int (fun _ _ => rfl)) da_nil)))
      (dss_cons (ds_ret (de_cmp (op_eqD (hu64 hr)) opd_eqD (de_own (own_reached F) (hr.mono (by decide)) rfl psE_of (da_cons (de_var (pv 3)) (da_cons (de_var (pv 5)) da_nil))) (de_var (pv 6)) (nomark _)))
      dss_nil))))))))))))))
end
end
end K06
namespace K06
open PySem PySem.Spec PyProof.Rows L2 DL
open Classical
variable {cP : Addr}
/-- the script's list at i, the state's at j -/
structure Dr (i j : Nat) (g : GS) (ns : List Int) (a b : Int) : Prop where
  hi : g[i]? = some (.lst (ns.map D.int))
  hj : g[j]? = some (.lst [.ref i, .int a, .int b])
  ne : i ≠ j
  b0 : 0 ≤ b
  b1 : b < 2147483647
theorem fnM_of {np k : Nat} {ms : MS} {ds : List D} {g g' : GS} {d : D} (hn : ds.length = np) (h : ms (ds.map some ++ List.replicate (k - np) none) g = .rt d g') (hl : g'.length = g.length) : fnM np k ms ds g = .ok d g' := by
  unfold fnM
  rw [if_pos hn, h]
  show gcR g.length (.ok d g') = _
  unfold gcR
  dsimp only
  rw [← hl, List.take_length]
  split <;> rfl
theorem next_low {i j : Nat} {g : GS} {ns : List Int} {a b m : Int} (h : Dr i j g ns a b) (m0 : 0 < m) (m1 : m < 1073741824) (ha : ¬ a < m) :
    F__law_next cP [.ref j, .int m] g = .ok (.int (a % m)) (g.set j (.lst [.ref i, .int (a / m), .int b])) := by
  obtain ⟨hi, hj, ne, b0, b1⟩ := h
  unfold F__law_next
  refine fnM_of rfl ?_ (by simp)
  simp [m__law_next, seqS, ifS, bndS, bnd, pur, sget, asgS, tgN, subG, setD, retS, skipS, ixD, ltI, iop, iopC, asB, hj, atI0, atI1, atI2, ixN0, ixN1, ixN2, ha, m0, m1, modI, divI, DL.intD]
theorem gset_ne {g : GS} {i j : Nat} {c d : Cell} (h : g[i]? = some d) (ne : j ≠ i) : (g.set j c)[i]? = some d := by rw [List.getElem?_set_ne ne]; exact h
theorem gset_eq {g : GS} {j : Nat} {c d : Cell} (h : g[j]? = some d) : (g.set j c)[j]? = some c := List.getElem?_set_self (List.getElem?_eq_some_iff.mp h).1
theorem next_gen {i j : Nat} {g : GS} {a b m : Int} (h : Dr i j g [] a b) (m0 : 0 < m) (m1 : m < 1073741824) (ha : a < m) :
    ∃ a' b', 0 ≤ b' ∧ b' < 2147483647 ∧ F__law_next cP [.ref j, .int m] g = .ok (.int (a' % m)) (g.set j (.lst [.ref i, .int (a' / m), .int b'])) := by
  obtain ⟨hi, hj, ne, b0, b1⟩ := h
  have hji := fun x : Cell => gset_eq (c := x) hj
  have hb : ((b * 48271 + 11) % 2147483647) < 18446744073709551616 := by omega
  have hb2 : -18446744073709551616 < ((b * 48271 + 11) % 2147483647) := by omega
  refine ⟨(((b * 48271 + 11) % 2147483647) * ((b * 48271 + 11) % 2147483647)) % 1000003, (b * 48271 + 11) % 2147483647, by omega, by omega, ?_⟩
  unfold F__law_next
  refine fnM_of rfl ?_ (by simp)
  generalize hq : (b * 48271 + 11) % 2147483647 = q at *
  simp [m__law_next, seqS, ifS, bndS, bnd, pur, sget, asgS, tgN, subG, setD, retS, skipS, ixD, ltI, iop, iopC, asB, hj, hi, atI0, atI1, atI2, ixN0, ixN1, ixN2, ha, m0, m1, modI, divI, DL.intD, lenD, gtI, mulI, addD, hq, hji, hb, hb2]
theorem next_cell {i j : Nat} {g : GS} {a b m c : Int} {ns : List Int} (h : Dr i j g (c :: ns) a b) (m0 : 0 < m) (m1 : m < 1073741824) (ha : a < m) :
    ∃ a' b', 0 ≤ b' ∧ b' < 2147483647 ∧ F__law_next cP [.ref j, .int m] g = .ok (.int (a' % m)) ((g.set i (.lst (ns.map D.int))).set j (.lst [.ref i, .int (a' / m), .int b'])) := by
  obtain ⟨hi, hj, ne, b0, b1⟩ := h
  have h1 := gset_ne (c := .lst (ns.map D.int)) hj ne
  have h2 : (0 : Int) < (ns.length : Int) + 1 := by omega
  have h3 : seqIndex? 0 (ns.length + 1) = some 0 := by
    unfold seqIndex?
    simp
  have tail : ∀ v : Int, (b * 69621 + v) % 2147483647 < 2147483647 ∧ 0 ≤ (b * 69621 + v) % 2147483647 := fun v => by omega
  have fin : ∀ v : Int, (if 0 ≤ c then 2 * c else -2 * c - 1) = v → F__law_next cP [.ref j, .int m] g = .ok (.int (v % m)) ((g.set i (.lst (ns.map D.int))).set j (.lst [.ref i, .int (v / m), .int ((b * 69621 + v) % 2147483647)])) := by
    intro v hv
    have h4 := fun x : Cell => gset_eq (c := x) h1
    unfold F__law_next
    refine fnM_of rfl ?_ (by simp)
    by_cases hc : 0 ≤ c
    · rw [if_pos hc] at hv
      subst hv
      simp [m__law_next, seqS, ifS, bndS, bnd, pur, sget, asgS, tgN, subG, setD, retS, skipS, ixD, ltI, iop, iopC, asB, hj, hi, atI0, atI1, atI2, ixN0, ixN1, ixN2, ha, m0, m1, modI, divI, DL.intD, lenD, gtI, geI, subI, mulI, addD, tyM, tyD, popAtD, h1, h2, h3, h4, hc]
    · rw [if_neg hc] at hv
      subst hv
      simp [m__law_next, seqS, ifS, bndS, bnd, pur, sget, asgS, tgN, subG, setD, retS, skipS, ixD, ltI, iop, iopC, asB, hj, hi, atI0, atI1, atI2, ixN0, ixN1, ixN2, ha, m0, m1, modI, divI, DL.intD, lenD, gtI, geI, subI, mulI, addD, negI, tyM, tyD, popAtD, h1, h2, h3, h4, hc]
  exact ⟨_, _, (tail _).2, (tail _).1, fin _ rfl⟩
/-- a draw below m -/
theorem next_ok {i j : Nat} {g : GS} {ns : List Int} {a b m : Int} (h : Dr i j g ns a b) (m0 : 0 < m) (m1 : m < 1073741824) :
    ∃ r g' ns' a' b', F__law_next cP [.ref j, .int m] g = .ok (.int r) g' ∧ 0 ≤ r ∧ r < m ∧ Dr i j g' ns' a' b' ∧ g'.length = g.length ∧ (∀ k, k ≠ i → k ≠ j → g'[k]? = g[k]?) := by
  have pos : ∀ x : Int, 0 ≤ x % m ∧ x % m < m := fun x => ⟨Int.emod_nonneg _ (by omega), Int.emod_lt_of_pos _ m0⟩
  obtain ⟨hi, hj, ne, b0, b1⟩ := id h
  by_cases ha : a < m
  · cases ns with
    | nil =>
      obtain ⟨a', b', q0, q1, e⟩ := next_gen h m0 m1 ha
      exact ⟨_, _, [], _, _, e, (pos _).1, (pos _).2, ⟨gset_ne hi ne.symm, gset_eq hj, ne, q0, q1⟩, by simp, fun k k1 k2 => by rw [List.getElem?_set_ne (Ne.symm k2)]⟩
    | cons c ns =>
      obtain ⟨a', b', q0, q1, e⟩ := next_cell h m0 m1 ha
      exact ⟨_, _, ns, _, _, e, (pos _).1, (pos _).2, ⟨gset_ne (gset_eq hi) ne.symm, gset_eq (gset_ne hj ne), ne, q0, q1⟩, by simp, fun k k1 k2 => by rw [List.getElem?_set_ne (Ne.symm k2), List.getElem?_set_ne (Ne.symm k1)]⟩
  · exact ⟨_, _, ns, _, _, next_low h m0 m1 ha, (pos _).1, (pos _).2, ⟨gset_ne hi ne.symm, gset_eq hj, ne, b0, b1⟩, by simp, fun k k1 k2 => by rw [List.getElem?_set_ne (Ne.symm k2)]⟩
end K06
namespace K06
open PySem PySem.Spec PyProof.Rows L2 DL
open Classical
variable {cP : Addr}
def Drw (i j : Nat) (g : GS) : Prop := ∃ ns a b, Dr i j g ns a b
structure Kp (i j : Nat) (g g' : GS) : Prop where
  le : g.length ≤ g'.length
  get : ∀ k, k < g.length → k ≠ i → k ≠ j → g'[k]? = g[k]?
structure Go (i j : Nat) (g g' : GS) : Prop where
  d : Drw i j g'
  k : Kp i j g g'
theorem Drw.lt {i j : Nat} {g : GS} (h : Drw i j g) : i < g.length ∧ j < g.length := by
  obtain ⟨ns, a, b, h⟩ := h
  exact ⟨(List.getElem?_eq_some_iff.mp h.hi).1, (List.getElem?_eq_some_iff.mp h.hj).1⟩
theorem Go.refl {i j : Nat} {g : GS} (h : Drw i j g) : Go i j g g := ⟨h, Nat.le_refl _, fun _ _ _ _ => rfl⟩
theorem Go.trans {i j : Nat} {g g1 g2 : GS} (h : Go i j g g1) (h2 : Go i j g1 g2) : Go i j g g2 :=
  ⟨h2.d, Nat.le_trans h.k.le h2.k.le, fun k hk a b => (h2.k.get k (Nat.lt_of_lt_of_le hk h.k.le) a b).trans (h.k.get k hk a b)⟩
theorem Drw.app {i j : Nat} {g : GS} (h : Drw i j g) (ex : GS) : Drw i j (g ++ ex) := by
  obtain ⟨l1, l2⟩ := h.lt
  obtain ⟨ns, a, b, h⟩ := h
  exact ⟨ns, a, b, by rw [List.getElem?_append_left l1]; exact h.hi, by rw [List.getElem?_append_left l2]; exact h.hj, h.ne, h.b0, h.b1⟩
theorem Go.app {i j : Nat} {g g' : GS} (h : Go i j g g') (ex : GS) : Go i j g (g' ++ ex) :=
  ⟨h.d.app ex, by rw [List.length_append]; exact Nat.le_trans h.k.le (Nat.le_add_right _ _), fun k hk a b => by
    rw [List.getElem?_append_left (Nat.lt_of_lt_of_le hk h.k.le)]
    exact h.k.get k hk a b⟩
theorem Go.take {i j : Nat} {g g' : GS} (h0 : Drw i j g) (h : Go i j g g') : Go i j g (g'.take g.length) := by
  obtain ⟨l1, l2⟩ := h0.lt
  obtain ⟨⟨ns, a, b, d⟩, k⟩ := h
  have hk := k.le
  refine ⟨⟨ns, a, b, by rw [List.getElem?_take_of_lt l1]; exact d.hi, by rw [List.getElem?_take_of_lt l2]; exact d.hj, d.ne, d.b0, d.b1⟩, by rw [List.length_take]; omega, fun q hq x y => ?_⟩
  rw [List.getElem?_take_of_lt hq]
  exact k.get q hq x y
theorem Go.set {i j n : Nat} {g g' : GS} {c : Cell} (h : Go i j g g') (hn : g.length ≤ n) : Go i j g (g'.set n c) ∨ n = i ∨ n = j := by
  by_cases h1 : n = i
  · exact .inr (.inl h1)
  by_cases h2 : n = j
  · exact .inr (.inr h2)
  obtain ⟨⟨ns, a, b, d⟩, k⟩ := h
  refine .inl ⟨⟨ns, a, b, by rw [List.getElem?_set_ne h1]; exact d.hi, by rw [List.getElem?_set_ne h2]; exact d.hj, d.ne, d.b0, d.b1⟩, by rw [List.length_set]; exact k.le, fun q hq x y => ?_⟩
  rw [List.getElem?_set_ne (by omega)]
  exact k.get q hq x y
theorem next_go {i j : Nat} {g : GS} {m : Int} {P : D → GS → Prop} (h : Drw i j g) (m0 : 0 < m) (m1 : m < 1073741824) (k : ∀ r g', 0 ≤ r → r < m → Go i j g g' → P (.int r) g') : okM (F__law_next cP [.ref j, .int m] g) P := by
  obtain ⟨ns, a, b, h⟩ := h
  obtain ⟨r, g', ns', a', b', e, r0, r1, d, hl, hk⟩ := next_ok (cP := cP) h m0 m1
  exact okM.of e (k r g' r0 r1 ⟨⟨ns', a', b', d⟩, Nat.le_of_eq hl.symm, fun k _ x y => hk k x y⟩)
/-- a def that draws -/
theorem fn_go {i j np k : Nat} {ms : MS} {ds : List D} {g : GS} {P : D → GS → Prop} (hn : ds.length = np) (h0 : Drw i j g)
    (h : okS (ms (ds.map some ++ List.replicate (k - np) none) g) (fun _ _ => False) (fun d g' => Go i j g g' ∧ ∀ g'', Go i j g g'' → P d g'') (fun _ _ => False) fun _ _ => False) : okM (fnM np k ms ds g) P := by
  refine fn_wp hn (h.mono (fun _ _ z => z.elim) (fun d g' z => ?_) (fun _ _ z => z) fun _ _ z => z)
  exact ⟨z.2 _ z.1, z.2 _ (z.1.take h0)⟩
/-- a def that draws nothing, lists of its own aside -/
theorem comp_go {α β : Type} {i j : Nat} {w : Itm} {tg : D → Sl → M Sl} {cond : Sl → M Bool} {elt : Sl → M D} {s : Sl} (hok : ∀ g, w.ok g) (e : α → D) (f : β → D) (Ok : α → β → Prop) : ∀ (xs : List α) (g : GS), Drw i j g →
    (∀ x ∈ xs, ∀ g', Go i j g g' → ∃ s1, tg (e x) s g' = .ok s1 g' ∧ cond s1 g' = .ok true g' ∧ okM (elt s1 g') fun d g2 => ∃ y, d = f y ∧ Ok x y ∧ Go i j g' g2) →
    okM (compM w tg cond elt s (xs.map e) g) fun ds g' => ∃ ys : List β, ds = ys.map f ∧ ys.length = xs.length ∧ (∀ y ∈ ys, ∃ x ∈ xs, Ok x y) ∧ Go i j g g'
  | [], g, hd, h => by
    rw [List.map_nil]
    unfold compM
    rw [if_pos (hok g)]
    exact ⟨[], rfl, rfl, fun y hy => (by cases hy), Go.refl hd⟩
  | x :: xs, g, hd, h => by
    obtain ⟨s1, e1, e2, e3⟩ := h x List.mem_cons_self g (Go.refl hd)
    obtain ⟨d, g2, e4, y, rfl, oy, go⟩ := e3.out
    obtain ⟨ds, g3, e5, ys, rfl, hl, hy, go2⟩ := (comp_go hok e f Ok xs g2 go.d fun x' hx' g' go' => h x' (List.mem_cons_of_mem _ hx') g' (go.trans go')).out
    rw [List.map_cons]
    unfold compM
    rw [if_pos (hok g), e1]
    dsimp only
    rw [e2]
    dsimp only
    rw [e4]
    dsimp only
    rw [e5]
    refine ⟨y :: ys, rfl, by rw [List.length_cons, List.length_cons, hl], fun z hz => ?_, go.trans go2⟩
    rcases List.mem_cons.mp hz with rfl | hz
    · exact ⟨x, List.mem_cons_self, oy⟩
    · obtain ⟨x', hx', o⟩ := hy z hz
      exact ⟨x', List.mem_cons_of_mem _ hx', o⟩
/-- items that are kept by a drawn test -/
theorem comp_goF {α : Type} {i j : Nat} {w : Itm} {tg : D → Sl → M Sl} {cond : Sl → M Bool} {elt : Sl → M D} {s : Sl} (hok : ∀ g, w.ok g) (e : α → D) : ∀ (xs : List α) (g : GS), Drw i j g →
    (∀ x ∈ xs, ∀ g', Go i j g g' → ∃ s1, tg (e x) s g' = .ok s1 g' ∧ okM (cond s1 g') (fun _ g2 => Go i j g' g2) ∧ ∀ g2, elt s1 g2 = .ok (e x) g2) →
    okM (compM w tg cond elt s (xs.map e) g) fun ds g' => ∃ ys : List α, ds = ys.map e ∧ ys.Sublist xs ∧ Go i j g g'
  | [], g, hd, h => by
    rw [List.map_nil]
    unfold compM
    rw [if_pos (hok g)]
    exact ⟨[], rfl, List.Sublist.refl _, Go.refl hd⟩
  | x :: xs, g, hd, h => by
    obtain ⟨s1, e1, e2, e3⟩ := h x List.mem_cons_self g (Go.refl hd)
    obtain ⟨b, g2, e4, go⟩ := e2.out
    obtain ⟨ds, g3, e5, ys, rfl, hl, go2⟩ := (comp_goF hok e xs g2 go.d fun x' hx' g' go' => h x' (List.mem_cons_of_mem _ hx') g' (go.trans go')).out
    rw [List.map_cons]
    unfold compM
    rw [if_pos (hok g), e1]
    dsimp only
    rw [e4]
    cases b with
    | true =>
      dsimp only
      rw [e3]
      dsimp only
      rw [e5]
      exact ⟨x :: ys, rfl, hl.cons₂ _, go.trans go2⟩
    | false =>
      dsimp only
      rw [e5]
      exact ⟨ys, rfl, hl.cons _, go.trans go2⟩
abbrev Ch : Type := List (Int × Int)
abbrev Pr : Type := Int × List Int
structure Part where
  look : Pr
  word : Pr
  press : Option Ch
structure Prg where
  sizes : List Int
  parts : List Part
  ticks : List Ch
  live : List Int
  skips : List Int
def mD (m : Int × Int) : D := .tup [.int m.1, .int m.2]
def dI (l : List Int) : D := .tup (l.map D.int)
def prD (p : Pr) : D := .tup [.int p.1, dI p.2]
def chD (c : Ch) : D := .tup (c.map mD)
def poD : Option Ch → D
  | none => .non
  | some c => chD c
def partD (p : Part) : D := .tup [prD p.look, prD p.word, poD p.press]
def OkSizes (l : List Int) : Prop := 1 ≤ l.length ∧ l.length ≤ 3 ∧ ∀ x ∈ l, 2 ≤ x ∧ x ≤ 4
def OkPr (sizes : List Int) (p : Pr) : Prop := (∃ v : Nat, p.1 = v ∧ sizes[v]? = some (p.2.length : Int)) ∧ ∀ x ∈ p.2, 0 ≤ x ∧ x ≤ 7
def OkCh (sizes : List Int) (c : Ch) : Prop := 1 ≤ c.length ∧ c.length ≤ 3 ∧ ∀ m ∈ c, (0 ≤ m.1 ∧ m.1 < sizes.length) ∧ 1 ≤ m.2 ∧ m.2 ≤ 3
def OkPart (sizes : List Int) (p : Part) : Prop := OkPr sizes p.look ∧ OkPr sizes p.word ∧ ∀ c, p.press = some c → OkCh sizes c
structure OkPrg (p : Prg) : Prop where
  sizes : OkSizes p.sizes
  np : 1 ≤ p.parts.length ∧ p.parts.length ≤ 4
  parts : ∀ x ∈ p.parts, OkPart p.sizes x
  nt : p.ticks.length ≤ 2
  ticks : ∀ c ∈ p.ticks, OkCh p.sizes c
  live : p.live.Pairwise (· < ·) ∧ ∀ x ∈ p.live, 0 ≤ x ∧ x < p.parts.length
  skips : p.skips.Pairwise (· < ·) ∧ ∀ x ∈ p.skips, 0 ≤ x ∧ x < p.parts.length
theorem rng_map {n : Int} (h : 0 ≤ n) : rngItems 0 n = (List.range n.toNat).map fun k => D.int (k : Nat) := by
  unfold rngItems
  rw [Int.sub_zero]
  apply List.map_congr_left
  intro a _
  rw [Int.zero_add]
theorem changes_go {i j : Nat} {g : GS} {sizes : List Int} {P : D → GS → Prop} (h0 : Drw i j g) (hs : OkSizes sizes) (k : ∀ c g', OkCh sizes c → Go i j g g' → P (chD c) g') : okM (F__law_changes cP [.ref j, dI sizes] g) P := by
  refine fn_go rfl h0 ?_
  show okS (m__law_changes cP [some (.ref j), some (dI sizes), none] g) _ _ _ _
  simp only [m__law_changes, v_seq, v_ret, w_bnd, w_pur, x_get, List.getElem?_cons_zero, List.getElem?_cons_succ, compD]
  refine next_go h0 (by decide) (by decide) fun r g1 r0 r1 go1 => ?_
  rw [w_addi, x_rng (by omega) (by omega)]
  rw [rng_map (show 0 ≤ 1 + r by omega)]
  refine (comp_go (i := i) (j := j) (fun _ => by exact True.intro) (fun k : Nat => D.int (k : Int)) mD (fun _ m => (0 ≤ m.1 ∧ m.1 < sizes.length) ∧ 1 ≤ m.2 ∧ m.2 ≤ 3) _ g1 go1.d fun x hx g2 go2 => ⟨[some (.ref j), some (dI sizes), some (.int x)], rfl, rfl, ?_⟩).mono fun ds g3 ⟨ys, e, hl, hy, go3⟩ => ?_
  · simp only [w_bnd, w_pur, x_get, List.getElem?_cons_zero, List.getElem?_cons_succ, dI, w_lenT]
    have hl := hs.1
    have hl2 := hs.2.1
    refine next_go go2.d (by rw [List.length_map]; omega) (by rw [List.length_map]; omega) fun v g4 v0 v1 go4 => ?_
    rw [List.length_map] at v1
    refine next_go go4.d (by decide) (by decide) fun a g5 a0 a1 go5 => ?_
    rw [w_addi, w_mkT (by simp)]
    exact ⟨(v, 1 + a), rfl, ⟨⟨v0, v1⟩, by show 1 ≤ 1 + a; omega, by show 1 + a ≤ 3; omega⟩, go4.trans go5⟩
  · subst e
    rw [List.length_range] at hl
    rw [if_pos (by rw [List.length_map, hl]; exact Nat.le_trans (show (1 + r).toNat ≤ 10 by omega) (by decide)), w_pur]
    exact ⟨go1.trans go3, fun g'' go => k ys g'' ⟨by omega, by omega, fun m hm => let ⟨_, _, o⟩ := hy m hm; o⟩ go⟩
end K06
namespace K06
open PySem PySem.Spec PyProof.Rows L2 DL
open Classical
variable {cP : Addr}
theorem seq_wp {m1 m2 : MS} {s : Sl} {g : GS} {Pn : Sl → GS → Prop} {Pr : D → GS → Prop} {Pb Pc : Sl → GS → Prop} (Mid : Sl → GS → Prop) (h1 : okS (m1 s g) Mid Pr Pb Pc) (h2 : ∀ s g, Mid s g → okS (m2 s g) Pn Pr Pb Pc) : okS (seqS m1 m2 s g) Pn Pr Pb Pc :=
  v_seq.mpr (h1.mono h2 (fun _ _ h => h) (fun _ _ h => h) fun _ _ h => h)
theorem pair_go {i j : Nat} {g : GS} {sizes : List Int} {most : Int} {P : D → GS → Prop} (h0 : Drw i j g) (hs : OkSizes sizes) (m0 : 0 < most) (m1 : most ≤ 8) (k : ∀ p g', OkPr sizes p → Go i j g g' → P (prD p) g') : okM (F__law_pair cP [.ref j, dI sizes, .int most] g) P := by
  refine fn_go rfl h0 ?_
  show okS (m__law_pair cP [some (.ref j), some (dI sizes), some (.int most), none, none] g) _ _ _ _
  have hl := hs.1
  have hl2 := hs.2.1
  unfold m__law_pair
  rw [v_seq]
  simp only [v_asg, v_if, v_ret, v_drop, v_for, v_skip, w_bnd, w_pur, x_get, w_tgN, w_subG, w_asB, w_asI, w_if, w_truB, List.getElem?_cons_zero, List.getElem?_cons_succ, List.set_cons_zero, List.set_cons_succ, dI, w_lenT]
  refine next_go h0 (by rw [List.length_map]; omega) (by rw [List.length_map]; omega) fun v g1 v0 v1 go1 => ?_
  rw [List.length_map] at v1
  obtain ⟨v, rfl⟩ := Int.eq_ofNat_of_zero_le v0
  have hv : v < sizes.length := by omega
  have hat : atI (sizes.map D.int) (v : Int) = some (.int sizes[v]) := DL.atI_nat (by rw [List.getElem?_map, List.getElem?_eq_getElem hv]; rfl)
  have hsz := hs.2.2 sizes[v] (List.getElem_mem hv)
  rw [v_seq]
  simp only [v_asg, v_if, v_ret, v_drop, v_for, v_skip, w_bnd, w_pur, x_get, w_tgN, w_subG, w_asB, w_asI, w_if, w_truB, List.getElem?_cons_zero, List.getElem?_cons_succ, List.set_cons_zero, List.set_cons_succ, compD, x_ixT, Int.ofNat_eq_natCast, hat]
  rw [x_rng (by omega) (by omega)]
  rw [rng_map (show 0 ≤ sizes[v] by omega)]
  refine (comp_go (i := i) (j := j) (fun _ => by exact True.intro) (fun k : Nat => D.int (k : Int)) D.int (fun _ x => 0 ≤ x ∧ x < most) _ g1 go1.d fun x hx g2 go2 => ⟨[some (.ref j), some (.tup (sizes.map D.int)), some (.int most), some (.int v), some (.int x)], rfl, rfl, ?_⟩).mono fun ds g3 ⟨ys, e, hl, hy, go3⟩ => ?_
  · simp only [v_asg, v_if, v_ret, v_drop, v_for, v_skip, w_bnd, w_pur, x_get, w_tgN, w_subG, w_asB, w_asI, w_if, w_truB, List.getElem?_cons_zero, List.getElem?_cons_succ, List.set_cons_zero, List.set_cons_succ]
    exact next_go go2.d m0 (by omega) fun a g5 a0 a1 go5 => ⟨a, rfl, ⟨a0, a1⟩, go5⟩
  · subst e
    rw [List.length_range] at hl
    rw [if_pos (by rw [List.length_map, hl]; exact Nat.le_trans (show sizes[v].toNat ≤ 10 by omega) (by decide)), w_pur, w_mkT (by simp)]
    refine ⟨go1.trans go3, fun g'' go => k (v, ys) g'' ⟨⟨v, rfl, ?_⟩, fun x hx => ?_⟩ go⟩
    · rw [List.getElem?_eq_getElem hv, hl]
      show some sizes[v] = some ((sizes[v].toNat : Nat) : Int)
      congr 1
      omega
    · obtain ⟨_, _, o⟩ := hy x hx
      omega
theorem x_tyL {n : Nat} {ds : List D} {g : GS} {P : D → GS → Prop} (h : g[n]? = some (.lst ds)) : okM (tyM "list" (.ref n) g) P ↔ P (.ref n) g := by
  have e : tyD (.ref n) g = some "list" := by
    unfold tyD
    dsimp only
    rw [h]
  unfold tyM
  rw [if_pos e]; rfl
theorem x_app {n : Nat} {ds : List D} {d : D} {g : GS} {P : D → GS → Prop} (h : g[n]? = some (.lst ds)) (hl : ds.length < 1000000) : okM (appendD (.ref n) [d] g) P ↔ P .non (g.set n (.lst (ds ++ [d]))) := by
  unfold appendD
  dsimp only
  rw [h]
  dsimp only
  rw [if_pos (show ds.length < LIM from hl)]; rfl
/-- a def whose answer may be a list of its own -/
theorem fn_ref {np k : Nat} {ms : MS} {ds : List D} {g : GS} {P : D → GS → Prop} (hn : ds.length = np) (h : okS (ms (ds.map some ++ List.replicate (k - np) none) g) (fun _ _ => False) (fun d g' => P d g' ∧ d.und g.length = false) (fun _ _ => False) fun _ _ => False) : okM (fnM np k ms ds g) P := by
  unfold fnM
  rw [if_pos hn]
  generalize ms (ds.map some ++ List.replicate (k - np) none) g = r at h ⊢
  cases r with
  | nx s g' => exact h.elim
  | rt d g' =>
    show okM (gcR g.length (.ok d g')) P
    unfold gcR
    dsimp only
    rw [if_neg (by rw [h.2]; exact Bool.false_ne_true)]
    exact h.1
  | bk _ _ => exact h.elim
  | ct _ _ => exact h.elim
  | bad => exact h.elim
  | ex _ _ _ => exact h.elim
def prgV (p : Prg) : List D := [dI p.sizes, .tup (p.parts.map partD), .tup (p.ticks.map chD), dI p.live, dI p.skips]
def prgK (p : Prg) : List (Key × D) := (nsP.map Sum.inr).zip (prgV p)
theorem asc_sub {n : Nat} {ys : List Nat} (h : ys.Sublist (List.range n)) : (ys.map (fun k : Nat => (k : Int))).Pairwise (· < ·) ∧ ∀ x ∈ ys.map (fun k : Nat => (k : Int)), 0 ≤ x ∧ x < (n : Int) := by
  refine ⟨?_, fun x hx => ?_⟩
  · rw [List.pairwise_map]
    have := List.Pairwise.sublist h (List.pairwise_lt_range (n := n))
    exact this.imp fun h => by omega
  · obtain ⟨k, hk, rfl⟩ := List.mem_map.mp hx
    have := List.mem_range.mp (h.subset hk)
    omega
theorem data_go {i j : Nat} {g : GS} {P : D → GS → Prop} (h0 : Drw i j g) (k : ∀ p g' n, OkPrg p → Go i j g g' → g'[n]? = some (.dic (prgK p)) → P (.ref n) g') : okM (F__law_data cP [.ref j] g) P := by
  obtain ⟨li, lj⟩ := h0.lt
  refine fn_ref rfl ?_
  show okS (m__law_data cP [some (.ref j), none, none, none, none, none, none, none, none, none, none] g) _ _ _ _
  unfold m__law_data
  rw [v_seq]
  simp only [v_asg, v_if, v_ret, v_drop, v_for, v_skip, w_bnd, w_pur, x_get, w_tgN, w_subG, w_asB, w_asI, w_if, w_truB, List.getElem?_cons_zero, List.getElem?_cons_succ, List.set_cons_zero, List.set_cons_succ, compD]
  -- sizes
  refine next_go h0 (by decide) (by decide) fun r g1 r0 r1 go1 => ?_
  rw [w_addi, x_rng (by omega) (by omega), rng_map (show 0 ≤ 1 + r by omega)]
  refine (comp_go (i := i) (j := j) (fun _ => by exact True.intro) (fun k : Nat => D.int (k : Int)) D.int (fun _ x => 2 ≤ x ∧ x ≤ 4) _ g1 go1.d fun x hx g2 go2 => ⟨[some (.ref j), none, none, some (.int x), none, none, none, none, none, none, none], rfl, rfl, ?_⟩).mono fun ds g3 ⟨sizes, e, hl, hy, go3⟩ => ?_
  · simp only [v_asg, v_if, v_ret, v_drop, v_for, v_skip, w_bnd, w_pur, x_get, w_tgN, w_subG, w_asB, w_asI, w_if, w_truB, List.getElem?_cons_zero, List.getElem?_cons_succ, List.set_cons_zero, List.set_cons_succ]
    refine next_go go2.d (by decide) (by decide) fun a g5 a0 a1 go5 => ?_
    rw [w_addi]
    exact ⟨2 + a, rfl, ⟨by omega, by omega⟩, go5⟩
  subst e
  rw [List.length_range] at hl
  have hs : OkSizes sizes := ⟨by omega, by omega, fun x hx => let ⟨_, _, o⟩ := hy x hx; o⟩
  rw [if_pos (by rw [List.length_map, hl]; exact Nat.le_trans (show (1 + r).toNat ≤ 10 by omega) (by decide)), w_pur, v_seq]
  simp only [v_asg, v_if, v_ret, v_drop, v_for, v_skip, w_bnd, w_pur, x_get, w_tgN, w_subG, w_asB, w_asI, w_if, w_truB, List.getElem?_cons_zero, List.getElem?_cons_succ, List.set_cons_zero, List.set_cons_succ]
  rw [w_mkL (by simp), v_seq]
  simp only [v_asg, v_if, v_ret, v_drop, v_for, v_skip, w_bnd, w_pur, x_get, w_tgN, w_subG, w_asB, w_asI, w_if, w_truB, List.getElem?_cons_zero, List.getElem?_cons_succ, List.set_cons_zero, List.set_cons_succ]
  have go4 := (go1.trans go3).app [Cell.lst []]
  have hc : (g3 ++ [Cell.lst []])[g3.length]? = some (.lst []) := by simp
  have lc : g.length ≤ g3.length := (go1.trans go3).k.le
  generalize hcn : g3.length = c at hc lc ⊢
  generalize g3 ++ [Cell.lst []] = g4 at hc go4 ⊢
  -- parts
  refine next_go go4.d (by decide) (by decide) fun np g5 p0 p1 go5 => ?_
  have lc4 : c < g4.length := (List.getElem?_eq_some_iff.mp hc).1
  have ci : c ≠ i := by omega
  have cj : c ≠ j := by omega
  rw [w_addi, x_rng (by omega) (by omega)]
  refine loop_wp (fun k s g' => ∃ v3 v4 v5 v6 v7 ps, s = [some (.ref j), some (.tup (sizes.map D.int)), some (.ref c), v3, v4, v5, v6, v7, none, none, none] ∧ Go i j g g' ∧ g'[c]? = some (.lst (ps.map partD)) ∧ ps.length = k ∧ ∀ x ∈ ps, OkPart sizes x) _
    ⟨none, none, none, none, none, [], rfl, go4.trans go5, by rw [go5.k.get c lc4 ci cj]; exact hc, rfl, fun x hx => by cases hx⟩ (fun _ _ _ _ _ => True.intro) ?_ ?_
  · rintro kk x s g6 hx ⟨v3, v4, v5, v6, v7, ps, rfl, go6, hps, hlen, hok⟩
    have lc6 : c < g6.length := (List.getElem?_eq_some_iff.mp hps).1
    rw [w_tgN, v_seq]
    simp only [v_asg, v_if, v_ret, v_drop, v_for, v_skip, w_bnd, w_pur, x_get, w_tgN, w_subG, w_asB, w_asI, w_if, w_truB, List.getElem?_cons_zero, List.getElem?_cons_succ, List.set_cons_zero, List.set_cons_succ]
    rw [w_mkL (by simp)]
    have go7 := go6.app [Cell.lst [.int 8, .int 2, .int 3]]
    have hps7 : (g6 ++ [Cell.lst [.int 8, .int 2, .int 3]])[c]? = some (.lst (ps.map partD)) := by rw [List.getElem?_append_left lc6]; exact hps
    have hm7 : (g6 ++ [Cell.lst [.int 8, .int 2, .int 3]])[g6.length]? = some (.lst [.int 8, .int 2, .int 3]) := by simp
    have l6 : g.length ≤ g6.length := go6.k.le
    refine next_go go7.d (by decide) (by decide) fun a g8 a0 a1 go8 => ?_
    have hm8 : g8[g6.length]? = some (.lst [.int 8, .int 2, .int 3]) := by rw [go8.k.get g6.length (by simp) (by omega) (by omega)]; exact hm7
    have hps8 : g8[c]? = some (.lst (ps.map partD)) := by rw [go8.k.get c (by simp; omega) ci cj]; exact hps7
    obtain ⟨most, hat, q0, q1⟩ : ∃ most : Int, atI [D.int 8, D.int 2, D.int 3] a = some (.int most) ∧ 0 < most ∧ most ≤ 8 := by
      rcases (show a = 0 ∨ a = 1 ∨ a = 2 by omega) with rfl | rfl | rfl
      · exact ⟨8, DL.atI0, by decide, by decide⟩
      · exact ⟨2, DL.atI1, by decide, by decide⟩
      · exact ⟨3, DL.atI2, by decide, by decide⟩
    rw [w_ixR hm8 hat, v_seq]
    simp only [v_asg, v_if, v_ret, v_drop, v_for, v_skip, w_bnd, w_pur, x_get, w_tgN, w_subG, w_asB, w_asI, w_if, w_truB, List.getElem?_cons_zero, List.getElem?_cons_succ, List.set_cons_zero, List.set_cons_succ]
    have go9 := go7.trans go8
    refine pair_go go9.d hs q0 q1 fun look g10 ok1 go10 => ?_
    have l8 : c < g8.length := (List.getElem?_eq_some_iff.mp hps8).1
    have hps10 : g10[c]? = some (.lst (ps.map partD)) := by rw [go10.k.get c l8 ci cj]; exact hps8
    rw [v_seq]
    simp only [v_asg, v_if, v_ret, v_drop, v_for, v_skip, w_bnd, w_pur, x_get, w_tgN, w_subG, w_asB, w_asI, w_if, w_truB, List.getElem?_cons_zero, List.getElem?_cons_succ, List.set_cons_zero, List.set_cons_succ]
    refine pair_go go10.d hs q0 q1 fun word g11 ok2 go11 => ?_
    have l10 : c < g10.length := (List.getElem?_eq_some_iff.mp hps10).1
    have hps11 : g11[c]? = some (.lst (ps.map partD)) := by rw [go11.k.get c l10 ci cj]; exact hps10
    have l11 : c < g11.length := (List.getElem?_eq_some_iff.mp hps11).1
    refine seq_wp (fun s g' => ∃ press, s = [some (.ref j), some (.tup (sizes.map D.int)), some (.ref c), some x, some (.int most), some (prD look), some (prD word), some (poD press), none, none, none] ∧ Go i j g11 g' ∧ ∀ c, press = some c → OkCh sizes c) ?_ ?_
    · simp only [v_asg, v_if, v_ret, v_drop, v_for, v_skip, w_bnd, w_pur, x_get, w_tgN, w_subG, w_asB, w_asI, w_if, w_truB, List.getElem?_cons_zero, List.getElem?_cons_succ, List.set_cons_zero, List.set_cons_succ]
      refine next_go go11.d (by decide) (by decide) fun b g12 _ _ go12 => ?_
      rw [w_eqI, w_asB]
      split
      · exact ⟨none, rfl, go12, fun c h => by cases h⟩
      · exact changes_go go12.d hs fun ch g13 okc go13 => ⟨some ch, rfl, go12.trans go13, fun c h => by cases h; exact okc⟩
    · rintro s g12 ⟨press, rfl, go12, okp⟩
      have hps12 : g12[c]? = some (.lst (ps.map partD)) := by rw [go12.k.get c l11 ci cj]; exact hps11
      rw [v_seq]
      simp only [v_asg, v_if, v_ret, v_drop, v_for, v_skip, w_bnd, w_pur, x_get, w_tgN, w_subG, w_asB, w_asI, w_if, w_truB, List.getElem?_cons_zero, List.getElem?_cons_succ, List.set_cons_zero, List.set_cons_succ]
      have hk : kk < (1 + np).toNat := by
        have := (List.getElem?_eq_some_iff.mp hx).1
        rw [rng_map (show 0 ≤ 1 + np by omega)] at this
        simpa using this
      rw [x_tyL hps12, w_mkT (by simp), x_app hps12 (by rw [List.length_map]; omega)]
      have l12 : c < g12.length := (List.getElem?_eq_some_iff.mp hps12).1
      have gt := go9.trans (go10.trans (go11.trans go12))
      refine ⟨_, _, _, _, _, ps ++ [⟨look, word, press⟩], rfl, ?_, ?_, by rw [List.length_append, hlen]; rfl, fun y hy => ?_⟩
      · rcases Go.set (c := .lst (ps.map partD ++ [.tup [prD look, prD word, poD press]])) (n := c) gt lc with h | h | h
        · exact h
        · exact absurd h ci
        · exact absurd h cj
      · rw [List.getElem?_set_self l12, List.map_append]; rfl
      · rcases List.mem_append.mp hy with hy | hy
        · exact hok y hy
        · have : y = ⟨look, word, press⟩ := by simpa using hy
          rw [this]
          exact ⟨ok1, ok2, okp⟩
  · rintro s g6 ⟨v3, v4, v5, v6, v7, ps, rfl, go6, hps, hlen, hok⟩
    have hnp : ps.length = (1 + np).toNat := by
      rw [hlen, rng_map (show 0 ≤ 1 + np by omega)]
      simp
    have lc6 : c < g6.length := (List.getElem?_eq_some_iff.mp hps).1
    rw [v_seq]
    simp only [v_asg, v_if, v_ret, v_drop, v_for, v_skip, w_bnd, w_pur, x_get, w_tgN, w_subG, w_asB, w_asI, w_if, w_truB, List.getElem?_cons_zero, List.getElem?_cons_succ, List.set_cons_zero, List.set_cons_succ, compD]
    -- ticks
    refine next_go go6.d (by decide) (by decide) fun t g7 t0 t1 go7 => ?_
    rw [x_rng (by omega) (by omega), rng_map (show 0 ≤ t by omega)]
    refine (comp_go (i := i) (j := j) (fun _ => by exact True.intro) (fun k : Nat => D.int (k : Int)) chD (fun _ c => OkCh sizes c) _ g7 go7.d fun x hx g8 go8 => ⟨[some (.ref j), some (.tup (sizes.map D.int)), some (.ref c), some (.int x), v4, v5, v6, v7, none, none, none], rfl, rfl, ?_⟩).mono fun ds g9 ⟨ticks, e, hlt, hyt, go9⟩ => ?_
    · simp only [v_asg, v_if, v_ret, v_drop, v_for, v_skip, w_bnd, w_pur, x_get, w_tgN, w_subG, w_asB, w_asI, w_if, w_truB, List.getElem?_cons_zero, List.getElem?_cons_succ, List.set_cons_zero, List.set_cons_succ]
      exact changes_go go8.d hs fun ch g9 okc go9 => ⟨ch, rfl, okc, go9⟩
    subst e
    rw [List.length_range] at hlt
    rw [if_pos (by rw [List.length_map, hlt]; exact Nat.le_trans (show t.toNat ≤ 10 by omega) (by decide)), w_pur, v_seq]
    have go69 := go7.trans go9
    have hps9 : g9[c]? = some (.lst (ps.map partD)) := by rw [go69.k.get c lc6 ci cj]; exact hps
    have lc9 : c < g9.length := (List.getElem?_eq_some_iff.mp hps9).1
    -- live
    simp only [v_asg, v_if, v_ret, v_drop, v_for, v_skip, w_bnd, w_pur, x_get, w_tgN, w_subG, w_asB, w_asI, w_if, w_truB, List.getElem?_cons_zero, List.getElem?_cons_succ, List.set_cons_zero, List.set_cons_succ, compD, x_lenR, hps9, List.length_map]
    rw [x_rng (by omega) (by omega), rng_map (show (0 : Int) ≤ (ps.length : Int) by omega)]
    refine (comp_goF (i := i) (j := j) (fun _ => by exact True.intro) (fun k : Nat => D.int (k : Int)) _ g9 go69.d fun x hx g8 go8 => ⟨[some (.ref j), some (.tup (sizes.map D.int)), some (.ref c), some (.int x), v4, v5, v6, v7, some (.tup (ticks.map chD)), none, none], rfl, ?_, fun g2 => rfl⟩).mono fun ds g10 ⟨live, e, hsub, go10⟩ => ?_
    · simp only [v_asg, v_if, v_ret, v_drop, v_for, v_skip, w_bnd, w_pur, x_get, w_tgN, w_subG, w_asB, w_asI, w_if, w_truB, List.getElem?_cons_zero, List.getElem?_cons_succ, List.set_cons_zero, List.set_cons_succ]
      refine next_go go8.d (by decide) (by decide) fun b g12 _ _ go12 => ?_
      rw [w_eqI, w_asB]
      exact go12
    subst e
    have hll : live.length ≤ 10 := by
      have := hsub.length_le
      rw [List.length_range] at this
      omega
    rw [if_pos (by rw [List.length_map]; exact Nat.le_trans hll (by decide)), w_pur, v_seq]
    have hps10 : g10[c]? = some (.lst (ps.map partD)) := by rw [go10.k.get c lc9 ci cj]; exact hps9
    have lc10 : c < g10.length := (List.getElem?_eq_some_iff.mp hps10).1
    -- skips
    simp only [v_asg, v_if, v_ret, v_drop, v_for, v_skip, w_bnd, w_pur, x_get, w_tgN, w_subG, w_asB, w_asI, w_if, w_truB, List.getElem?_cons_zero, List.getElem?_cons_succ, List.set_cons_zero, List.set_cons_succ, compD, x_lenR, hps10, List.length_map]
    rw [x_rng (by omega) (by omega), rng_map (show (0 : Int) ≤ (ps.length : Int) by omega)]
    refine (comp_goF (i := i) (j := j) (fun _ => by exact True.intro) (fun k : Nat => D.int (k : Int)) _ g10 go10.d fun x hx g8 go8 => ⟨[some (.ref j), some (.tup (sizes.map D.int)), some (.ref c), some (.int x), v4, v5, v6, v7, some (.tup (ticks.map chD)), some (.tup (live.map fun k : Nat => D.int (k : Int))), none], rfl, ?_, fun g2 => rfl⟩).mono fun ds g11 ⟨skips, e, hsub2, go11⟩ => ?_
    · simp only [v_asg, v_if, v_ret, v_drop, v_for, v_skip, w_bnd, w_pur, x_get, w_tgN, w_subG, w_asB, w_asI, w_if, w_truB, List.getElem?_cons_zero, List.getElem?_cons_succ, List.set_cons_zero, List.set_cons_succ]
      refine next_go go8.d (by decide) (by decide) fun b g12 _ _ go12 => ?_
      rw [w_eqI, w_asB]
      exact go12
    subst e
    have hll2 : skips.length ≤ 10 := by
      have := hsub2.length_le
      rw [List.length_range] at this
      omega
    rw [if_pos (by rw [List.length_map]; exact Nat.le_trans hll2 (by decide)), w_pur, v_seq]
    have hps11 : g11[c]? = some (.lst (ps.map partD)) := by rw [go11.k.get c lc10 ci cj]; exact hps10
    -- the dict
    simp only [v_asg, v_if, v_ret, v_drop, v_for, v_skip, w_bnd, w_pur, x_get, w_tgN, w_subG, w_asB, w_asI, w_if, w_truB, List.getElem?_cons_zero, List.getElem?_cons_succ, List.set_cons_zero, List.set_cons_succ, x_tupR, hps11]
    show okM (dispD _ _ g11) _
    have go := go6.trans (go69.trans (go10.trans go11))
    have a1 := asc_sub hsub
    have a2 := asc_sub hsub2
    have ed : ∀ l : List Nat, l.map (fun k : Nat => D.int (k : Int)) = (l.map fun k : Nat => (k : Int)).map D.int := fun l => by rw [List.map_map]; rfl
    refine ⟨k ⟨sizes, ps, ticks, live.map fun k : Nat => (k : Int), skips.map fun k : Nat => (k : Int)⟩ _ _ ⟨hs, (show 1 ≤ ps.length ∧ ps.length ≤ 4 by omega), hok, (show ticks.length ≤ 2 by omega), fun c hc => let ⟨_, _, o⟩ := hyt c hc; o, a1, a2⟩ (go.app _) ?_, ?_⟩
    · show (g11 ++ [Cell.dic ((([("sizes" : Str), ("parts" : Str), ("ticks" : Str), ("live" : Str), ("skips" : Str)] : List Str).map Sum.inr).zip [D.tup (sizes.map D.int), D.tup (ps.map partD), D.tup (ticks.map chD), D.tup (live.map fun k : Nat => D.int (k : Int)), D.tup (skips.map fun k : Nat => D.int (k : Int))])])[g11.length]? = some (Cell.dic _)
      rw [ed, ed]
      exact List.getElem?_concat_length
    · have := go.k.le
      show decide (g11.length < g.length) = false
      exact decide_eq_false (by omega)
end K06
namespace K06
open PySem PySem.Spec PyProof.Rows L2 DL
open Classical
variable {cP : Addr}
theorem ok_iff {α : Type} {a : α} {g : GS} {P : α → GS → Prop} : okM (.ok a g) P ↔ P a g := Iff.rfl
theorem fn_eq {np k : Nat} {ms : MS} {ds : List D} {g : GS} {d : D} (hn : ds.length = np) (h : okS (ms (ds.map some ++ List.replicate (k - np) none) g) (fun _ _ => False) (fun d' g' => d' = d ∧ g' = g) (fun _ _ => False) fun _ _ => False) : fnM np k ms ds g = .ok d g := by
  refine okM.eq (fn_wp hn (h.mono (fun _ _ z => z.elim) (fun d g' z => ?_) (fun _ _ z => z) fun _ _ z => z))
  obtain ⟨rfl, rfl⟩ := z
  exact ⟨⟨rfl, rfl⟩, rfl, by rw [List.take_length]⟩
theorem isi_bi {x : Int} {g : GS} {P : D → GS → Prop} : okM (isiD "bool" [.int x, .ty "bool"] g) P ↔ P (.bl false) g := by
  unfold isiD
  simp only [if_true, tyD]
  rw [show kitB "int" "bool" = some false from by decide]
  rfl
theorem isi_ii {x : Int} {g : GS} {P : D → GS → Prop} : okM (isiD "int" [.int x, .ty "int"] g) P ↔ P (.bl true) g := by
  unfold isiD
  simp only [if_true, tyD]
  rw [show kitB "int" "int" = some true from by decide]
  rfl
theorem number_eq {x lo hi : Int} {g : GS} : F__is_number cP [.int x, .int lo, .int hi] g = .ok (.bl (decide (lo ≤ x) && decide (x ≤ hi))) g := by
  refine fn_eq rfl ?_
  show okS (m__is_number cP [some (.int x), some (.int lo), some (.int hi)] g) _ _ _ _
  simp only [m__is_number, v_seq, v_asg, v_if, v_ret, v_drop, v_for, v_skip, w_bnd, w_pur, x_get, w_tgN, w_subG, w_asB, w_asI, w_if, w_truB, List.getElem?_cons_zero, List.getElem?_cons_succ, List.set_cons_zero, List.set_cons_succ, isi_bi, isi_ii, w_le, Bool.not_true, Bool.false_eq_true, if_false]
  by_cases h : lo ≤ x
  · rw [decide_eq_true h]
    simp only [if_true, v_asg, v_if, v_ret, v_drop, v_for, v_skip, w_bnd, w_pur, x_get, w_tgN, w_subG, w_asB, w_asI, w_if, w_truB, List.getElem?_cons_zero, List.getElem?_cons_succ, List.set_cons_zero, List.set_cons_succ, w_le, Bool.true_and]
    first | exact ⟨rfl, rfl⟩ | exact ⟨rfl, True.intro⟩ | exact rfl | exact True.intro | simp
  · rw [decide_eq_false h]
    first | exact ⟨rfl, rfl⟩ | exact ⟨rfl, True.intro⟩ | exact rfl | exact True.intro | simp
theorem any_false {α : Type} {xs : List α} {f : α → Bool} (h : ∀ x ∈ xs, f x = true) : (xs.any fun x => f x == false) = false := by
  rw [List.any_eq_false]
  intro x hx
  rw [h x hx]
  decide
theorem sizes_eq {sizes : List Int} {g : GS} (hs : OkSizes sizes) : F_are_sizes cP [dI sizes] g = .ok (.bl true) g := by
  obtain ⟨h1, h2, h3⟩ := hs
  refine fn_eq rfl ?_
  show okS (m_are_sizes cP [some (dI sizes), none] g) _ _ _ _
  simp only [m_are_sizes, v_seq, v_asg, v_if, v_ret, v_drop, v_for, v_skip, w_bnd, w_pur, x_get, w_tgN, w_subG, w_asB, w_asI, w_if, w_truB, List.getElem?_cons_zero, List.getElem?_cons_succ, List.set_cons_zero, List.set_cons_succ, dI, w_lenT, w_le, List.length_map, genD, x_seqT, wipeD]
  rw [decide_eq_true (show (1 : Int) ≤ (sizes.length : Int) by omega), decide_eq_true (show (sizes.length : Int) ≤ 3 by omega)]
  simp only [if_true, v_asg, v_if, v_ret, v_drop, v_for, v_skip, w_bnd, w_pur, x_get, w_tgN, w_subG, w_asB, w_asI, w_if, w_truB, List.getElem?_cons_zero, List.getElem?_cons_succ, List.set_cons_zero, List.set_cons_succ, x_seqT]
  refine okM.of (gen_wpT (by exact True.intro) D.int (fun x => decide (2 ≤ x) && decide (x ≤ 4)) sizes fun x hx => ⟨_, rfl, okM.eq ?_⟩) ?_
  · simp only [v_asg, v_if, v_ret, v_drop, v_for, v_skip, w_bnd, w_pur, x_get, w_tgN, w_subG, w_asB, w_asI, w_if, w_truB, List.getElem?_cons_zero, List.getElem?_cons_succ, List.set_cons_zero, List.set_cons_succ, number_eq, ok_iff]
    first | exact ⟨rfl, rfl⟩ | exact ⟨rfl, True.intro⟩ | exact rfl | exact True.intro | simp
  · rw [any_false fun x hx => by
      have := h3 x hx
      rw [decide_eq_true this.1, decide_eq_true this.2]; rfl]
    first | exact ⟨rfl, rfl⟩ | exact ⟨rfl, True.intro⟩ | exact rfl | exact True.intro | simp
theorem change_eq {sizes : List Int} {m : Int × Int} {g : GS} (h : (0 ≤ m.1 ∧ m.1 < sizes.length) ∧ 1 ≤ m.2 ∧ m.2 ≤ 3) : F__is_change cP [dI sizes, mD m] g = .ok (.bl true) g := by
  refine fn_eq rfl ?_
  show okS (m__is_change cP [some (dI sizes), some (mD m), none, none] g) _ _ _ _
  simp only [m__is_change, v_seq, v_asg, v_if, v_ret, v_drop, v_for, v_skip, w_bnd, w_pur, x_get, w_tgN, w_subG, w_asB, w_asI, w_if, w_truB, List.getElem?_cons_zero, List.getElem?_cons_succ, List.set_cons_zero, List.set_cons_succ, mD, tgT2, dI, w_lenT, List.length_map, w_sub, number_eq, ok_iff]
  rw [decide_eq_true h.1.1, decide_eq_true (show m.1 ≤ (sizes.length : Int) - 1 by omega)]
  simp only [Bool.and_self, if_true, v_asg, v_if, v_ret, v_drop, v_for, v_skip, w_bnd, w_pur, x_get, w_tgN, w_subG, w_asB, w_asI, w_if, w_truB, List.getElem?_cons_zero, List.getElem?_cons_succ, List.set_cons_zero, List.set_cons_succ, number_eq, ok_iff]
  rw [decide_eq_true h.2.1, decide_eq_true h.2.2]
  first | exact ⟨rfl, rfl⟩ | exact ⟨rfl, True.intro⟩ | exact rfl | exact True.intro | simp
theorem changes_eq {sizes : List Int} {c : Ch} {g : GS} (h : OkCh sizes c) : F_are_changes cP [dI sizes, chD c] g = .ok (.bl true) g := by
  obtain ⟨h1, h2, h3⟩ := h
  refine fn_eq rfl ?_
  show okS (m_are_changes cP [some (dI sizes), some (chD c), none] g) _ _ _ _
  simp only [m_are_changes, v_seq, v_asg, v_if, v_ret, v_drop, v_for, v_skip, w_bnd, w_pur, x_get, w_tgN, w_subG, w_asB, w_asI, w_if, w_truB, List.getElem?_cons_zero, List.getElem?_cons_succ, List.set_cons_zero, List.set_cons_succ, chD, w_lenT, w_le, List.length_map, genD, x_seqT, wipeD]
  rw [decide_eq_true (show (1 : Int) ≤ (c.length : Int) by omega), decide_eq_true (show (c.length : Int) ≤ 3 by omega)]
  simp only [if_true, v_asg, v_if, v_ret, v_drop, v_for, v_skip, w_bnd, w_pur, x_get, w_tgN, w_subG, w_asB, w_asI, w_if, w_truB, List.getElem?_cons_zero, List.getElem?_cons_succ, List.set_cons_zero, List.set_cons_succ, x_seqT]
  refine okM.of (gen_wpT (by exact True.intro) mD (fun _ => true) c fun x hx => ⟨_, rfl, okM.eq ?_⟩) ?_
  · simp only [v_asg, v_if, v_ret, v_drop, v_for, v_skip, w_bnd, w_pur, x_get, w_tgN, w_subG, w_asB, w_asI, w_if, w_truB, List.getElem?_cons_zero, List.getElem?_cons_succ, List.set_cons_zero, List.set_cons_succ, change_eq (h3 x hx), ok_iff]
    first | exact ⟨rfl, rfl⟩ | exact ⟨rfl, True.intro⟩ | exact rfl | exact True.intro | simp
  · rw [any_false fun x hx => rfl]
    first | exact ⟨rfl, rfl⟩ | exact ⟨rfl, True.intro⟩ | exact rfl | exact True.intro | simp
theorem ticks_eq {sizes : List Int} {ts : List Ch} {g : GS} (hn : ts.length ≤ 2) (h : ∀ c ∈ ts, OkCh sizes c) : F__are_ticks cP [dI sizes, .tup (ts.map chD)] g = .ok (.bl true) g := by
  refine fn_eq rfl ?_
  show okS (m__are_ticks cP [some (dI sizes), some (.tup (ts.map chD)), none] g) _ _ _ _
  simp only [m__are_ticks, v_seq, v_asg, v_if, v_ret, v_drop, v_for, v_skip, w_bnd, w_pur, x_get, w_tgN, w_subG, w_asB, w_asI, w_if, w_truB, List.getElem?_cons_zero, List.getElem?_cons_succ, List.set_cons_zero, List.set_cons_succ, w_lenT, w_le, List.length_map, genD, x_seqT, wipeD]
  rw [decide_eq_true (show (ts.length : Int) ≤ 2 by omega)]
  simp only [if_true, v_asg, v_if, v_ret, v_drop, v_for, v_skip, w_bnd, w_pur, x_get, w_tgN, w_subG, w_asB, w_asI, w_if, w_truB, List.getElem?_cons_zero, List.getElem?_cons_succ, List.set_cons_zero, List.set_cons_succ, x_seqT]
  refine okM.of (gen_wpT (by exact True.intro) chD (fun _ => true) ts fun x hx => ⟨_, rfl, okM.eq ?_⟩) ?_
  · simp only [v_asg, v_if, v_ret, v_drop, v_for, v_skip, w_bnd, w_pur, x_get, w_tgN, w_subG, w_asB, w_asI, w_if, w_truB, List.getElem?_cons_zero, List.getElem?_cons_succ, List.set_cons_zero, List.set_cons_succ, changes_eq (h x hx), ok_iff]
    first | exact ⟨rfl, rfl⟩ | exact ⟨rfl, True.intro⟩ | exact rfl | exact True.intro | simp
  · rw [any_false fun x hx => rfl]
    first | exact ⟨rfl, rfl⟩ | exact ⟨rfl, True.intro⟩ | exact rfl | exact True.intro | simp
theorem shown_eq {sizes : List Int} {p : Pr} {g : GS} (hs : OkSizes sizes) (h : OkPr sizes p) : F_is_shown cP [dI sizes, prD p] g = .ok (.bl true) g := by
  obtain ⟨⟨v, hv, hz⟩, h3⟩ := h
  have hv2 := (List.getElem?_eq_some_iff.mp hz).1
  have hat : atI (sizes.map D.int) (v : Int) = some (.int (p.2.length : Int)) := DL.atI_nat (by rw [List.getElem?_map, hz]; rfl)
  refine fn_eq rfl ?_
  show okS (m_is_shown cP [some (dI sizes), some (prD p), none, none, none] g) _ _ _ _
  simp only [m_is_shown, v_seq, v_asg, v_if, v_ret, v_drop, v_for, v_skip, w_bnd, w_pur, x_get, w_tgN, w_subG, w_asB, w_asI, w_if, w_truB, List.getElem?_cons_zero, List.getElem?_cons_succ, List.set_cons_zero, List.set_cons_succ, prD, tgT2, hv, dI, w_lenT, List.length_map, w_sub, number_eq, ok_iff]
  rw [decide_eq_true (show (0 : Int) ≤ (v : Int) by omega), decide_eq_true (show (v : Int) ≤ (sizes.length : Int) - 1 by omega)]
  simp only [Bool.and_self, Bool.not_true, Bool.false_eq_true, if_false, v_asg, v_if, v_ret, v_drop, v_for, v_skip, w_bnd, w_pur, x_get, w_tgN, w_subG, w_asB, w_asI, w_if, w_truB, List.getElem?_cons_zero, List.getElem?_cons_succ, List.set_cons_zero, List.set_cons_succ, x_ixT, hat, w_eqI, decide_true, if_true, genD, x_seqT, wipeD]
  refine okM.of (gen_wpT (by exact True.intro) D.int (fun x => decide (0 ≤ x) && decide (x ≤ 7)) p.2 fun x hx => ⟨_, rfl, okM.eq ?_⟩) ?_
  · simp only [v_asg, v_if, v_ret, v_drop, v_for, v_skip, w_bnd, w_pur, x_get, w_tgN, w_subG, w_asB, w_asI, w_if, w_truB, List.getElem?_cons_zero, List.getElem?_cons_succ, List.set_cons_zero, List.set_cons_succ, number_eq, ok_iff]
    first | exact ⟨rfl, rfl⟩ | exact ⟨rfl, True.intro⟩ | exact rfl | exact True.intro | simp
  · rw [any_false fun x hx => by
      have := h3 x hx
      rw [decide_eq_true this.1, decide_eq_true this.2]; rfl]
    first | exact ⟨rfl, rfl⟩ | exact ⟨rfl, True.intro⟩ | exact rfl | exact True.intro | simp
theorem part_eq {sizes : List Int} {p : Part} {g : GS} (hs : OkSizes sizes) (h : OkPart sizes p) : F__is_part cP [dI sizes, partD p] g = .ok (.bl true) g := by
  obtain ⟨h1, h2, h3⟩ := h
  refine fn_eq rfl ?_
  show okS (m__is_part cP [some (dI sizes), some (partD p), none, none, none] g) _ _ _ _
  simp only [m__is_part, v_seq, v_asg, v_if, v_ret, v_drop, v_for, v_skip, w_bnd, w_pur, x_get, w_tgN, w_subG, w_asB, w_asI, w_if, w_truB, List.getElem?_cons_zero, List.getElem?_cons_succ, List.set_cons_zero, List.set_cons_succ, partD, tgT3, shown_eq hs h1, shown_eq hs h2, ok_iff, Bool.not_true, Bool.false_eq_true, if_false]
  cases hp : p.press with
  | none =>
    simp only [poD, isNoneD, isNonB, bne_iff_ne, v_asg, v_if, v_ret, v_drop, v_for, v_skip, w_bnd, w_pur, x_get, w_tgN, w_subG, w_asB, w_asI, w_if, w_truB, List.getElem?_cons_zero, List.getElem?_cons_succ, List.set_cons_zero, List.set_cons_succ, ok_iff, show (true != false) = true from rfl, if_true]
    first | exact ⟨rfl, rfl⟩ | exact ⟨rfl, True.intro⟩ | exact rfl | exact True.intro | simp
  | some c =>
    simp only [poD, chD, isNoneD, isNonB, v_asg, v_if, v_ret, v_drop, v_for, v_skip, w_bnd, w_pur, x_get, w_tgN, w_subG, w_asB, w_asI, w_if, w_truB, List.getElem?_cons_zero, List.getElem?_cons_succ, List.set_cons_zero, List.set_cons_succ, ok_iff, show (false != false) = false from rfl, Bool.false_eq_true, if_false]
    have e := changes_eq (cP := cP) (g := g) (h3 c hp)
    simp only [chD, dI] at e ⊢
    rw [e]
    first | exact ⟨rfl, rfl⟩ | exact ⟨rfl, True.intro⟩ | exact rfl | exact True.intro | simp
theorem parts_eq {sizes : List Int} {ps : List Part} {g : GS} (hs : OkSizes sizes) (hn : 1 ≤ ps.length ∧ ps.length ≤ 4) (h : ∀ p ∈ ps, OkPart sizes p) : F__are_parts cP [dI sizes, .tup (ps.map partD)] g = .ok (.bl true) g := by
  refine fn_eq rfl ?_
  show okS (m__are_parts cP [some (dI sizes), some (.tup (ps.map partD)), none] g) _ _ _ _
  simp only [m__are_parts, v_seq, v_asg, v_if, v_ret, v_drop, v_for, v_skip, w_bnd, w_pur, x_get, w_tgN, w_subG, w_asB, w_asI, w_if, w_truB, List.getElem?_cons_zero, List.getElem?_cons_succ, List.set_cons_zero, List.set_cons_succ, w_lenT, w_le, List.length_map, genD, x_seqT, wipeD]
  rw [decide_eq_true (show (1 : Int) ≤ (ps.length : Int) by omega), decide_eq_true (show (ps.length : Int) ≤ 4 by omega)]
  simp only [if_true, v_asg, v_if, v_ret, v_drop, v_for, v_skip, w_bnd, w_pur, x_get, w_tgN, w_subG, w_asB, w_asI, w_if, w_truB, List.getElem?_cons_zero, List.getElem?_cons_succ, List.set_cons_zero, List.set_cons_succ, x_seqT]
  refine okM.of (gen_wpT (by exact True.intro) partD (fun _ => true) ps fun x hx => ⟨_, rfl, okM.eq ?_⟩) ?_
  · simp only [v_asg, v_if, v_ret, v_drop, v_for, v_skip, w_bnd, w_pur, x_get, w_tgN, w_subG, w_asB, w_asI, w_if, w_truB, List.getElem?_cons_zero, List.getElem?_cons_succ, List.set_cons_zero, List.set_cons_succ, part_eq hs (h x hx), ok_iff]
    first | exact ⟨rfl, rfl⟩ | exact ⟨rfl, True.intro⟩ | exact rfl | exact True.intro | simp
  · rw [any_false fun x hx => rfl]
    first | exact ⟨rfl, rfl⟩ | exact ⟨rfl, True.intro⟩ | exact rfl | exact True.intro | simp
theorem indexes_eq {n : Nat} {l : List Int} {g : GS} (hp : l.Pairwise (· < ·)) (h : ∀ x ∈ l, 0 ≤ x ∧ x < (n : Int)) : F_are_indexes cP [.int n, dI l] g = .ok (.bl true) g := by
  refine fn_eq rfl ?_
  show okS (m_are_indexes cP [some (.int n), some (dI l), none, none] g) _ _ _ _
  simp only [m_are_indexes, v_seq, v_asg, v_if, v_ret, v_drop, v_for, v_skip, w_bnd, w_pur, x_get, w_tgN, w_subG, w_asB, w_asI, w_if, w_truB, List.getElem?_cons_zero, List.getElem?_cons_succ, List.set_cons_zero, List.set_cons_succ, dI, x_seqT]
  refine loop_wp (fun k s g' => ∃ (lo : Int) (v : Option D), s = [some (.int n), some (.tup (l.map D.int)), some (.int lo), v] ∧ g' = g ∧ ∀ x ∈ l.drop k, lo ≤ x) _ ⟨0, none, rfl, rfl, fun x hx => (h x (List.drop_subset _ _ hx)).1⟩ (fun _ _ _ _ _ => True.intro) ?_ ?_
  · rintro k x s g' hx ⟨lo, v, rfl, rfl, hlo⟩
    rw [List.getElem?_map] at hx
    cases e : l[k]? with
    | none => rw [e] at hx; cases hx
    | some y =>
      rw [e] at hx
      cases hx
      have hk := (List.getElem?_eq_some_iff.mp e).1
      have ey : l[k] = y := (List.getElem?_eq_some_iff.mp e).2
      have hd : l.drop k = l[k] :: l.drop (k + 1) := List.drop_eq_getElem_cons hk
      have h1 : lo ≤ y := hlo y (by rw [hd, ey]; exact List.mem_cons_self)
      have h2 := h y (List.mem_of_getElem? e)
      rw [w_tgN]
      simp only [v_seq, v_asg, v_if, v_ret, v_drop, v_for, v_skip, w_bnd, w_pur, x_get, w_tgN, w_subG, w_asB, w_asI, w_if, w_truB, List.getElem?_cons_zero, List.getElem?_cons_succ, List.set_cons_zero, List.set_cons_succ, w_sub, number_eq, ok_iff, w_addi]
      rw [decide_eq_true h1, decide_eq_true (show y ≤ (n : Int) - 1 by omega)]
      simp only [Bool.and_self, Bool.not_true, Bool.false_eq_true, if_false]
      refine ⟨y + 1, _, rfl, True.intro, fun z hz => ?_⟩
      have hp2 : (l.drop k).Pairwise (· < ·) := hp.sublist (List.drop_sublist _ _)
      rw [hd, ey] at hp2
      have := (List.pairwise_cons.mp hp2).1 z hz
      omega
  · rintro s g' ⟨lo, v, rfl, rfl, _⟩
    first | exact ⟨rfl, rfl⟩ | exact ⟨rfl, True.intro⟩ | exact rfl | exact True.intro | simp
def progD (cP : Addr) (p : Prg) : D := .ins cP nsP (prgV p)
theorem init_eq {p : Prg} {g : GS} (h : OkPrg p) : iniM (m_init cP) (prgV p) g = .ok () g := by
  unfold iniM
  have key : okS (m_init cP [some .non, some (dI p.sizes), some (.tup (p.parts.map partD)), some (.tup (p.ticks.map chD)), some (dI p.live), some (dI p.skips)] g) (fun _ g' => g' = g) (fun _ _ => False) (fun _ _ => False) fun _ _ => False := by
    simp only [m_init, v_seq, v_asg, v_if, v_ret, v_drop, v_for, v_skip, w_bnd, w_pur, x_get, w_tgN, w_subG, w_asB, w_asI, w_if, w_truB, List.getElem?_cons_zero, List.getElem?_cons_succ, List.set_cons_zero, List.set_cons_succ, sizes_eq h.sizes, parts_eq h.sizes h.np h.parts, ticks_eq h.nt h.ticks, w_lenT, List.length_map, indexes_eq h.live.1 h.live.2, indexes_eq h.skips.1 h.skips.2, ok_iff, Bool.not_true, Bool.false_eq_true, if_false]
  show outc (m_init cP [some .non, some (dI p.sizes), some (.tup (p.parts.map partD)), some (.tup (p.ticks.map chD)), some (dI p.live), some (dI p.skips)] g) = _
  generalize m_init cP [some .non, some (dI p.sizes), some (.tup (p.parts.map partD)), some (.tup (p.ticks.map chD)), some (dI p.live), some (dI p.skips)] g = r at key ⊢
  cases r with
  | nx s g' =>
    have key : g' = g := key
    rw [key]; rfl
  | _ => exact key.elim
theorem made_eq {p : Prg} {g : GS} {n : Nat} (h : OkPrg p) (hn : g[n]? = some (.dic (prgK p))) : F__law_made cP [.ref n] g = .ok (progD cP p) g := by
  refine fn_eq rfl ?_
  show okS (m__law_made cP [some (.ref n)] g) _ _ _ _
  have get : ∀ (k : Str) (d : D) (P : D → GS → Prop), dget (prgK p) (.inr k) = some d → (okM (dgetD (.ref n) (.str k) g) P ↔ P d g) := fun k d P e => by
    unfold dgetD keyD
    dsimp only
    rw [hn]
    dsimp only
    rw [e]; rfl
  simp only [m__law_made, v_seq, v_asg, v_if, v_ret, v_drop, v_for, v_skip, w_bnd, w_pur, x_get, w_tgN, w_subG, w_asB, w_asI, w_if, w_truB, List.getElem?_cons_zero, List.getElem?_cons_succ, List.set_cons_zero, List.set_cons_succ]
  rw [get _ _ _ (show dget (prgK p) (.inr ("sizes" : Str)) = some (dI p.sizes) from rfl)]
  rw [get _ _ _ (show dget (prgK p) (.inr ("parts" : Str)) = some (.tup (p.parts.map partD)) from rfl)]
  rw [get _ _ _ (show dget (prgK p) (.inr ("ticks" : Str)) = some (.tup (p.ticks.map chD)) from rfl)]
  rw [get _ _ _ (show dget (prgK p) (.inr ("live" : Str)) = some (dI p.live) from rfl)]
  rw [get _ _ _ (show dget (prgK p) (.inr ("skips" : Str)) = some (dI p.skips) from rfl)]
  show okM (makeD cP nsP (m_init cP) (prgV p) g) _
  unfold makeD
  rw [if_pos (show (prgV p).length = nsP.length from rfl), init_eq h]
  exact ⟨rfl, rfl⟩
end K06
namespace K06
open PySem PySem.Spec PyProof.Rows L2 DL
open Classical
variable {cP : Addr}
structure Sta where
  values : List Int
  focus : Int
  queue : List (Int × Int)
def stD (w : Sta) : D := .tup [dI w.values, .int w.focus, .tup (w.queue.map mD)]
def OkVals (sizes vs : List Int) : Prop := vs.length = sizes.length ∧ ∀ (i : Nat) (v s : Int), vs[i]? = some v → sizes[i]? = some s → 0 ≤ v ∧ v < s
structure OkSta (p : Prg) (w : Sta) : Prop where
  vals : OkVals p.sizes w.values
  focus : ∃ f : Nat, w.focus = f ∧ f < p.parts.length
  queue : ∀ m ∈ w.queue, ∃ q : Nat, m.1 = q ∧ q < p.parts.length
  nd : (w.queue.map (·.1)).Nodup
def prAt (vs : List Int) (pr : Pr) : Int := pr.2.getD (vs.getD pr.1.toNat 0).toNat 0
theorem pr_look {sizes vs : List Int} {pr : Pr} (h : OkPr sizes pr) (hw : OkVals sizes vs) : ∃ v n : Nat, pr.1 = v ∧ vs[v]? = some (n : Int) ∧ pr.2[n]? = some (prAt vs pr) := by
  obtain ⟨⟨v, e, hz⟩, _⟩ := h
  have hv := (List.getElem?_eq_some_iff.mp hz).1
  have hv2 : v < vs.length := by rw [hw.1]; exact hv
  have hx := List.getElem?_eq_getElem hv2
  have hb := hw.2 v _ _ hx hz
  obtain ⟨n, hn⟩ := Int.eq_ofNat_of_zero_le hb.1
  rw [hn] at hx hb
  have hb2 := hb.2
  refine ⟨v, n, e, hx, ?_⟩
  have e2 : vs.getD pr.1.toNat 0 = (n : Int) := by
    rw [e, List.getD_eq_getElem?_getD, Int.toNat_natCast, hx]; rfl
  unfold prAt
  rw [e2, List.getD_eq_getElem?_getD, Int.toNat_natCast]
  rw [List.getElem?_eq_getElem (show n < pr.2.length by omega)]
  rfl
theorem f_sizes {p : Prg} {g : GS} {P : D → GS → Prop} : okM (fldD cP ("sizes" : Str) (progD cP p) g) P ↔ P (dI p.sizes) g := by
  unfold fldD progD
  dsimp only
  rw [if_pos rfl]
  exact Iff.rfl
theorem f_parts {p : Prg} {g : GS} {P : D → GS → Prop} : okM (fldD cP ("parts" : Str) (progD cP p) g) P ↔ P (.tup (p.parts.map partD)) g := by
  unfold fldD progD
  dsimp only
  rw [if_pos rfl]
  exact Iff.rfl
theorem f_ticks {p : Prg} {g : GS} {P : D → GS → Prop} : okM (fldD cP ("ticks" : Str) (progD cP p) g) P ↔ P (.tup (p.ticks.map chD)) g := by
  unfold fldD progD
  dsimp only
  rw [if_pos rfl]
  exact Iff.rfl
theorem f_live {p : Prg} {g : GS} {P : D → GS → Prop} : okM (fldD cP ("live" : Str) (progD cP p) g) P ↔ P (dI p.live) g := by
  unfold fldD progD
  dsimp only
  rw [if_pos rfl]
  exact Iff.rfl
theorem f_skips {p : Prg} {g : GS} {P : D → GS → Prop} : okM (fldD cP ("skips" : Str) (progD cP p) g) P ↔ P (dI p.skips) g := by
  unfold fldD progD
  dsimp only
  rw [if_pos rfl]
  exact Iff.rfl
theorem part_at {p : Prg} {k : Nat} {pt : Part} (h : p.parts[k]? = some pt) : atI (p.parts.map partD) (k : Int) = some (partD pt) := DL.atI_nat (by rw [List.getElem?_map, h]; rfl)
theorem int_at {l : List Int} {k : Nat} {x : Int} (h : l[k]? = some x) : atI (l.map D.int) (k : Int) = some (.int x) := DL.atI_nat (by rw [List.getElem?_map, h]; rfl)
theorem word_eq {p : Prg} {vs : List Int} {k : Nat} {pt : Part} {g : GS} (hp : OkPrg p) (hw : OkVals p.sizes vs) (h : p.parts[k]? = some pt) : F_word_of cP [progD cP p, dI vs, .int k] g = .ok (.int (prAt vs pt.word)) g := by
  obtain ⟨v, n, e1, e2, e3⟩ := pr_look (hp.parts pt (List.mem_of_getElem? h)).2.1 hw
  refine fn_eq rfl ?_
  show okS (m_word_of cP [some (progD cP p), some (dI vs), some (.int k), none, none] g) _ _ _ _
  simp only [m_word_of, v_seq, v_asg, v_if, v_ret, v_drop, v_for, v_skip, w_bnd, w_pur, x_get, w_tgN, w_subG, w_asB, w_asI, w_if, w_truB, List.getElem?_cons_zero, List.getElem?_cons_succ, List.set_cons_zero, List.set_cons_succ, f_parts, x_ixT, part_at h, partD, DL.atI1, prD, tgT2, e1, dI, int_at e2, int_at e3]
  first | exact ⟨rfl, rfl⟩ | exact ⟨rfl, True.intro⟩ | exact rfl | exact True.intro | simp
theorem press_eq {p : Prg} {k : Nat} {pt : Part} {g : GS} (h : p.parts[k]? = some pt) : F_press_of cP [progD cP p, .int k] g = .ok (poD pt.press) g := by
  refine fn_eq rfl ?_
  show okS (m_press_of cP [some (progD cP p), some (.int k)] g) _ _ _ _
  simp only [m_press_of, v_seq, v_asg, v_if, v_ret, v_drop, v_for, v_skip, w_bnd, w_pur, x_get, w_tgN, w_subG, w_asB, w_asI, w_if, w_truB, List.getElem?_cons_zero, List.getElem?_cons_succ, List.set_cons_zero, List.set_cons_succ, f_parts, x_ixT, part_at h, partD, DL.atI2]
  first | exact ⟨rfl, rfl⟩ | exact ⟨rfl, True.intro⟩ | exact rfl | exact True.intro | simp
/-- a def that draws nothing; lists of its own may be left -/
theorem fn_app {np k : Nat} {ms : MS} {ds : List D} {g : GS} {d : D} {P : D → GS → Prop} (hn : ds.length = np) (h : okS (ms (ds.map some ++ List.replicate (k - np) none) g) (fun _ _ => False) (fun d' g' => d' = d ∧ ∃ ex, g' = g ++ ex) (fun _ _ => False) fun _ _ => False) (hP : ∀ ex, P d (g ++ ex)) : okM (fnM np k ms ds g) P := by
  refine fn_wp hn (h.mono (fun _ _ z => z.elim) (fun d' g' z => ?_) (fun _ _ z => z) fun _ _ z => z)
  obtain ⟨rfl, ex, rfl⟩ := z
  exact ⟨hP ex, by
    have z := hP []
    rw [List.append_nil] at z
    rw [List.take_left' rfl]
    exact z⟩
def start0 (p : Prg) : Sta := ⟨p.sizes.map fun _ => 0, 0, []⟩
theorem start_eq {p : Prg} {g : GS} (hp : OkPrg p) : F_start cP [progD cP p] g = .ok (stD (start0 p)) g := by
  have h1 := hp.sizes.1
  have h2 := hp.sizes.2.1
  refine fn_eq rfl ?_
  show okS (m_start cP [some (progD cP p)] g) _ _ _ _
  simp only [m_start, v_seq, v_asg, v_if, v_ret, v_drop, v_for, v_skip, w_bnd, w_pur, x_get, w_tgN, w_subG, w_asB, w_asI, w_if, w_truB, List.getElem?_cons_zero, List.getElem?_cons_succ, List.set_cons_zero, List.set_cons_succ, f_sizes, dI, w_lenT, List.length_map]
  rw [w_mkT (by simp)]
  have em : okM (mulA (.tup [.int 0]) (.int (p.sizes.length : Nat)) g) (fun d g' => d = dI (p.sizes.map fun _ => 0) ∧ g' = g) := by
    unfold mulA
    dsimp only
    by_cases hl : p.sizes.length = 1
    · rw [if_pos ⟨fun z => (by cases z), by rw [hl]; rfl⟩]
      refine ⟨?_, rfl⟩
      obtain ⟨x, ex⟩ := List.length_eq_one_iff.mp hl
      rw [ex]; rfl
    · rw [if_neg (fun z => hl (by have := z.2; omega)), if_pos ⟨⟨fun z => (by cases z), by omega⟩, by omega, by simp⟩]
      refine ⟨?_, rfl⟩
      show D.tup _ = D.tup _
      rw [Int.toNat_natCast, List.map_map]
      congr 1
      induction p.sizes with
      | nil => rfl
      | cons x r ih => rw [List.length_cons, List.replicate_succ, List.flatten_cons, ih]; rfl
  refine em.mono fun d g' z => ?_
  obtain ⟨rfl, rfl⟩ := z
  rw [w_mkT (by simp), w_mkT (by simp)]
  first | exact ⟨rfl, rfl⟩ | exact ⟨rfl, True.intro⟩ | exact rfl | exact True.intro | simp
theorem start_ok {p : Prg} (hp : OkPrg p) : OkSta p (start0 p) := by
  refine ⟨⟨by simp [start0], fun i v s h1 h2 => ?_⟩, ⟨0, rfl, hp.np.1⟩, fun m hm => (by cases hm), List.nodup_nil⟩
  have h3 := hp.sizes.2.2 s (List.mem_of_getElem? h2)
  simp only [start0] at h1
  rw [List.getElem?_map, h2] at h1
  cases h1
  show 0 ≤ (0 : Int) ∧ (0 : Int) < s
  omega
end K06
namespace K06
open PySem PySem.Spec PyProof.Rows L2 DL
open Classical
variable {cP : Addr}
def qD (q : List (Int × Int)) : D := .tup (q.map mD)
def putL (q : List (Int × Int)) (m : Int × Int) : List (Int × Int) := if q.any (fun x => x.1 == m.1) then q.map fun x => if x.1 = m.1 then m else x else q ++ [m]
theorem put_wp {q : List (Int × Int)} {m : Int × Int} {g : GS} {P : D → GS → Prop} (hq : q.length ≤ 1000) (h : P (qD (putL q m)) g) : okM (F_put cP [qD q, mD m] g) P := by
  refine okM.mono (P := fun d g' => d = qD (putL q m) ∧ g' = g) (fn_wp rfl ?_) (by rintro _ _ ⟨rfl, rfl⟩; exact h)
  simp [m_put, v_seq, v_asg, v_if, v_ret, w_bnd, w_pur, x_get, mD, x_ixT, DL.atI0, w_tgN, v_skip, genD, compD, qD, x_seqT, wipeD]
  refine okM.of (gen_wpT (f := fun x => !decide (x.1 = m.1)) (by exact True.intro) mD q fun x hx => ⟨[some (.tup (q.map mD)), some (.tup [.int m.1, .int m.2]), some (.int m.1), some (mD x)], rfl, okM.eq ?_⟩) ?_
  · simp [w_bnd, x_get, mD, w_pur, x_ixT, DL.atI0, w_neI]
  · rw [w_truB]
    have e : (q.any fun x => (!decide (x.1 = m.1)) == false) = q.any fun x => x.1 == m.1 := by
      congr 1
      funext x
      by_cases hx : x.1 = m.1 <;> simp [hx]
    rw [e]
    cases hc : q.any fun x => x.1 == m.1 with
    | false =>
      have ep : putL q m = q ++ [m] := by unfold putL; rw [hc]; rfl
      simp [w_starT]
      rw [w_mkT (by simp; omega)]
      simp [ep, mD]
    | true =>
      have ep : putL q m = q.map fun x => if x.1 = m.1 then m else x := by unfold putL; rw [hc]; rfl
      simp
      refine okM.of (comp_wpT (by exact True.intro) mD (fun x => mD (if x.1 = m.1 then m else x)) q fun x hx => ⟨[some (.tup (q.map mD)), some (.tup [.int m.1, .int m.2]), some (.int m.1), some (mD x)], rfl, rfl, okM.eq ?_⟩) ?_
      · simp [w_bnd, x_get, mD, w_pur, x_ixT, DL.atI0, w_eqI, w_asB, w_if]
        by_cases hm : x.1 = m.1 <;> simp [hm, x_get]
      · rw [if_pos (by simpa using (show q.length ≤ LIM from Nat.le_trans hq (by decide)))]
        simp [w_pur, ep]
theorem pl_mD (m : Int × Int) : (mD m).pl 1 = true := by simp [mD, D.pl, plL]
theorem plL_q (q : List (Int × Int)) : plL 1 (q.map mD) = true := by
  induction q with
  | nil => rfl
  | cons m q ih => rw [List.map_cons, plL, pl_mD, ih]; rfl
/-- at most one message of a part -/
theorem put_nd {q : List (Int × Int)} {m : Int × Int} (nd : (q.map (·.1)).Nodup) : ((putL q m).map (·.1)).Nodup := by
  unfold putL
  split
  · have e : (q.map fun x => if x.1 = m.1 then m else x).map (·.1) = q.map (·.1) := by
      rw [List.map_map]
      apply List.map_congr_left
      intro x _
      by_cases h : x.1 = m.1 <;> simp [h]
    rw [e]; exact nd
  · rename_i h
    rw [List.map_append, List.nodup_append]
    refine ⟨nd, by simp, fun a ha b hb e => ?_⟩
    have hb : b = m.1 := by simpa using hb
    obtain ⟨x, hx, rfl⟩ := List.mem_map.mp ha
    exact h (List.any_eq_true.mpr ⟨x, hx, by simp [e, hb]⟩)
theorem cut_one {xs : List D} : DL.cutD xs (some 1) none = xs.drop 1 := by
  unfold DL.cutD
  rw [HT.sIx_none, show HT.sIx xs.length 0 (some (1 : Int)) = min 1 xs.length from HT.sIx_nat xs.length 0 1]
  cases xs with
  | nil => rfl
  | cons x r =>
    rw [List.length_cons, Nat.min_eq_left (by omega)]
    exact List.take_of_length_le (by simp)
theorem put_eq {q : List (Int × Int)} {m : Int × Int} {g : GS} (hq : q.length ≤ 1000) : F_put cP [.tup (q.map mD), mD m] g = .ok (.tup ((putL q m).map mD)) g := okM.eq (put_wp hq ⟨rfl, rfl⟩)
theorem put_keys {q : List (Int × Int)} {m x : Int × Int} (h : x ∈ putL q m) : x ∈ q ∨ x = m := by
  unfold putL at h
  split at h
  · obtain ⟨y, hy, e⟩ := List.mem_map.mp h
    by_cases z : y.1 = m.1
    · rw [if_pos z] at e; exact .inr e.symm
    · rw [if_neg z] at e; exact .inl (e ▸ hy)
  · rcases List.mem_append.mp h with h | h
    · exact .inl h
    · exact .inr (by simpa using h)
/-- one change after the other -/
def addOne (sizes vs : List Int) (m : Int × Int) : List Int := vs.set m.1.toNat ((vs.getD m.1.toNat 0 + m.2) % sizes.getD m.1.toNat 1)
def addL (sizes vs : List Int) (c : Ch) : List Int := c.foldl (addOne sizes) vs
theorem addOne_ok {sizes vs : List Int} {m : Int × Int} (hs : OkSizes sizes) (h : OkVals sizes vs) : OkVals sizes (addOne sizes vs m) := by
  unfold addOne
  refine ⟨by rw [List.length_set]; exact h.1, fun i v s h1 h2 => ?_⟩
  by_cases hi : m.1.toNat = i
  · subst hi
    have hl := (List.getElem?_eq_some_iff.mp h1).1
    rw [List.length_set] at hl
    rw [List.getElem?_set_self hl] at h1
    have e : sizes.getD m.1.toNat 1 = s := by rw [List.getD_eq_getElem?_getD, h2]; rfl
    rw [e] at h1
    have hs2 := hs.2.2 s (List.mem_of_getElem? h2)
    cases h1
    exact ⟨Int.emod_nonneg _ (by omega), Int.emod_lt_of_pos _ (by omega)⟩
  · rw [List.getElem?_set_ne hi] at h1
    exact h.2 i v s h1 h2
theorem addL_ok {sizes : List Int} (hs : OkSizes sizes) : ∀ (c : Ch) (vs : List Int), OkVals sizes vs → OkVals sizes (addL sizes vs c)
  | [], vs, h => h
  | m :: c, vs, h => addL_ok hs c _ (addOne_ok hs h)
theorem added_wp {sizes vs : List Int} {c : Ch} {g : GS} {P : D → GS → Prop} (hs : OkSizes sizes) (hv : OkVals sizes vs) (hc : OkCh sizes c) (k : ∀ ex, P (dI (addL sizes vs c)) (g ++ ex)) : okM (F__added cP [dI sizes, dI vs, chD c] g) P := by
  refine fn_app rfl ?_ k
  show okS (m__added cP [some (dI sizes), some (dI vs), some (chD c), none, none, none] g) _ _ _ _
  simp only [m__added, v_seq, v_asg, v_if, v_ret, v_drop, v_for, v_skip, w_bnd, w_pur, x_get, w_tgN, w_subG, w_asB, w_asI, w_if, w_truB, List.getElem?_cons_zero, List.getElem?_cons_succ, List.set_cons_zero, List.set_cons_succ, dI, chD, w_listT, x_seqT]
  refine loop_wp (fun k s g' => ∃ v4 v5, s = [some (.tup (sizes.map D.int)), some (.tup (vs.map D.int)), some (.tup (c.map mD)), some (.ref g.length), v4, v5] ∧ g' = g ++ [.lst ((addL sizes vs (c.take k)).map D.int)]) _ ⟨none, none, rfl, rfl⟩ (fun _ _ _ _ _ => True.intro) ?_ ?_
  · rintro i x s g' hx ⟨v4, v5, rfl, rfl⟩
    rw [List.getElem?_map] at hx
    cases e : c[i]? with
    | none => rw [e] at hx; cases hx
    | some m =>
      rw [e] at hx
      cases hx
      have hm := hc.2.2 m (List.mem_of_getElem? e)
      obtain ⟨v, hv1⟩ := Int.eq_ofNat_of_zero_le hm.1.1
      have hv2 : v < sizes.length := by omega
      have ok := addL_ok hs (c.take i) vs hv
      have etake : c.take (i + 1) = c.take i ++ [m] := by rw [List.take_add_one, e]; rfl
      have enext : addL sizes vs (c.take (i + 1)) = addOne sizes (addL sizes vs (c.take i)) m := by
        unfold addL
        rw [etake, List.foldl_append]; rfl
      generalize addL sizes vs (c.take i) = us at ok enext
      have hu : v < us.length := by rw [ok.1]; exact hv2
      have e1 := List.getElem?_eq_getElem hu
      have e2 := List.getElem?_eq_getElem hv2
      have hz := hs.2.2 _ (List.getElem_mem hv2)
      have hn : (g ++ [Cell.lst (us.map D.int)])[g.length]? = some (.lst (us.map D.int)) := by simp
      simp only [mD, tgT2, w_pur]
      simp only [v_seq, v_asg, v_if, v_ret, v_drop, v_for, v_skip, w_bnd, w_pur, x_get, w_tgN, w_subG, w_asB, w_asI, w_if, w_truB, List.getElem?_cons_zero, List.getElem?_cons_succ, List.set_cons_zero, List.set_cons_succ, x_ixR, hn, hv1, Int.ofNat_eq_natCast, int_at e1, w_addi, x_ixT, int_at e2]
      rw [w_mod (by omega)]
      simp only [x_set, hn, List.length_map, DL.ixN_nat hu]
      refine ⟨_, _, rfl, ?_⟩
      have hset : ∀ c : Cell, (g ++ [Cell.lst (us.map D.int)]).set g.length c = g ++ [c] := fun c => by simp
      rw [hset, enext]
      unfold addOne
      rw [hv1]
      simp only [Int.ofNat_eq_natCast, Int.toNat_natCast, List.getD_eq_getElem?_getD, e1, e2, Option.getD_some, List.map_set]
  · rintro s g' ⟨v4, v5, rfl, rfl⟩
    have hl : (c.map mD).length = c.length := List.length_map _
    simp only [hl, List.take_length, v_asg, v_if, v_ret, v_drop, v_for, v_skip, w_bnd, w_pur, x_get, w_tgN, w_subG, w_asB, w_asI, w_if, w_truB, List.getElem?_cons_zero, List.getElem?_cons_succ, List.set_cons_zero, List.set_cons_succ, x_tupR, List.getElem?_concat_length]
    first | exact ⟨rfl, _, rfl⟩ | exact ⟨True.intro, _, rfl⟩
def wordOf (p : Prg) (vs : List Int) (k : Int) : Int := prAt vs (p.parts.getD k.toNat ⟨(0, []), (0, []), none⟩).word
theorem wordOf_at {p : Prg} {vs : List Int} {k : Nat} {pt : Part} (h : p.parts[k]? = some pt) : wordOf p vs (k : Int) = prAt vs pt.word := by
  unfold wordOf
  rw [Int.toNat_natCast, List.getD_eq_getElem?_getD, h]; rfl
theorem wordOf_eq {p : Prg} {vs : List Int} {k : Nat} {g : GS} (hp : OkPrg p) (hw : OkVals p.sizes vs) (h : k < p.parts.length) : F_word_of cP [progD cP p, dI vs, .int k] g = .ok (.int (wordOf p vs k)) g := by
  have e := List.getElem?_eq_getElem h
  rw [wordOf_at e]
  exact word_eq hp hw e
/-- the live parts tell what has changed -/
def tellOne (p : Prg) (vs us : List Int) (q : List (Int × Int)) (k : Int) : List (Int × Int) := if wordOf p us k ≠ wordOf p vs k then putL q (k, wordOf p us k) else q
def tellL (p : Prg) (vs us : List Int) (q : List (Int × Int)) (l : List Int) : List (Int × Int) := l.foldl (tellOne p vs us) q
def changedS (p : Prg) (w : Sta) (c : Ch) : Sta := ⟨addL p.sizes w.values c, w.focus, tellL p w.values (addL p.sizes w.values c) w.queue p.live⟩
def OkQ (p : Prg) (q : List (Int × Int)) : Prop := (∀ m ∈ q, ∃ k : Nat, m.1 = k ∧ k < p.parts.length) ∧ (q.map (·.1)).Nodup
theorem okQ_put {p : Prg} {q : List (Int × Int)} {k : Nat} {x : Int} (h : OkQ p q) (hk : k < p.parts.length) : OkQ p (putL q ((k : Int), x)) := by
  refine ⟨fun m hm => ?_, put_nd h.2⟩
  rcases put_keys hm with hm | rfl
  · exact h.1 m hm
  · exact ⟨k, rfl, hk⟩
theorem okQ_tell {p : Prg} {vs us : List Int} : ∀ (l : List Int) (q : List (Int × Int)), (∀ x ∈ l, 0 ≤ x ∧ x < p.parts.length) → OkQ p q → OkQ p (tellL p vs us q l)
  | [], q, _, h => h
  | k :: l, q, hl, h => by
    have hk := hl k List.mem_cons_self
    obtain ⟨n, hn⟩ := Int.eq_ofNat_of_zero_le hk.1
    refine okQ_tell l _ (fun x hx => hl x (List.mem_cons_of_mem _ hx)) ?_
    unfold tellOne
    split
    · rw [hn]
      exact okQ_put h (by omega)
    · exact h
theorem nodup_le : ∀ (n : Nat) (l : List Nat), l.Nodup → (∀ x ∈ l, x < n) → l.length ≤ n
  | 0, [], _, _ => Nat.le_refl _
  | 0, x :: l, _, h => absurd (h x List.mem_cons_self) (Nat.not_lt_zero x)
  | n + 1, l, nd, h => by
    by_cases hn : n ∈ l
    · have h1 := nodup_le n (l.erase n) (nd.erase n) fun x hx => by
        obtain ⟨a, b⟩ := (nd.mem_erase_iff).mp hx
        have := h x b
        omega
      rw [List.length_erase_of_mem hn] at h1
      omega
    · have h1 := nodup_le n l nd fun x hx => by
        have := h x hx
        have : x ≠ n := fun z => hn (z ▸ hx)
        omega
      omega
theorem okQ_len {p : Prg} {q : List (Int × Int)} (hp : OkPrg p) (h : OkQ p q) : q.length ≤ 4 := by
  have h1 : ((q.map (·.1)).map Int.toNat).Nodup := by
    rw [List.map_map]
    have nd := h.2
    rw [List.Nodup, List.pairwise_map] at nd ⊢
    refine nd.imp_of_mem fun {a b} ha hb hne e => hne ?_
    obtain ⟨k1, e1, _⟩ := h.1 a ha
    obtain ⟨k2, e2, _⟩ := h.1 b hb
    have e : a.1.toNat = b.1.toNat := e
    omega
  have h2 := nodup_le p.parts.length _ h1 fun x hx => by
    obtain ⟨y, hy, rfl⟩ := List.mem_map.mp hx
    obtain ⟨m, hm, rfl⟩ := List.mem_map.mp hy
    obtain ⟨k, e, hk⟩ := h.1 m hm
    omega
  have h3 := hp.np.2
  simp at h2
  omega
end K06
namespace K06
open PySem PySem.Spec PyProof.Rows L2 DL
open Classical
variable {cP : Addr}
theorem changed_wp {p : Prg} {w : Sta} {c : Ch} {g : GS} {P : D → GS → Prop} (hp : OkPrg p) (hw : OkSta p w) (hc : OkCh p.sizes c) (k : ∀ ex, P (stD (changedS p w c)) (g ++ ex)) : okM (F__changed cP [progD cP p, stD w, chD c] g) P := by
  refine fn_app rfl ?_ k
  show okS (m__changed cP [some (progD cP p), some (stD w), some (chD c), none, none, none, none, none, none] g) _ _ _ _
  unfold m__changed
  rw [v_seq]
  simp only [v_asg, v_if, v_ret, v_drop, v_for, v_skip, w_bnd, w_pur, x_get, w_tgN, w_subG, w_asB, w_asI, w_if, w_truB, List.getElem?_cons_zero, List.getElem?_cons_succ, List.set_cons_zero, List.set_cons_succ, stD, tgT3]
  rw [v_seq]
  simp only [v_asg, v_if, v_ret, v_drop, v_for, v_skip, w_bnd, w_pur, x_get, w_tgN, w_subG, w_asB, w_asI, w_if, w_truB, List.getElem?_cons_zero, List.getElem?_cons_succ, List.set_cons_zero, List.set_cons_succ, f_sizes]
  refine added_wp hp.sizes hw.vals hc fun ex => ?_
  have ok := addL_ok hp.sizes c w.values hw.vals
  rw [v_seq]
  simp only [v_asg, v_if, v_ret, v_drop, v_for, v_skip, w_bnd, w_pur, x_get, w_tgN, w_subG, w_asB, w_asI, w_if, w_truB, List.getElem?_cons_zero, List.getElem?_cons_succ, List.set_cons_zero, List.set_cons_succ, f_live]
  generalize hus : addL p.sizes w.values c = us at ok ⊢
  rw [show dI p.live = D.tup (p.live.map D.int) from rfl, x_seqT]
  refine loop_wp (fun i s g' => ∃ v7 v8, s = [some (progD cP p), some (.tup [dI w.values, .int w.focus, .tup (w.queue.map mD)]), some (chD c), some (dI w.values), some (.int w.focus), some (.tup ((tellL p w.values us w.queue (p.live.take i)).map mD)), some (dI us), v7, v8] ∧ g' = g ++ ex) _ ⟨none, none, rfl, rfl⟩ (fun _ _ _ _ _ => True.intro) ?_ ?_
  · rintro i x s g' hx ⟨v7, v8, rfl, rfl⟩
    rw [List.getElem?_map] at hx
    cases e : p.live[i]? with
    | none => rw [e] at hx; cases hx
    | some kk =>
      rw [e] at hx
      cases hx
      have hk := hp.live.2 kk (List.mem_of_getElem? e)
      obtain ⟨n, hn⟩ := Int.eq_ofNat_of_zero_le hk.1
      have hn2 : n < p.parts.length := by omega
      have etake : p.live.take (i + 1) = p.live.take i ++ [kk] := by rw [List.take_add_one, e]; rfl
      have enext : tellL p w.values us w.queue (p.live.take (i + 1)) = tellOne p w.values us (tellL p w.values us w.queue (p.live.take i)) kk := by
        unfold tellL
        rw [etake, List.foldl_append]; rfl
      have okq : OkQ p (tellL p w.values us w.queue (p.live.take i)) := okQ_tell _ _ (fun x hx => hp.live.2 x (List.mem_of_mem_take hx)) ⟨hw.queue, hw.nd⟩
      have ql := okQ_len hp okq
      rw [enext]
      generalize tellL p w.values us w.queue (p.live.take i) = q at okq ql ⊢
      rw [hn, w_tgN]
      rw [v_seq]
      simp only [v_asg, v_if, v_ret, v_drop, v_for, v_skip, w_bnd, w_pur, x_get, w_tgN, w_subG, w_asB, w_asI, w_if, w_truB, List.getElem?_cons_zero, List.getElem?_cons_succ, List.set_cons_zero, List.set_cons_succ, wordOf_eq hp ok hn2, ok_iff]
      rw [v_seq]
      simp only [v_asg, v_if, v_ret, v_drop, v_for, v_skip, w_bnd, w_pur, x_get, w_tgN, w_subG, w_asB, w_asI, w_if, w_truB, List.getElem?_cons_zero, List.getElem?_cons_succ, List.set_cons_zero, List.set_cons_succ, wordOf_eq hp hw.vals hn2, ok_iff, w_neI]
      by_cases hne : wordOf p us (n : Int) = wordOf p w.values (n : Int)
      · have ht : tellOne p w.values us q (n : Int) = q := by
          unfold tellOne
          exact if_neg (by simpa using hne)
        rw [ht, decide_eq_true hne, if_neg (by decide)]
        first | exact ⟨_, _, rfl, rfl⟩ | exact ⟨_, _, rfl, True.intro⟩
      · have ht : tellOne p w.values us q (n : Int) = putL q ((n : Int), wordOf p us (n : Int)) := by
          unfold tellOne
          exact if_pos hne
        rw [ht, decide_eq_false hne, if_pos (show (!false) = true from rfl), v_seq]
        simp only [v_asg, v_if, v_ret, v_drop, v_for, v_skip, w_bnd, w_pur, x_get, w_tgN, w_subG, w_asB, w_asI, w_if, w_truB, List.getElem?_cons_zero, List.getElem?_cons_succ, List.set_cons_zero, List.set_cons_succ]
        rw [w_mkT (by simp)]
        have e2 : F_put cP [.tup (q.map mD), .tup [.int (n : Int), .int (wordOf p us (n : Int))]] (g ++ ex) = .ok (.tup ((putL q ((n : Int), wordOf p us (n : Int))).map mD)) (g ++ ex) := put_eq (m := ((n : Int), wordOf p us (n : Int))) (by omega)
        rw [e2]
        first | exact ⟨_, _, rfl, rfl⟩ | exact ⟨_, _, rfl, True.intro⟩
  · rintro s g' ⟨v7, v8, rfl, rfl⟩
    have hl : (p.live.map D.int).length = p.live.length := List.length_map _
    simp only [hl, List.take_length, v_seq, v_asg, v_if, v_ret, v_drop, v_for, v_skip, w_bnd, w_pur, x_get, w_tgN, w_subG, w_asB, w_asI, w_if, w_truB, List.getElem?_cons_zero, List.getElem?_cons_succ, List.set_cons_zero, List.set_cons_succ]
    rw [w_mkT (by simp)]
    refine ⟨?_, _, rfl⟩
    simp only [changedS, hus, dI]
/-- the next part that is not skipped -/
def nextGo (p : Prg) (f : Nat) : List Nat → Nat
  | [] => f
  | b :: r => if (((f + b) % p.parts.length : Nat) : Int) ∈ p.skips then nextGo p f r else (f + b) % p.parts.length
def nextF (p : Prg) (f : Nat) : Nat := nextGo p f ((List.range (p.parts.length - 1)).map (1 + ·))
theorem nextGo_lt {p : Prg} {f : Nat} (h0 : 0 < p.parts.length) (hf : f < p.parts.length) : ∀ l, nextGo p f l < p.parts.length
  | [] => hf
  | b :: r => by
    unfold nextGo
    split
    · exact nextGo_lt h0 hf r
    · exact Nat.mod_lt _ h0
theorem plL_int : ∀ (l : List Int), plL 0 (l.map D.int) = true
  | [] => rfl
  | x :: l => by rw [List.map_cons, plL, plL_int l]; rfl
theorem in_ints {n : Int} {l : List Int} {neg : Bool} {g : GS} {P : D → GS → Prop} : okM (inD neg (.int n) (dI l) g) P ↔ P (.bl (if neg then !decide (n ∈ l) else decide (n ∈ l))) g := by
  have e : decide (D.int n ∈ l.map D.int) = decide (n ∈ l) := by
    rw [Bool.eq_iff_iff, decide_eq_true_eq, decide_eq_true_eq, List.mem_map]
    exact ⟨fun ⟨x, hx, e⟩ => by cases e; exact hx, fun h => ⟨n, h, rfl⟩⟩
  unfold dI
  rw [w_in (n := 0) (by decide) rfl (plL_int l), e]
theorem nextf_eq {p : Prg} {f : Nat} {g : GS} (hp : OkPrg p) (hf : f < p.parts.length) : F__next_focus cP [progD cP p, .int f] g = .ok (.int (nextF p f)) g := by
  have hn := hp.np
  refine fn_eq rfl ?_
  show okS (m__next_focus cP [some (progD cP p), some (.int f), none, none, none] g) _ _ _ _
  unfold m__next_focus
  rw [v_seq]
  simp only [v_asg, v_if, v_ret, v_drop, v_for, v_skip, w_bnd, w_pur, x_get, w_tgN, w_subG, w_asB, w_asI, w_if, w_truB, List.getElem?_cons_zero, List.getElem?_cons_succ, List.set_cons_zero, List.set_cons_succ, f_parts, w_lenT, List.length_map]
  rw [v_seq]
  simp only [v_asg, v_if, v_ret, v_drop, v_for, v_skip, w_bnd, w_pur, x_get, w_tgN, w_subG, w_asB, w_asI, w_if, w_truB, List.getElem?_cons_zero, List.getElem?_cons_succ, List.set_cons_zero, List.set_cons_succ]
  have er : rngW [.int 1, .int (p.parts.length : Int)] g = .ok ⟨(List.range (p.parts.length - 1)).map (fun k => D.int (1 + (k : Nat))), none⟩ g := by
    unfold rngW
    dsimp only
    rw [if_pos ⟨⟨by omega, by omega⟩, ⟨by omega, by omega⟩⟩]
    unfold rngItems
    have : ((p.parts.length : Int) - 1).toNat = p.parts.length - 1 := by omega
    rw [this]
  rw [er, ok_iff]
  have hl : (List.range (p.parts.length - 1)).length = p.parts.length - 1 := List.length_range
  refine loop_wp (fun i s g' => ∃ v3 v4, s = [some (progD cP p), some (.int f), some (.int p.parts.length), v3, v4] ∧ g' = g ∧ nextF p f = nextGo p f (((List.range (p.parts.length - 1)).map (1 + ·)).drop i)) _ ⟨none, none, rfl, rfl, rfl⟩ (fun _ _ _ _ _ => True.intro) ?_ ?_
  · rintro i x s g' hx ⟨v3, v4, rfl, rfl, hnx⟩
    rw [List.getElem?_map] at hx
    cases e : (List.range (p.parts.length - 1))[i]? with
    | none => rw [e] at hx; cases hx
    | some b =>
      rw [e] at hx
      cases hx
      have hi : i < p.parts.length - 1 := by
        have := (List.getElem?_eq_some_iff.mp e).1
        rwa [hl] at this
      have eb : b = i := by
        have := (List.getElem?_eq_some_iff.mp e).2
        simpa using this.symm
      subst eb
      have hd : ((List.range (p.parts.length - 1)).map (1 + ·)).drop b = (1 + b) :: ((List.range (p.parts.length - 1)).map (1 + ·)).drop (b + 1) := by
        rw [List.drop_eq_getElem_cons (by simpa using hi)]
        simp
      rw [hd] at hnx
      have eq : ((f : Int) + (1 + (b : Int))) % (p.parts.length : Int) = (((f + (1 + b)) % p.parts.length : Nat) : Int) := by
        rw [Int.natCast_emod]
        congr 1
      rw [w_tgN, v_seq]
      simp only [v_asg, v_if, v_ret, v_drop, v_for, v_skip, w_bnd, w_pur, x_get, w_tgN, w_subG, w_asB, w_asI, w_if, w_truB, List.getElem?_cons_zero, List.getElem?_cons_succ, List.set_cons_zero, List.set_cons_succ, w_addi]
      rw [w_mod (by omega), eq, v_seq]
      simp only [v_asg, v_if, v_ret, v_drop, v_for, v_skip, w_bnd, w_pur, x_get, w_tgN, w_subG, w_asB, w_asI, w_if, w_truB, List.getElem?_cons_zero, List.getElem?_cons_succ, List.set_cons_zero, List.set_cons_succ, f_skips, in_ints, if_true]
      unfold nextGo at hnx
      by_cases hm : (((f + (1 + b)) % p.parts.length : Nat) : Int) ∈ p.skips
      · rw [if_pos hm] at hnx
        rw [decide_eq_true hm]
        first | exact ⟨_, _, rfl, rfl, hnx⟩ | exact ⟨_, _, rfl, True.intro, hnx⟩
      · rw [if_neg hm] at hnx
        rw [decide_eq_false hm]
        simp only [Bool.not_false, if_true, v_seq, v_asg, v_if, v_ret, v_drop, v_for, v_skip, w_bnd, w_pur, x_get, w_tgN, w_subG, w_asB, w_asI, w_if, w_truB, List.getElem?_cons_zero, List.getElem?_cons_succ, List.set_cons_zero, List.set_cons_succ]
        rw [hnx]
        first | exact ⟨rfl, rfl⟩ | exact ⟨rfl, True.intro⟩ | exact rfl | exact True.intro | simp
  · rintro s g' ⟨v3, v4, rfl, rfl, hnx⟩
    rw [List.length_map, hl, List.drop_eq_nil_of_le (by simp)] at hnx
    simp only [v_seq, v_asg, v_if, v_ret, v_drop, v_for, v_skip, w_bnd, w_pur, x_get, w_tgN, w_subG, w_asB, w_asI, w_if, w_truB, List.getElem?_cons_zero, List.getElem?_cons_succ, List.set_cons_zero, List.set_cons_succ, hnx, nextGo]
    first | exact ⟨rfl, rfl⟩ | exact ⟨rfl, True.intro⟩ | exact rfl | exact True.intro | simp
def movedS (p : Prg) (w : Sta) : Sta :=
  let f := nextF p w.focus.toNat
  ⟨w.values, (f : Int), putL w.queue ((f : Int), wordOf p w.values (f : Int))⟩
theorem moved_eq {p : Prg} {w : Sta} {g : GS} (hp : OkPrg p) (hw : OkSta p w) : F__moved cP [progD cP p, stD w] g = .ok (stD (movedS p w)) g := by
  obtain ⟨f, hf, hf2⟩ := hw.focus
  have ql := okQ_len hp ⟨hw.queue, hw.nd⟩
  have hn2 : nextF p f < p.parts.length := nextGo_lt (by have := hp.np; omega) hf2 _
  refine fn_eq rfl ?_
  show okS (m__moved cP [some (progD cP p), some (stD w), none, none, none, none] g) _ _ _ _
  simp only [m__moved, v_seq, v_asg, v_if, v_ret, v_drop, v_for, v_skip, w_bnd, w_pur, x_get, w_tgN, w_subG, w_asB, w_asI, w_if, w_truB, List.getElem?_cons_zero, List.getElem?_cons_succ, List.set_cons_zero, List.set_cons_succ, stD, tgT3, hf, nextf_eq hp hf2, ok_iff, wordOf_eq hp hw.vals hn2]
  rw [w_mkT (by simp)]
  have e2 : F_put cP [.tup (w.queue.map mD), .tup [.int (nextF p f : Int), .int (wordOf p w.values (nextF p f : Int))]] g = .ok (.tup ((putL w.queue ((nextF p f : Int), wordOf p w.values (nextF p f : Int))).map mD)) g := put_eq (m := ((nextF p f : Int), wordOf p w.values (nextF p f : Int))) (by omega)
  rw [e2]
  simp only [ok_iff, w_bnd, w_pur]
  rw [w_mkT (by simp)]
  simp only [movedS, hf, Int.toNat_natCast]
  first | exact ⟨rfl, rfl⟩ | exact ⟨rfl, True.intro⟩ | exact rfl | exact True.intro | simp
theorem moved_ok {p : Prg} {w : Sta} (hp : OkPrg p) (hw : OkSta p w) : OkSta p (movedS p w) := by
  obtain ⟨f, hf, hf2⟩ := hw.focus
  have hn2 : nextF p f < p.parts.length := nextGo_lt (by have := hp.np; omega) hf2 _
  have ok := okQ_put (x := wordOf p w.values (nextF p f : Int)) ⟨hw.queue, hw.nd⟩ hn2
  simp only [movedS, hf, Int.toNat_natCast]
  exact ⟨hw.vals, ⟨_, rfl, hn2⟩, ok.1, ok.2⟩
theorem changed_ok {p : Prg} {w : Sta} {c : Ch} (hp : OkPrg p) (hw : OkSta p w) : OkSta p (changedS p w c) := by
  have ok := okQ_tell (vs := w.values) (us := addL p.sizes w.values c) p.live w.queue hp.live.2 ⟨hw.queue, hw.nd⟩
  exact ⟨addL_ok hp.sizes _ _ hw.vals, hw.focus, ok.1, ok.2⟩
end K06
namespace K06
open PySem PySem.Spec PyProof.Rows L2 DL
open Classical
variable {cP : Addr}
inductive Act where
  | point (k : Nat) | next | press | tick (k : Nat) | speak
def actD : Act → D
  | .point k => .tup [.str ("point" : Str), .int k]
  | .next => .tup [.str ("next" : Str)]
  | .press => .tup [.str ("press" : Str)]
  | .tick k => .tup [.str ("tick" : Str), .int k]
  | .speak => .tup [.str ("speak" : Str)]
def pressOf (p : Prg) (k : Nat) : Option Ch := (p.parts.getD k ⟨(0, []), (0, []), none⟩).press
def pressed (p : Prg) : List Nat := (List.range p.parts.length).filter fun k => (pressOf p k).isSome
def acts0 (p : Prg) : List Act := (pressed p).map .point ++ [.next]
def acts1 (p : Prg) (w : Sta) : List Act := if w.focus.toNat ∈ pressed p then acts0 p ++ [.press] else acts0 p
def acts2 (p : Prg) (w : Sta) : List Act := acts1 p w ++ (List.range p.ticks.length).map .tick
def actsL (p : Prg) (w : Sta) : List Act := if w.queue = [] then acts2 p w else acts2 p w ++ [.speak]
theorem comp_wpF {α : Type} {w : Itm} {tg : D → Sl → M Sl} {cond : Sl → M Bool} {elt : Sl → M D} {s : Sl} {g : GS} (hok : w.ok g) (e f : α → D) (c : α → Bool) : ∀ (xs : List α), (∀ x ∈ xs, ∃ s1, tg (e x) s g = .ok s1 g ∧ cond s1 g = .ok (c x) g ∧ elt s1 g = .ok (f x) g) → compM w tg cond elt s (xs.map e) g = .ok ((xs.filter c).map f) g
  | [], h => by
    unfold compM
    rw [List.map_nil]
    dsimp only
    rw [if_pos hok]; rfl
  | x :: xs, h => by
    obtain ⟨s1, e1, e2, e3⟩ := h x List.mem_cons_self
    have ih := comp_wpF hok e f c xs fun y hy => h y (List.mem_cons_of_mem _ hy)
    rw [List.map_cons]
    unfold compM
    rw [if_pos hok, e1]
    dsimp only
    rw [e2]
    cases hc : c x with
    | true =>
      dsimp only
      rw [e3]
      dsimp only
      rw [ih, List.filter_cons_of_pos hc]
      rfl
    | false =>
      dsimp only
      rw [ih, List.filter_cons_of_neg (by rw [hc]; decide)]
theorem pressOf_at {p : Prg} {k : Nat} {g : GS} (h : k < p.parts.length) : F_press_of cP [progD cP p, .int k] g = .ok (poD (pressOf p k)) g := by
  have e := List.getElem?_eq_getElem h
  rw [press_eq e]
  unfold pressOf
  rw [List.getD_eq_getElem?_getD, e]; rfl
theorem pressed_mem {p : Prg} {k : Nat} (h : k ∈ pressed p) : k < p.parts.length ∧ ∃ c, pressOf p k = some c := by
  unfold pressed at h
  obtain ⟨h1, h2⟩ := List.mem_filter.mp h
  exact ⟨by simpa using h1, Option.isSome_iff_exists.mp h2⟩
theorem pressed_len {p : Prg} (hp : OkPrg p) : (pressed p).length ≤ 4 := by
  have h := List.length_filter_le (fun k => (pressOf p k).isSome) (List.range p.parts.length)
  rw [List.length_range] at h
  have := hp.np.2
  unfold pressed
  omega
theorem isN_po {o : Option Ch} {g : GS} {P : D → GS → Prop} : okM (isNoneD true (poD o) .non g) P ↔ P (.bl o.isSome) g := by
  cases o with
  | none => exact Iff.rfl
  | some c => exact Iff.rfl
theorem acts_wp {p : Prg} {w : Sta} {g : GS} {P : D → GS → Prop} (hp : OkPrg p) (hw : OkSta p w) (k : ∀ ex n, (g ++ ex)[n]? = some (.lst ((actsL p w).map actD)) → g.length ≤ n → P (.ref n) (g ++ ex)) : okM (F_acts cP [progD cP p, stD w] g) P := by
  obtain ⟨f, hf, hf2⟩ := hw.focus
  have hn := hp.np
  have pl := pressed_len hp
  have nt := hp.nt
  refine fn_ref rfl ?_
  show okS (m_acts cP [some (progD cP p), some (stD w), none, none, none, none, none, none, none] g) _ _ _ _
  unfold m_acts
  rw [v_seq]
  simp only [v_asg, v_if, v_ret, v_drop, v_for, v_skip, w_bnd, w_pur, x_get, w_tgN, w_subG, w_asB, w_asI, w_if, w_truB, List.getElem?_cons_zero, List.getElem?_cons_succ, List.set_cons_zero, List.set_cons_succ, stD, tgT3, hf]
  rw [v_seq]
  simp only [v_asg, v_if, v_ret, v_drop, v_for, v_skip, w_bnd, w_pur, x_get, w_tgN, w_subG, w_asB, w_asI, w_if, w_truB, List.getElem?_cons_zero, List.getElem?_cons_succ, List.set_cons_zero, List.set_cons_succ, f_parts, w_lenT, List.length_map, compD, wipeD]
  rw [x_rng (by omega) (by omega), rng_map (show (0 : Int) ≤ (p.parts.length : Int) by omega), Int.toNat_natCast]
  refine okM.of (comp_wpF (by exact True.intro) (fun k : Nat => D.int (k : Int)) (fun k : Nat => D.int (k : Int)) (fun k => (pressOf p k).isSome) _ fun k hk => ⟨[some (progD cP p), some (.tup [dI w.values, .int f, .tup (w.queue.map mD)]), some (dI w.values), some (.int f), some (.tup (w.queue.map mD)), none, none, some (.int k), none], rfl, okM.eq ?_, rfl⟩) ?_
  · have hk2 : k < p.parts.length := by simpa using hk
    simp only [v_asg, v_if, v_ret, v_drop, v_for, v_skip, w_bnd, w_pur, x_get, w_tgN, w_subG, w_asB, w_asI, w_if, w_truB, List.getElem?_cons_zero, List.getElem?_cons_succ, List.set_cons_zero, List.set_cons_succ, pressOf_at hk2, ok_iff, isN_po]
    first | exact ⟨rfl, rfl⟩ | exact ⟨rfl, True.intro⟩ | exact rfl | exact True.intro | simp
  rw [show (List.range p.parts.length).filter (fun k => (pressOf p k).isSome) = pressed p from rfl]
  rw [if_pos (by rw [List.length_map]; exact Nat.le_trans pl (by decide)), w_pur, w_newL, v_seq]
  -- the list of those that are pressed, then the acts
  have hg1 : (g ++ [Cell.lst ((pressed p).map fun k : Nat => D.int (k : Int))])[g.length]? = some (.lst ((pressed p).map fun k : Nat => D.int (k : Int))) := by simp
  generalize hG1 : g ++ [Cell.lst ((pressed p).map fun k : Nat => D.int (k : Int))] = g1 at hg1 ⊢
  have l1 : g1.length = g.length + 1 := by rw [← hG1]; simp
  simp only [v_asg, v_if, v_ret, v_drop, v_for, v_skip, w_bnd, w_pur, x_get, w_tgN, w_subG, w_asB, w_asI, w_if, w_truB, List.getElem?_cons_zero, List.getElem?_cons_succ, List.set_cons_zero, List.set_cons_succ, x_seqR, hg1, compD, wipeD]
  refine okM.of (comp_wpT (by show g1[g.length]? = _; exact hg1) (fun k : Nat => D.int (k : Int)) (fun k : Nat => actD (.point k)) _ fun k hk => ⟨[some (progD cP p), some (.tup [dI w.values, .int f, .tup (w.queue.map mD)]), some (dI w.values), some (.int f), some (.tup (w.queue.map mD)), some (.ref g.length), none, some (.int k), none], rfl, rfl, okM.eq ?_⟩) ?_
  · simp only [v_asg, v_if, v_ret, v_drop, v_for, v_skip, w_bnd, w_pur, x_get, w_tgN, w_subG, w_asB, w_asI, w_if, w_truB, List.getElem?_cons_zero, List.getElem?_cons_succ, List.set_cons_zero, List.set_cons_succ]
    rw [w_mkT (by simp)]
    exact ⟨rfl, rfl⟩
  rw [if_pos (by rw [List.length_map]; exact Nat.le_trans pl (by decide)), w_pur, w_newL, v_seq]
  have e0 : (pressed p).map (fun k : Nat => actD (.point k)) = ((pressed p).map Act.point).map actD := by rw [List.map_map]; rfl
  rw [e0]
  have app : ∀ (L : List Act) (a : Act) (s : Sl) (P : D → GS → Prop), L.length ≤ 100 → (okM (appendD (.ref g1.length) [actD a] (g1 ++ [.lst (L.map actD)])) P ↔ P .non (g1 ++ [.lst ((L ++ [a]).map actD)])) := fun L a s P hl => by
    rw [x_app (ds := L.map actD) (by simp) (by rw [List.length_map]; omega), List.map_append]
    have : ∀ c d : Cell, (g1 ++ [c]).set g1.length d = g1 ++ [d] := fun c d => by simp
    rw [this]; rfl
  have ty : ∀ (L : List Act) (P : D → GS → Prop), okM (tyM "list" (.ref g1.length) (g1 ++ [.lst (L.map actD)])) P ↔ P (.ref g1.length) (g1 ++ [.lst (L.map actD)]) := fun L P => x_tyL (ds := L.map actD) (by simp)
  simp only [v_asg, v_if, v_ret, v_drop, v_for, v_skip, w_bnd, w_pur, x_get, w_tgN, w_subG, w_asB, w_asI, w_if, w_truB, List.getElem?_cons_zero, List.getElem?_cons_succ, List.set_cons_zero, List.set_cons_succ, ty]
  rw [w_mkT (by simp)]
  rw [show D.tup [D.str ("next" : Str)] = actD .next from rfl, app _ _ [] _ (by rw [List.length_map]; omega)]
  rw [show (pressed p).map Act.point ++ [Act.next] = acts0 p from rfl]
  have len0 : (acts0 p).length ≤ 5 := by unfold acts0; simp; omega
  -- press
  have hin : ∀ (L : List Act) (P : D → GS → Prop), okM (inD false (.int (f : Int)) (.ref g.length) (g1 ++ [.lst (L.map actD)])) P ↔ P (.bl (decide (f ∈ pressed p))) (g1 ++ [.lst (L.map actD)]) := fun L P => by
    have e1 : (g1 ++ [Cell.lst (L.map actD)])[g.length]? = some (.lst (((pressed p).map fun k : Nat => (k : Int)).map D.int)) := by
      rw [List.getElem?_append_left (by omega), hg1, List.map_map]; rfl
    have e2 : decide (D.int (f : Int) ∈ ((pressed p).map fun k : Nat => (k : Int)).map D.int) = decide (f ∈ pressed p) := by
      rw [Bool.eq_iff_iff, decide_eq_true_eq, decide_eq_true_eq, List.map_map, List.mem_map]
      refine ⟨fun ⟨x, hx, e⟩ => ?_, fun h => ⟨f, h, rfl⟩⟩
      have e : D.int (x : Int) = D.int (f : Int) := e
      injection e with e
      have : x = f := by omega
      rw [← this]; exact hx
    rw [inD_lst (n := 0) (by decide) e1 rfl (plL_int _), e2]; rfl
  rw [v_seq]
  refine okS.mono (Pn := fun s g' => s = [some (progD cP p), some (.tup [dI w.values, .int f, .tup (w.queue.map mD)]), some (dI w.values), some (.int f), some (.tup (w.queue.map mD)), some (.ref g.length), some (.ref g1.length), none, none] ∧ g' = g1 ++ [.lst ((acts1 p w).map actD)]) ?_ (fun s g' z => ?_) (fun _ _ z => z) (fun _ _ z => z) fun _ _ z => z
  · simp only [v_asg, v_if, v_ret, v_drop, v_for, v_skip, w_bnd, w_pur, x_get, w_tgN, w_subG, w_asB, w_asI, w_if, w_truB, List.getElem?_cons_zero, List.getElem?_cons_succ, List.set_cons_zero, List.set_cons_succ, hin]
    unfold acts1
    rw [hf, Int.toNat_natCast]
    by_cases hm : f ∈ pressed p
    · rw [decide_eq_true hm, if_pos rfl, if_pos hm, v_seq]
      simp only [v_asg, v_if, v_ret, v_drop, v_for, v_skip, w_bnd, w_pur, x_get, w_tgN, w_subG, w_asB, w_asI, w_if, w_truB, List.getElem?_cons_zero, List.getElem?_cons_succ, List.set_cons_zero, List.set_cons_succ, ty]
      rw [w_mkT (by simp), show D.tup [D.str ("press" : Str)] = actD .press from rfl, app _ _ [] _ (by omega)]
      first | exact ⟨rfl, rfl⟩ | exact ⟨rfl, True.intro⟩ | exact rfl | exact True.intro | simp
    · rw [decide_eq_false hm, if_neg Bool.false_ne_true, if_neg hm]
      first | exact ⟨rfl, rfl⟩ | exact ⟨rfl, True.intro⟩ | exact rfl | exact True.intro | simp
  obtain ⟨rfl, rfl⟩ := z
  have len1 : (acts1 p w).length ≤ 6 := by
    unfold acts1
    split
    · rw [List.length_append]; simp; omega
    · omega
  -- ticks
  rw [v_seq]
  simp only [v_asg, v_if, v_ret, v_drop, v_for, v_skip, w_bnd, w_pur, x_get, w_tgN, w_subG, w_asB, w_asI, w_if, w_truB, List.getElem?_cons_zero, List.getElem?_cons_succ, List.set_cons_zero, List.set_cons_succ, ty, f_ticks, w_lenT, List.length_map, compD, wipeD]
  rw [x_rng (by omega) (by omega), rng_map (show (0 : Int) ≤ (p.ticks.length : Int) by omega), Int.toNat_natCast]
  refine okM.of (comp_wpT (by exact True.intro) (fun k : Nat => D.int (k : Int)) (fun k : Nat => actD (.tick k)) _ fun k hk => ⟨[some (progD cP p), some (.tup [dI w.values, .int f, .tup (w.queue.map mD)]), some (dI w.values), some (.int f), some (.tup (w.queue.map mD)), some (.ref g.length), some (.ref g1.length), none, some (.int k)], rfl, rfl, okM.eq ?_⟩) ?_
  · simp only [v_asg, v_if, v_ret, v_drop, v_for, v_skip, w_bnd, w_pur, x_get, w_tgN, w_subG, w_asB, w_asI, w_if, w_truB, List.getElem?_cons_zero, List.getElem?_cons_succ, List.set_cons_zero, List.set_cons_succ]
    rw [w_mkT (by simp)]
    exact ⟨rfl, rfl⟩
  rw [if_pos (by rw [List.length_map, List.length_range]; exact Nat.le_trans nt (by decide)), w_pur, w_newL]
  have e3 : (List.range p.ticks.length).map (fun k : Nat => actD (.tick k)) = ((List.range p.ticks.length).map Act.tick).map actD := by rw [List.map_map]; rfl
  rw [e3]
  have hx : okM (extendD (.ref g1.length) [.ref (g1 ++ [Cell.lst ((acts1 p w).map actD)]).length] ((g1 ++ [Cell.lst ((acts1 p w).map actD)]) ++ [.lst (((List.range p.ticks.length).map Act.tick).map actD)])) (fun d g' => d = .non ∧ g' = (g1 ++ [Cell.lst ((acts2 p w).map actD)]) ++ [.lst (((List.range p.ticks.length).map Act.tick).map actD)]) := by
    unfold extendD
    dsimp only
    have a1 : ((g1 ++ [Cell.lst ((acts1 p w).map actD)]) ++ [Cell.lst (((List.range p.ticks.length).map Act.tick).map actD)])[g1.length]? = some (.lst ((acts1 p w).map actD)) := by simp
    rw [a1, List.getElem?_concat_length]
    dsimp only
    rw [if_pos (by rw [List.length_map, List.length_map, List.length_map, List.length_range]; exact Nat.le_trans (show (acts1 p w).length + p.ticks.length ≤ 10 by omega) (by decide))]
    refine ⟨rfl, ?_⟩
    rw [acts2, List.map_append]
    simp
  refine hx.mono fun d g' z => ?_
  obtain ⟨rfl, rfl⟩ := z
  have len2 : (acts2 p w).length ≤ 8 := by unfold acts2; simp; omega
  -- speak
  generalize ((List.range p.ticks.length).map Act.tick).map actD = tk
  have a2 : ((g1 ++ [Cell.lst ((acts2 p w).map actD)]) ++ [Cell.lst tk])[g1.length]? = some (.lst ((acts2 p w).map actD)) := by simp
  rw [v_seq]
  simp only [v_asg, v_if, v_ret, v_drop, v_for, v_skip, w_bnd, w_pur, x_get, w_tgN, w_subG, w_asB, w_asI, w_if, w_truB, List.getElem?_cons_zero, List.getElem?_cons_succ, List.set_cons_zero, List.set_cons_succ, w_truT]
  rw [show (!(w.queue.map mD).isEmpty) = decide (w.queue ≠ []) from by cases w.queue <;> rfl]
  have fin : ∀ ex' : GS, ∀ L : List Act, L = actsL p w → (g ++ ex')[g1.length]? = some (.lst (L.map actD)) → P (.ref g1.length) (g ++ ex') ∧ (D.ref g1.length).und g.length = false := fun ex' L eL h => ⟨k ex' _ (by rw [← eL]; exact h) (by omega), by
    show decide (g1.length < g.length) = false
    exact decide_eq_false (by omega)⟩
  have eg : ∀ c c2 : Cell, g1 ++ [c] ++ [c2] = g ++ ([Cell.lst ((pressed p).map fun k : Nat => D.int (k : Int))] ++ [c] ++ [c2]) := fun c c2 => by rw [← hG1]; simp
  by_cases hq : w.queue = []
  · have e5 : actsL p w = acts2 p w := by unfold actsL; rw [if_pos hq]
    rw [decide_eq_false (by simpa using hq), if_neg Bool.false_ne_true, v_seq]
    simp only [v_asg, v_if, v_ret, v_drop, v_for, v_skip, w_bnd, w_pur, x_get, w_tgN, w_subG, w_asB, w_asI, w_if, w_truB, List.getElem?_cons_zero, List.getElem?_cons_succ, List.set_cons_zero, List.set_cons_succ]
    rw [eg] at a2 ⊢
    exact fin _ _ e5.symm a2
  · have e5 : actsL p w = acts2 p w ++ [.speak] := by unfold actsL; rw [if_neg hq]
    rw [decide_eq_true hq, if_pos rfl, v_seq]
    simp only [v_asg, v_if, v_ret, v_drop, v_for, v_skip, w_bnd, w_pur, x_get, w_tgN, w_subG, w_asB, w_asI, w_if, w_truB, List.getElem?_cons_zero, List.getElem?_cons_succ, List.set_cons_zero, List.set_cons_succ]
    rw [x_tyL a2, w_mkT (by simp), x_app a2 (by rw [List.length_map]; omega), v_seq]
    simp only [v_asg, v_if, v_ret, v_drop, v_for, v_skip, w_bnd, w_pur, x_get, w_tgN, w_subG, w_asB, w_asI, w_if, w_truB, List.getElem?_cons_zero, List.getElem?_cons_succ, List.set_cons_zero, List.set_cons_succ]
    have e6 : ((g1 ++ [Cell.lst ((acts2 p w).map actD)]) ++ [Cell.lst tk]).set g1.length (.lst ((acts2 p w).map actD ++ [.tup [.str ("speak" : Str)]])) = (g1 ++ [Cell.lst ((acts2 p w ++ [Act.speak]).map actD)]) ++ [Cell.lst tk] := by
      rw [List.map_append]
      simp
      rfl
    rw [e6, eg]
    refine fin _ _ e5.symm ?_
    rw [← eg]
    simp
end K06
namespace K06
open PySem PySem.Spec PyProof.Rows L2 DL
open Classical
variable {cP : Addr}
def stepS (p : Prg) (w : Sta) : Act → Sta
  | .point k => changedS p w ((pressOf p k).getD [])
  | .next => movedS p w
  | .press => changedS p w ((pressOf p w.focus.toNat).getD [])
  | .tick k => changedS p w (p.ticks.getD k [])
  | .speak => ⟨w.values, w.focus, w.queue.drop 1⟩
def spD (w : Sta) : Act → D
  | .speak => mD (w.queue.headD (0, 0))
  | _ => .tup []
theorem acts_mem {p : Prg} {w : Sta} {a : Act} (h : a ∈ actsL p w) : match a with
    | .point k => k ∈ pressed p
    | .next => True
    | .press => w.focus.toNat ∈ pressed p
    | .tick k => k < p.ticks.length
    | .speak => w.queue ≠ [] := by
  have h0 : ∀ b, b ∈ acts0 p → match b with
      | .point k => k ∈ pressed p
      | .next => True
      | _ => False := fun b hb => by
    unfold acts0 at hb
    rcases List.mem_append.mp hb with hb | hb
    · obtain ⟨k, hk, rfl⟩ := List.mem_map.mp hb
      exact hk
    · have : b = .next := by simpa using hb
      subst this; trivial
  have h1 : ∀ b, b ∈ acts1 p w → match b with
      | .point k => k ∈ pressed p
      | .next => True
      | .press => w.focus.toNat ∈ pressed p
      | _ => False := fun b hb => by
    unfold acts1 at hb
    split at hb
    · rename_i hm
      rcases List.mem_append.mp hb with hb | hb
      · have := h0 b hb
        cases b <;> first | exact this | trivial | exact this.elim
      · have : b = .press := by simpa using hb
        subst this; exact hm
    · have := h0 b hb
      cases b <;> first | exact this | trivial | exact this.elim
  have h2 : ∀ b, b ∈ acts2 p w → match b with
      | .point k => k ∈ pressed p
      | .next => True
      | .press => w.focus.toNat ∈ pressed p
      | .tick k => k < p.ticks.length
      | .speak => False := fun b hb => by
    unfold acts2 at hb
    rcases List.mem_append.mp hb with hb | hb
    · have := h1 b hb
      cases b <;> first | exact this | trivial | exact this.elim
    · obtain ⟨k, hk, rfl⟩ := List.mem_map.mp hb
      exact List.mem_range.mp hk
  unfold actsL at h
  split at h
  · have := h2 a h
    cases a <;> first | exact this | trivial | exact this.elim
  · rename_i hq
    rcases List.mem_append.mp h with h | h
    · have := h2 a h
      cases a <;> first | exact this | trivial | exact this.elim
    · have : a = .speak := by simpa using h
      subst this; exact hq
theorem str_ok : PyData.strOk ("point" : Str) = true ∧ PyData.strOk ("next" : Str) = true ∧ PyData.strOk ("press" : Str) = true ∧ PyData.strOk ("tick" : Str) = true ∧ PyData.strOk ("speak" : Str) = true := by decide +kernel
theorem changes_of_eq {p : Prg} {w : Sta} {a : Act} {g : GS} (hp : OkPrg p) (hw : OkSta p w) (ha : a ∈ actsL p w) (h1 : a ≠ .next) (h2 : a ≠ .speak) : ∃ c, OkCh p.sizes c ∧ stepS p w a = changedS p w c ∧ F__changes_of cP [progD cP p, .int w.focus, actD a] g = .ok (chD c) g := by
  obtain ⟨f, hf, hf2⟩ := hw.focus
  have hm := acts_mem ha
  have sne : ∀ (x y : Str) (P : D → GS → Prop), PyData.strOk x = true → PyData.strOk y = true → (okM (eqD (.str x) (.str y) g) P ↔ P (.bl (decide (D.str x = D.str y))) g) := fun x y P a b => w_eq (n := 0) (by decide) (by simpa [D.pl] using a) (by simpa [D.pl] using b)
  have pok : ∀ k, k ∈ pressed p → ∃ c, pressOf p k = some c ∧ OkCh p.sizes c ∧ k < p.parts.length := fun k hk => by
    obtain ⟨hl, c, hc⟩ := pressed_mem hk
    refine ⟨c, hc, ?_, hl⟩
    have e := List.getElem?_eq_getElem hl
    have e2 : pressOf p k = (p.parts[k]).press := by unfold pressOf; rw [List.getD_eq_getElem?_getD, e]; rfl
    exact (hp.parts _ (List.getElem_mem hl)).2.2 c (by rw [← e2]; exact hc)
  have d1 : decide (D.str ("point" : Str) = D.str ("tick" : Str)) = false := decide_eq_false (by intro z; injection z with z; exact absurd z (by decide +kernel))
  have d2 : decide (D.str ("press" : Str) = D.str ("tick" : Str)) = false := decide_eq_false (by intro z; injection z with z; exact absurd z (by decide +kernel))
  have d3 : decide (D.str ("press" : Str) = D.str ("point" : Str)) = false := decide_eq_false (by intro z; injection z with z; exact absurd z (by decide +kernel))
  cases a with
  | next => exact absurd rfl h1
  | speak => exact absurd rfl h2
  | point k =>
    obtain ⟨c, hc, ok, hl⟩ := pok k hm
    refine ⟨c, ok, by simp only [stepS, hc, Option.getD_some], fn_eq rfl ?_⟩
    show okS (m__changes_of cP [some (progD cP p), some (.int w.focus), some (actD (.point k))] g) _ _ _ _
    simp only [m__changes_of, v_seq, v_asg, v_if, v_ret, v_drop, v_for, v_skip, w_bnd, w_pur, x_get, w_tgN, w_subG, w_asB, w_asI, w_if, w_truB, List.getElem?_cons_zero, List.getElem?_cons_succ, List.set_cons_zero, List.set_cons_succ, actD, x_ixT, DL.atI0, DL.atI1, sne _ _ _ str_ok.1 str_ok.2.2.2.1, sne _ _ _ str_ok.1 str_ok.1, d1, decide_true, Bool.false_eq_true, if_false, if_true, pressOf_at hl, hc, ok_iff, poD]
    first | exact ⟨rfl, rfl⟩ | exact ⟨rfl, True.intro⟩ | exact rfl | exact True.intro | simp
  | press =>
    rw [hf, Int.toNat_natCast] at hm
    obtain ⟨c, hc, ok, hl⟩ := pok f hm
    refine ⟨c, ok, by simp only [stepS, hf, Int.toNat_natCast, hc, Option.getD_some], fn_eq rfl ?_⟩
    show okS (m__changes_of cP [some (progD cP p), some (.int w.focus), some (actD .press)] g) _ _ _ _
    simp only [m__changes_of, v_seq, v_asg, v_if, v_ret, v_drop, v_for, v_skip, w_bnd, w_pur, x_get, w_tgN, w_subG, w_asB, w_asI, w_if, w_truB, List.getElem?_cons_zero, List.getElem?_cons_succ, List.set_cons_zero, List.set_cons_succ, actD, x_ixT, DL.atI0, DL.atI1, sne _ _ _ str_ok.2.2.1 str_ok.2.2.2.1, sne _ _ _ str_ok.2.2.1 str_ok.1, d2, d3, hf, Bool.false_eq_true, if_false, if_true, pressOf_at hl, hc, ok_iff, poD]
    first | exact ⟨rfl, rfl⟩ | exact ⟨rfl, True.intro⟩ | exact rfl | exact True.intro | simp
  | tick k =>
    have e := List.getElem?_eq_getElem hm
    refine ⟨p.ticks[k], hp.ticks _ (List.getElem_mem hm), by simp only [stepS, List.getD_eq_getElem?_getD, e, Option.getD_some], fn_eq rfl ?_⟩
    have hat : atI (p.ticks.map chD) (k : Int) = some (chD p.ticks[k]) := DL.atI_nat (by rw [List.getElem?_map, e]; rfl)
    show okS (m__changes_of cP [some (progD cP p), some (.int w.focus), some (actD (.tick k))] g) _ _ _ _
    simp only [m__changes_of, v_seq, v_asg, v_if, v_ret, v_drop, v_for, v_skip, w_bnd, w_pur, x_get, w_tgN, w_subG, w_asB, w_asI, w_if, w_truB, List.getElem?_cons_zero, List.getElem?_cons_succ, List.set_cons_zero, List.set_cons_succ, actD, x_ixT, DL.atI0, DL.atI1, sne _ _ _ str_ok.2.2.2.1 str_ok.2.2.2.1, decide_true, if_true, f_ticks, hat]
    first | exact ⟨rfl, rfl⟩ | exact ⟨rfl, True.intro⟩ | exact rfl | exact True.intro | simp
theorem step_wp {p : Prg} {w : Sta} {a : Act} {g : GS} {P : D → GS → Prop} (hp : OkPrg p) (hw : OkSta p w) (ha : a ∈ actsL p w) (k : ∀ ex, P (.tup [stD (stepS p w a), spD w a]) (g ++ ex)) : okM (F_step cP [progD cP p, stD w, actD a] g) P := by
  have hm := acts_mem ha
  have sne : ∀ (x y : Str) (P : D → GS → Prop), PyData.strOk x = true → PyData.strOk y = true → (okM (eqD (.str x) (.str y) g) P ↔ P (.bl (decide (D.str x = D.str y))) g) := fun x y P a b => w_eq (n := 0) (by decide) (by simpa [D.pl] using a) (by simpa [D.pl] using b)
  have ne : ∀ (x y : Str), x ≠ y → decide (D.str x = D.str y) = false := fun x y h => decide_eq_false (by intro z; injection z with z; exact h z)
  refine fn_app rfl ?_ k
  show okS (m_step cP [some (progD cP p), some (stD w), some (actD a), none, none, none] g) _ _ _ _
  unfold m_step
  rw [v_seq]
  simp only [v_asg, v_if, v_ret, v_drop, v_for, v_skip, w_bnd, w_pur, x_get, w_tgN, w_subG, w_asB, w_asI, w_if, w_truB, List.getElem?_cons_zero, List.getElem?_cons_succ, List.set_cons_zero, List.set_cons_succ, stD, tgT3]
  by_cases h2 : a = .speak
  · subst h2
    obtain ⟨m, q, hq⟩ : ∃ m q, w.queue = m :: q := List.exists_cons_of_ne_nil hm
    rw [v_seq]
    simp only [v_asg, v_if, v_ret, v_drop, v_for, v_skip, w_bnd, w_pur, x_get, w_tgN, w_subG, w_asB, w_asI, w_if, w_truB, List.getElem?_cons_zero, List.getElem?_cons_succ, List.set_cons_zero, List.set_cons_succ, actD, x_ixT, DL.atI0, sne _ _ _ str_ok.2.2.2.2 str_ok.2.2.2.2, decide_true, if_true, v_seq, hq, List.map_cons, w_slT, cut_one, List.drop_succ_cons, List.drop_zero]
    rw [w_mkT (by simp), w_mkT (by simp)]
    refine ⟨?_, [], by simp⟩
    simp only [stepS, spD, hq, List.drop_succ_cons, List.drop_zero, List.headD_cons]
  by_cases h1 : a = .next
  · subst h1
    have em := moved_eq (cP := cP) (g := g) hp hw
    simp only [stD] at em
    rw [v_seq]
    simp only [v_asg, v_if, v_ret, v_drop, v_for, v_skip, w_bnd, w_pur, x_get, w_tgN, w_subG, w_asB, w_asI, w_if, w_truB, List.getElem?_cons_zero, List.getElem?_cons_succ, List.set_cons_zero, List.set_cons_succ, actD, x_ixT, DL.atI0, sne _ _ _ str_ok.2.1 str_ok.2.2.2.2, sne _ _ _ str_ok.2.1 str_ok.2.1, ne _ _ (show ("next" : Str) ≠ "speak" by decide +kernel), decide_true, Bool.false_eq_true, if_false, if_true, v_seq, em, ok_iff]
    rw [w_mkT (by simp), w_mkT (by simp)]
    exact ⟨rfl, [], by simp⟩
  obtain ⟨c, ok, es, ec⟩ := changes_of_eq (cP := cP) (g := g) hp hw ha h1 h2
  have hd : ∃ z r, actD a = .tup (.str z :: r) ∧ PyData.strOk z = true ∧ z ≠ ("speak" : Str) ∧ z ≠ ("next" : Str) := by
    cases a with
    | next => exact absurd rfl h1
    | speak => exact absurd rfl h2
    | point k => exact ⟨_, _, rfl, str_ok.1, by decide +kernel, by decide +kernel⟩
    | press => exact ⟨_, _, rfl, str_ok.2.2.1, by decide +kernel, by decide +kernel⟩
    | tick k => exact ⟨_, _, rfl, str_ok.2.2.2.1, by decide +kernel, by decide +kernel⟩
  have esp : spD w a = .tup [] := by cases a <;> first | rfl | exact absurd rfl h2
  obtain ⟨z, r, hz, zo, z1, z2⟩ := hd
  rw [hz] at ec ⊢
  rw [v_seq]
  simp only [v_asg, v_if, v_ret, v_drop, v_for, v_skip, w_bnd, w_pur, x_get, w_tgN, w_subG, w_asB, w_asI, w_if, w_truB, List.getElem?_cons_zero, List.getElem?_cons_succ, List.set_cons_zero, List.set_cons_succ, x_ixT, DL.atI0, sne _ _ _ zo str_ok.2.2.2.2, sne _ _ _ zo str_ok.2.1, ne _ _ z1, ne _ _ z2, Bool.false_eq_true, if_false, v_seq, ec, ok_iff]
  refine changed_wp (w := w) hp hw ok fun ex => ?_
  rw [w_mkT (by simp), w_mkT (by simp)]
  refine ⟨?_, _, rfl⟩
  rw [esp, es]
  rfl
theorem step_ok {p : Prg} {w : Sta} {a : Act} (hp : OkPrg p) (hw : OkSta p w) (ha : a ∈ actsL p w) : OkSta p (stepS p w a) := by
  cases a with
  | point k => exact changed_ok hp hw
  | next => exact moved_ok hp hw
  | press => exact changed_ok hp hw
  | tick k => exact changed_ok hp hw
  | speak => exact ⟨hw.vals, hw.focus, fun m hm => hw.queue m (List.mem_of_mem_drop hm), by
      have : ((w.queue.drop 1).map (·.1)).Nodup := by rw [List.map_drop]; exact hw.nd.sublist (List.drop_sublist _ _)
      exact this⟩
end K06
namespace K06
open PySem PySem.Spec PyProof.Rows L2 DL
open Classical
variable {cP : Addr}
theorem dget_parts {p : Prg} {n : Nat} {g : GS} {P : D → GS → Prop} (h : g[n]? = some (.dic (prgK p))) : okM (dgetD (.ref n) (.str ("parts" : Str)) g) P ↔ P (.tup (p.parts.map partD)) g := by
  unfold dgetD keyD
  dsimp only
  rw [h]
  dsimp only
  rw [show dget (prgK p) (.inr ("parts" : Str)) = some (.tup (p.parts.map partD)) from rfl]; rfl
theorem dget_sizes {p : Prg} {n : Nat} {g : GS} {P : D → GS → Prop} (h : g[n]? = some (.dic (prgK p))) : okM (dgetD (.ref n) (.str ("sizes" : Str)) g) P ↔ P (dI p.sizes) g := by
  unfold dgetD keyD
  dsimp only
  rw [h]
  dsimp only
  rw [show dget (prgK p) (.inr ("sizes" : Str)) = some (dI p.sizes) from rfl]; rfl
theorem dget_ticks {p : Prg} {n : Nat} {g : GS} {P : D → GS → Prop} (h : g[n]? = some (.dic (prgK p))) : okM (dgetD (.ref n) (.str ("ticks" : Str)) g) P ↔ P (.tup (p.ticks.map chD)) g := by
  unfold dgetD keyD
  dsimp only
  rw [h]
  dsimp only
  rw [show dget (prgK p) (.inr ("ticks" : Str)) = some (.tup (p.ticks.map chD)) from rfl]; rfl
theorem dget_live {p : Prg} {n : Nat} {g : GS} {P : D → GS → Prop} (h : g[n]? = some (.dic (prgK p))) : okM (dgetD (.ref n) (.str ("live" : Str)) g) P ↔ P (dI p.live) g := by
  unfold dgetD keyD
  dsimp only
  rw [h]
  dsimp only
  rw [show dget (prgK p) (.inr ("live" : Str)) = some (dI p.live) from rfl]; rfl
theorem dget_skips {p : Prg} {n : Nat} {g : GS} {P : D → GS → Prop} (h : g[n]? = some (.dic (prgK p))) : okM (dgetD (.ref n) (.str ("skips" : Str)) g) P ↔ P (dI p.skips) g := by
  unfold dgetD keyD
  dsimp only
  rw [h]
  dsimp only
  rw [show dget (prgK p) (.inr ("skips" : Str)) = some (dI p.skips) from rfl]; rfl
theorem plL_intN (n : Nat) : ∀ (l : List Int), plL n (l.map D.int) = true
  | [] => rfl
  | x :: l => by rw [List.map_cons, plL, plL_intN n l]; rfl
theorem pl_stD (w : Sta) : (stD w).pl 3 = true := by
  have h1 : plL 1 (w.values.map D.int) = true := plL_intN 1 _
  have h2 : plL 1 (w.queue.map mD) = true := plL_q _
  simp [stD, dI, D.pl, plL, h1, h2]
end K06
namespace K06
open PySem PySem.Spec PyProof.Rows L2 DL
open Classical
variable {cP : Addr}
/-- where the parts are unlike, the first one of m's part is the only one -/
theorem put_at {q : List (Int × Int)} {m x : Int × Int} {i : Nat} (nd : (q.map (·.1)).Nodup) (hx : q[i]? = some x) (e : x.1 = m.1) : putL q m = q.set i m := by
  have hi := (List.getElem?_eq_some_iff.mp hx).1
  have ex : q[i] = x := (List.getElem?_eq_some_iff.mp hx).2
  unfold putL
  rw [if_pos (List.any_eq_true.mpr ⟨x, List.mem_of_getElem? hx, by simp [e]⟩)]
  apply List.ext_getElem
  · simp
  · intro j h1 h2
    rw [List.getElem_map, List.getElem_set]
    have hj : j < q.length := by simpa using h1
    by_cases hij : i = j
    · subst hij
      rw [if_pos rfl, if_pos (by rw [ex]; exact e)]
    · rw [if_neg hij, if_neg]
      intro z
      refine hij ?_
      have h3 : (q.map (·.1))[i]'(by simpa using hi) = (q.map (·.1))[j]'(by simpa using hj) := by
        rw [List.getElem_map, List.getElem_map, ex, z, e]
      exact (List.getElem_inj nd).mp h3
theorem put_none {q : List (Int × Int)} {m : Int × Int} (h : ∀ x ∈ q, x.1 ≠ m.1) : putL q m = q ++ [m] := by
  unfold putL
  rw [if_neg]
  intro z
  obtain ⟨x, hx, e⟩ := List.any_eq_true.mp z
  exact h x hx (by simpa using e)
theorem lput_wp {q : List (Int × Int)} {m : Int × Int} {g : GS} {P : D → GS → Prop} (nd : (q.map (·.1)).Nodup) (hq : q.length ≤ 1000) (h : ∀ ex, P (qD (putL q m)) (g ++ ex)) : okM (F__law_put cP [qD q, mD m] g) P := by
  have h0 : P (qD (putL q m)) g := by simpa using h []
  refine okM.mono (P := fun d g' => d = qD (putL q m) ∧ ∃ ex, g' = g ++ ex) (fn_wp rfl ?_) (by rintro _ _ ⟨rfl, ex, rfl⟩; exact h ex)
  have hn : (g ++ [Cell.lst (q.map mD)])[g.length]? = some (.lst (q.map mD)) := by simp
  show okS (m__law_put cP [some (qD q), some (mD m), none, none] g) _ _ _ _
  simp only [m__law_put, qD, w_listT, v_seq, v_asg, v_if, v_ret, v_drop, v_for, v_skip, w_bnd, w_pur, x_get, w_tgN, w_subG, x_ixT, x_ixR, x_lenR, x_tupR, x_set, w_asB, w_if, List.getElem?_cons_zero, List.getElem?_cons_succ, List.set_cons_zero, List.set_cons_succ, DL.atI0, w_eqI, decide_eq_true_eq, hn, List.length_map]
  rw [x_rng (by omega) (by omega)]
  refine loop_wp (fun i s g' => ∃ v, s = [some (.tup (q.map mD)), some (mD m), some (.ref g.length), v] ∧ g' = g ++ [.lst (q.map mD)] ∧ ∀ x ∈ q.take i, x.1 ≠ m.1) (rngItems 0 (q.length : Int)) ⟨_, rfl, rfl, by simp⟩ (fun _ _ _ _ _ => True.intro) ?_ ?_
  · rintro i d s g' hd ⟨v, rfl, rfl, hno⟩
    obtain ⟨hi, rfl⟩ := rng_get hd
    have hx : q[i]? = some q[i] := List.getElem?_eq_getElem hi
    have hat : atI (q.map mD) (i : Int) = some (mD q[i]) := DL.atI_nat (by rw [List.getElem?_map, hx]; rfl)
    simp only [v_seq, v_asg, v_if, v_ret, v_drop, v_for, v_skip, w_bnd, w_pur, x_get, w_tgN, w_subG, x_ixT, x_ixR, x_lenR, x_tupR, x_set, w_asB, w_if, List.getElem?_cons_zero, List.getElem?_cons_succ, List.set_cons_zero, List.set_cons_succ, DL.atI0, w_eqI, decide_eq_true_eq, hn, hat]
    simp only [mD, v_seq, v_asg, v_if, v_ret, v_drop, v_for, v_skip, w_bnd, w_pur, x_get, w_tgN, w_subG, x_ixT, x_ixR, x_lenR, x_tupR, x_set, w_asB, w_if, List.getElem?_cons_zero, List.getElem?_cons_succ, List.set_cons_zero, List.set_cons_succ, DL.atI0, w_eqI, decide_eq_true_eq]
    by_cases hm : q[i].1 = m.1
    · rw [if_pos hm]
      have e := put_at nd hx hm
      have hset : ∀ c : Cell, (g ++ [Cell.lst (q.map mD)]).set g.length c = g ++ [c] := fun c => by simp
      have hget : ∀ c : Cell, (g ++ [c])[g.length]? = some c := fun c => by simp
      simp only [hn, List.length_map, DL.ixN_nat hi, hset, hget]
      have e2 : (q.map mD).set i (.tup [.int m.1, .int m.2]) = (putL q m).map mD := by
        rw [e, List.map_set]; rfl
      rw [e2]
      exact ⟨⟨rfl, _, rfl⟩, rfl, [], by simp⟩
    · rw [if_neg hm]
      refine ⟨_, rfl, True.intro, fun x hx2 => ?_⟩
      rw [List.take_add_one, hx, List.mem_append] at hx2
      rcases hx2 with hx2 | hx2
      · exact hno x hx2
      · have : x = q[i] := by simpa using hx2
        rw [this]; exact hm
  · rintro s g' ⟨v, rfl, rfl, hno⟩
    simp only [v_seq, v_asg, v_if, v_ret, v_drop, v_for, v_skip, w_bnd, w_pur, x_get, w_tgN, w_subG, x_ixT, x_ixR, x_lenR, x_tupR, x_set, w_asB, w_if, List.getElem?_cons_zero, List.getElem?_cons_succ, List.set_cons_zero, List.set_cons_succ, DL.atI0, w_eqI, decide_eq_true_eq, hn]
    rw [rng_len, List.take_length] at hno
    rw [w_mkL (by simp), x_addR (xs := q.map mD) (ys := [mD m]) (by simp) (by simp) (by simp; omega), w_tupR (ds := q.map mD ++ [mD m]) (by simp)]
    have e2 : q.map mD ++ [mD m] = (putL q m).map mD := by rw [put_none hno, List.map_append]; rfl
    rw [e2]
    exact ⟨⟨rfl, _, by rw [List.append_assoc, List.append_assoc]⟩, rfl, [], by simp⟩
end K06
namespace K06
open PySem PySem.Spec PyProof.Rows L2 DL
open Classical
variable {cP : Addr}
theorem ladded_wp {p : Prg} {n : Nat} {vs : List Int} {c : Ch} {g : GS} {P : D → GS → Prop} (hp : OkPrg p) (hn0 : g[n]? = some (.dic (prgK p))) (hv : OkVals p.sizes vs) (hc : OkCh p.sizes c) (k : ∀ ex, P (dI (addL p.sizes vs c)) (g ++ ex)) : okM (F__law_added cP [.ref n, dI vs, chD c] g) P := by
  have hs := hp.sizes
  have ln : n < g.length := (List.getElem?_eq_some_iff.mp hn0).1
  have hn1 : ∀ c : Cell, (g ++ [c])[n]? = some (.dic (prgK p)) := fun c => by rw [List.getElem?_append_left ln]; exact hn0
  refine fn_app rfl ?_ k
  show okS (m__law_added cP [some (.ref n), some (dI vs), some (chD c), none, none, none] g) _ _ _ _
  simp only [m__law_added, v_seq, v_asg, v_if, v_ret, v_drop, v_for, v_skip, w_bnd, w_pur, x_get, w_tgN, w_subG, w_asB, w_asI, w_if, w_truB, List.getElem?_cons_zero, List.getElem?_cons_succ, List.set_cons_zero, List.set_cons_succ, dI, chD, w_listT, x_seqT]
  refine loop_wp (fun k s g' => ∃ v4 v5, s = [some (.ref n), some (.tup (vs.map D.int)), some (.tup (c.map mD)), some (.ref g.length), v4, v5] ∧ g' = g ++ [.lst ((addL p.sizes vs (c.take k)).map D.int)]) _ ⟨none, none, rfl, rfl⟩ (fun _ _ _ _ _ => True.intro) ?_ ?_
  · rintro i x s g' hx ⟨v4, v5, rfl, rfl⟩
    rw [List.getElem?_map] at hx
    cases e : c[i]? with
    | none => rw [e] at hx; cases hx
    | some m =>
      rw [e] at hx
      cases hx
      have hm := hc.2.2 m (List.mem_of_getElem? e)
      obtain ⟨v, hv1⟩ := Int.eq_ofNat_of_zero_le hm.1.1
      have hv2 : v < p.sizes.length := by omega
      have ok := addL_ok hs (c.take i) vs hv
      have etake : c.take (i + 1) = c.take i ++ [m] := by rw [List.take_add_one, e]; rfl
      have enext : addL p.sizes vs (c.take (i + 1)) = addOne p.sizes (addL p.sizes vs (c.take i)) m := by
        unfold addL
        rw [etake, List.foldl_append]; rfl
      generalize addL p.sizes vs (c.take i) = us at ok enext
      have hu : v < us.length := by rw [ok.1]; exact hv2
      have e1 := List.getElem?_eq_getElem hu
      have e2 := List.getElem?_eq_getElem hv2
      have hz := hs.2.2 _ (List.getElem_mem hv2)
      have hn : (g ++ [Cell.lst (us.map D.int)])[g.length]? = some (.lst (us.map D.int)) := by simp
      simp only [mD, tgT2, w_pur]
      simp only [v_seq, v_asg, v_if, v_ret, v_drop, v_for, v_skip, w_bnd, w_pur, x_get, w_tgN, w_subG, w_asB, w_asI, w_if, w_truB, List.getElem?_cons_zero, List.getElem?_cons_succ, List.set_cons_zero, List.set_cons_succ, x_ixR, hn, hv1, Int.ofNat_eq_natCast, int_at e1, w_addi, w_intI, dget_sizes (hn1 _), dI, x_ixT, int_at e2]
      rw [w_mod (by omega)]
      simp only [x_set, hn, List.length_map, DL.ixN_nat hu]
      refine ⟨_, _, rfl, ?_⟩
      have hset : ∀ c : Cell, (g ++ [Cell.lst (us.map D.int)]).set g.length c = g ++ [c] := fun c => by simp
      rw [hset, enext]
      unfold addOne
      rw [hv1]
      simp only [Int.ofNat_eq_natCast, Int.toNat_natCast, List.getD_eq_getElem?_getD, e1, e2, Option.getD_some, List.map_set]
  · rintro s g' ⟨v4, v5, rfl, rfl⟩
    have hl : (c.map mD).length = c.length := List.length_map _
    simp only [hl, List.take_length, v_asg, v_if, v_ret, v_drop, v_for, v_skip, w_bnd, w_pur, x_get, w_tgN, w_subG, w_asB, w_asI, w_if, w_truB, List.getElem?_cons_zero, List.getElem?_cons_succ, List.set_cons_zero, List.set_cons_succ, x_tupR, List.getElem?_concat_length]
    first | exact ⟨rfl, _, rfl⟩ | exact ⟨True.intro, _, rfl⟩
theorem lword_eq {p : Prg} {n : Nat} {vs : List Int} {k : Nat} {g : GS} (hp : OkPrg p) (hn : g[n]? = some (.dic (prgK p))) (hw : OkVals p.sizes vs) (h : k < p.parts.length) : F__law_word cP [.ref n, dI vs, .int k] g = .ok (.int (wordOf p vs k)) g := by
  have e := List.getElem?_eq_getElem h
  obtain ⟨v, m, e1, e2, e3⟩ := pr_look (hp.parts _ (List.getElem_mem h)).2.1 hw
  rw [wordOf_at e]
  refine fn_eq rfl ?_
  show okS (m__law_word cP [some (.ref n), some (dI vs), some (.int k), none, none] g) _ _ _ _
  simp only [m__law_word, v_seq, v_asg, v_if, v_ret, v_drop, v_for, v_skip, w_bnd, w_pur, x_get, w_tgN, w_subG, w_asB, w_asI, w_if, w_truB, List.getElem?_cons_zero, List.getElem?_cons_succ, List.set_cons_zero, List.set_cons_succ, dget_parts hn, x_ixT, part_at e, partD, DL.atI1, prD, tgT2, e1, dI, int_at e2, int_at e3]
  first | exact ⟨rfl, rfl⟩ | exact ⟨rfl, True.intro⟩ | exact rfl | exact True.intro | simp
end K06
namespace K06
open PySem PySem.Spec PyProof.Rows L2 DL
open Classical
variable {cP : Addr}
def keptL (p : Prg) : List Nat := (List.range p.parts.length).filter fun k => decide ((k : Int) ∉ p.skips)
/-- of all cases of up to four parts -/
theorem turn_cases : ∀ n : Fin 5, ∀ f : Fin 4, ∀ a b c d : Bool, f.val < n.val →
    let sk : Nat → Bool := fun k => match k with | 0 => a | 1 => b | 2 => c | 3 => d | _ => false
    let kept := (List.range n.val).filter fun k => !sk k
    ((kept.filter fun k => decide (f.val < k)) ++ kept ++ [f.val])[0]? =
      some (((List.range (n.val - 1)).map fun k => (f.val + (1 + k)) % n.val).find? (fun q => !sk q) |>.getD f.val) := by decide +kernel
theorem nextGo_find (p : Prg) (f : Nat) : ∀ l : List Nat, nextGo p f l = ((l.map fun b => (f + b) % p.parts.length).find? fun q : Nat => !decide ((q : Int) ∈ p.skips)).getD f
  | [] => rfl
  | b :: r => by
    unfold nextGo
    rw [List.map_cons, List.find?_cons]
    by_cases h : (((f + b) % p.parts.length : Nat) : Int) ∈ p.skips
    · rw [if_pos h, decide_eq_true h, nextGo_find p f r]; rfl
    · rw [if_neg h, decide_eq_false h]; rfl
theorem turn_eq {p : Prg} {f : Nat} (hp : OkPrg p) (hf : f < p.parts.length) : (((keptL p).filter fun k => decide (f < k)) ++ keptL p ++ [f])[0]? = some (nextF p f) := by
  have hn := hp.np.2
  have h := turn_cases ⟨p.parts.length, by omega⟩ ⟨f, by omega⟩ (decide ((0 : Int) ∈ p.skips)) (decide ((1 : Int) ∈ p.skips)) (decide ((2 : Int) ∈ p.skips)) (decide ((3 : Int) ∈ p.skips)) hf
  have sk : ∀ k < p.parts.length, (match k with | 0 => decide ((0 : Int) ∈ p.skips) | 1 => decide ((1 : Int) ∈ p.skips) | 2 => decide ((2 : Int) ∈ p.skips) | 3 => decide ((3 : Int) ∈ p.skips) | _ => false) = decide ((k : Int) ∈ p.skips) := fun k hk => by
    match k, hk with
    | 0, _ => rfl
    | 1, _ => rfl
    | 2, _ => rfl
    | 3, _ => rfl
    | k + 4, hk => omega
  have e1 : keptL p = (List.range p.parts.length).filter fun k => !(match k with | 0 => decide ((0 : Int) ∈ p.skips) | 1 => decide ((1 : Int) ∈ p.skips) | 2 => decide ((2 : Int) ∈ p.skips) | 3 => decide ((3 : Int) ∈ p.skips) | _ => false) := by
    unfold keptL
    apply List.filter_congr
    intro k hk
    rw [sk k (List.mem_range.mp hk), Bool.eq_iff_iff]
    simp
  have e2 : nextF p f = (((List.range (p.parts.length - 1)).map fun k => (f + (1 + k)) % p.parts.length).find? (fun q => !(match q with | 0 => decide ((0 : Int) ∈ p.skips) | 1 => decide ((1 : Int) ∈ p.skips) | 2 => decide ((2 : Int) ∈ p.skips) | 3 => decide ((3 : Int) ∈ p.skips) | _ => false))).getD f := by
    unfold nextF
    rw [nextGo_find, List.map_map]
    congr 1
    have hc : ∀ l : List Nat, (∀ q ∈ l, q < p.parts.length) → (l.find? fun q : Nat => !decide ((q : Int) ∈ p.skips)) = l.find? (fun q => !(match q with | 0 => decide ((0 : Int) ∈ p.skips) | 1 => decide ((1 : Int) ∈ p.skips) | 2 => decide ((2 : Int) ∈ p.skips) | 3 => decide ((3 : Int) ∈ p.skips) | _ => false)) := fun l => by
      induction l with
      | nil => intro _; rfl
      | cons q r ih =>
        intro hq
        rw [List.find?_cons, List.find?_cons, sk q (hq q List.mem_cons_self), ih fun x hx => hq x (List.mem_cons_of_mem _ hx)]
    refine hc _ fun q hq => ?_
    obtain ⟨k, _, rfl⟩ := List.mem_map.mp hq
    exact Nat.mod_lt _ (by omega)
  rw [e1, e2]
  exact h
theorem turn_wp {p : Prg} {f n : Nat} {g : GS} {P : D → GS → Prop} (hp : OkPrg p) (hn : g[n]? = some (.dic (prgK p))) (hf : f < p.parts.length) (k : ∀ ex, P (.int (nextF p f)) (g ++ ex)) : okM (F__law_turn cP [.ref n, .int f] g) P := by
  have hnp := hp.np
  have ln : n < g.length := (List.getElem?_eq_some_iff.mp hn).1
  have kl : (keptL p).length ≤ 4 := by
    have h := List.length_filter_le (fun k : Nat => decide ((k : Int) ∉ p.skips)) (List.range p.parts.length)
    rw [List.length_range] at h
    unfold keptL
    omega
  have ll : ((keptL p).filter fun k => decide (f < k)).length ≤ 4 := Nat.le_trans (List.length_filter_le _ _) kl
  refine fn_app rfl ?_ k
  show okS (m__law_turn cP [some (.ref n), some (.int f), none, none, none] g) _ _ _ _
  unfold m__law_turn
  rw [v_seq]
  simp only [v_asg, v_if, v_ret, v_drop, v_for, v_skip, w_bnd, w_pur, x_get, w_tgN, w_subG, w_asB, w_asI, w_if, w_truB, List.getElem?_cons_zero, List.getElem?_cons_succ, List.set_cons_zero, List.set_cons_succ, dget_parts hn, w_lenT, List.length_map, compD, wipeD]
  rw [x_rng (by omega) (by omega), rng_map (show (0 : Int) ≤ (p.parts.length : Int) by omega), Int.toNat_natCast]
  refine okM.of (comp_wpF (by exact True.intro) (fun k : Nat => D.int (k : Int)) (fun k : Nat => D.int (k : Int)) (fun k : Nat => decide ((k : Int) ∉ p.skips)) _ fun k hk => ⟨[some (.ref n), some (.int f), none, none, some (.int k)], rfl, okM.eq ?_, rfl⟩) ?_
  · simp only [v_asg, v_if, v_ret, v_drop, v_for, v_skip, w_bnd, w_pur, x_get, w_tgN, w_subG, w_asB, w_asI, w_if, w_truB, List.getElem?_cons_zero, List.getElem?_cons_succ, List.set_cons_zero, List.set_cons_succ, dget_skips hn, in_ints, if_true]
    refine ⟨?_, True.intro⟩
    rw [Bool.eq_iff_iff]
    simp
  rw [show (List.range p.parts.length).filter (fun k : Nat => decide ((k : Int) ∉ p.skips)) = keptL p from rfl]
  rw [if_pos (by rw [List.length_map]; exact Nat.le_trans kl (by decide)), w_pur, w_newL, v_seq]
  have hg1 : (g ++ [Cell.lst ((keptL p).map fun k : Nat => D.int (k : Int))])[g.length]? = some (.lst ((keptL p).map fun k : Nat => D.int (k : Int))) := by simp
  generalize hG : g ++ [Cell.lst ((keptL p).map fun k : Nat => D.int (k : Int))] = g1 at hg1 ⊢
  have l1 : g1.length = g.length + 1 := by rw [← hG]; simp
  simp only [v_asg, v_if, v_ret, v_drop, v_for, v_skip, w_bnd, w_pur, x_get, w_tgN, w_subG, w_asB, w_asI, w_if, w_truB, List.getElem?_cons_zero, List.getElem?_cons_succ, List.set_cons_zero, List.set_cons_succ, x_seqR, hg1, compD, wipeD]
  refine okM.of (comp_wpF (by show g1[g.length]? = _; exact hg1) (fun k : Nat => D.int (k : Int)) (fun k : Nat => D.int (k : Int)) (fun k : Nat => decide (f < k)) _ fun k hk => ⟨[some (.ref n), some (.int f), some (.ref g.length), none, some (.int k)], rfl, okM.eq ?_, rfl⟩) ?_
  · simp only [v_asg, v_if, v_ret, v_drop, v_for, v_skip, w_bnd, w_pur, x_get, w_tgN, w_subG, w_asB, w_asI, w_if, w_truB, List.getElem?_cons_zero, List.getElem?_cons_succ, List.set_cons_zero, List.set_cons_succ, w_gt]
    refine ⟨?_, True.intro⟩
    rw [Bool.eq_iff_iff]
    simp
  rw [if_pos (by rw [List.length_map]; exact Nat.le_trans ll (by decide)), w_pur, w_newL, v_seq]
  generalize hkk : keptL p = kk at *
  generalize hlk : kk.filter (fun k => decide (f < k)) = lk at *
  simp only [v_asg, v_if, v_ret, v_drop, v_for, v_skip, w_bnd, w_pur, x_get, w_tgN, w_subG, w_asB, w_asI, w_if, w_truB, List.getElem?_cons_zero, List.getElem?_cons_succ, List.set_cons_zero, List.set_cons_succ]
  have a1 : (g1 ++ [Cell.lst (lk.map fun k : Nat => D.int (k : Int))])[g1.length]? = some (.lst (lk.map fun k : Nat => D.int (k : Int))) := by simp
  have a2 : (g1 ++ [Cell.lst (lk.map fun k : Nat => D.int (k : Int))])[g.length]? = some (.lst (kk.map fun k : Nat => D.int (k : Int))) := by rw [List.getElem?_append_left (by omega)]; exact hg1
  rw [x_addR a1 a2 (by rw [List.length_map, List.length_map]; omega)]
  rw [w_mkL (by simp), x_addR (xs := lk.map (fun k : Nat => D.int (k : Int)) ++ kk.map (fun k : Nat => D.int (k : Int))) (ys := [.int f]) (by simp) (by simp) (by simp; omega)]
  have ht := turn_eq hp hf
  rw [hkk, hlk] at ht
  have hat : atI ((lk.map (fun k : Nat => D.int (k : Int)) ++ kk.map (fun k : Nat => D.int (k : Int))) ++ [.int f]) (0 : Int) = some (.int (nextF p f)) := by
    have e : (lk.map (fun k : Nat => D.int (k : Int)) ++ kk.map (fun k : Nat => D.int (k : Int))) ++ [D.int f] = (lk ++ kk ++ [f]).map fun k : Nat => D.int (k : Int) := by simp
    rw [e]
    exact DL.atI_nat (k := 0) (by rw [List.getElem?_map, ht]; rfl)
  rw [w_ixR (List.getElem?_concat_length) hat]
  subst hG
  refine ⟨rfl, ?_⟩
  simp only [List.append_assoc]
  exact ⟨_, rfl⟩
end K06
namespace K06
open PySem PySem.Spec PyProof.Rows L2 DL
open Classical
variable {cP : Addr}
theorem lafter_wp {p : Prg} {w : Sta} {a : Act} {n : Nat} {g : GS} {P : D → GS → Prop} (hp : OkPrg p) (hw : OkSta p w) (ha : a ∈ actsL p w) (hn : g[n]? = some (.dic (prgK p))) (k : ∀ ex, P (.tup [stD (stepS p w a), spD w a]) (g ++ ex)) : okM (F__law_after cP [.ref n, stD w, actD a] g) P := by
  have hm := acts_mem ha
  obtain ⟨f, hf, hf2⟩ := hw.focus
  have ln : n < g.length := (List.getElem?_eq_some_iff.mp hn).1
  have hnx : ∀ ex : GS, (g ++ ex)[n]? = some (.dic (prgK p)) := fun ex => by rw [List.getElem?_append_left ln]; exact hn
  have ql := okQ_len hp ⟨hw.queue, hw.nd⟩
  have sne : ∀ (x y : Str) (g : GS) (P : D → GS → Prop), PyData.strOk x = true → PyData.strOk y = true → (okM (eqD (.str x) (.str y) g) P ↔ P (.bl (decide (D.str x = D.str y))) g) := fun x y g P a b => w_eq (n := 0) (by decide) (by simpa [D.pl] using a) (by simpa [D.pl] using b)
  have ne : ∀ (x y : Str), x ≠ y → decide (D.str x = D.str y) = false := fun x y h => decide_eq_false (by intro z; injection z with z; exact h z)
  refine fn_app rfl ?_ k
  show okS (m__law_after cP [some (.ref n), some (stD w), some (actD a), none, none, none, none, none, none] g) _ _ _ _
  unfold m__law_after
  rw [v_seq]
  simp only [v_asg, v_if, v_ret, v_drop, v_for, v_skip, w_bnd, w_pur, x_get, w_tgN, w_subG, w_asB, w_asI, w_if, w_truB, List.getElem?_cons_zero, List.getElem?_cons_succ, List.set_cons_zero, List.set_cons_succ, stD, tgT3]
  by_cases h2 : a = .speak
  · subst h2
    obtain ⟨m, q, hq⟩ : ∃ m q, w.queue = m :: q := List.exists_cons_of_ne_nil hm
    rw [v_seq]
    simp only [v_asg, v_if, v_ret, v_drop, v_for, v_skip, w_bnd, w_pur, x_get, w_tgN, w_subG, w_asB, w_asI, w_if, w_truB, List.getElem?_cons_zero, List.getElem?_cons_succ, List.set_cons_zero, List.set_cons_succ, actD, x_ixT, DL.atI0, sne _ _ _ _ str_ok.2.2.2.2 str_ok.2.2.2.2, decide_true, if_true, v_seq, hq, List.map_cons, w_slT, cut_one, List.drop_succ_cons, List.drop_zero]
    rw [w_mkT (by simp), w_mkT (by simp)]
    refine ⟨?_, [], by simp⟩
    simp only [stepS, spD, hq, List.drop_succ_cons, List.drop_zero, List.headD_cons]
  by_cases h1 : a = .next
  · subst h1
    rw [v_seq]
    simp only [v_asg, v_if, v_ret, v_drop, v_for, v_skip, w_bnd, w_pur, x_get, w_tgN, w_subG, w_asB, w_asI, w_if, w_truB, List.getElem?_cons_zero, List.getElem?_cons_succ, List.set_cons_zero, List.set_cons_succ, actD, x_ixT, DL.atI0, sne _ _ _ _ str_ok.2.1 str_ok.2.2.2.2, ne _ _ (show ("next" : Str) ≠ "speak" by decide +kernel), Bool.false_eq_true, if_false]
    rw [v_seq]
    simp only [v_asg, v_if, v_ret, v_drop, v_for, v_skip, w_bnd, w_pur, x_get, w_tgN, w_subG, w_asB, w_asI, w_if, w_truB, List.getElem?_cons_zero, List.getElem?_cons_succ, List.set_cons_zero, List.set_cons_succ, x_ixT, DL.atI0, sne _ _ _ _ str_ok.2.1 str_ok.2.1, decide_true, if_true, hf]
    rw [v_seq]
    simp only [v_asg, v_if, v_ret, v_drop, v_for, v_skip, w_bnd, w_pur, x_get, w_tgN, w_subG, w_asB, w_asI, w_if, w_truB, List.getElem?_cons_zero, List.getElem?_cons_succ, List.set_cons_zero, List.set_cons_succ]
    refine turn_wp hp hn hf2 fun ex => ?_
    have hn2 : nextF p f < p.parts.length := nextGo_lt (by have := hp.np; omega) hf2 _
    rw [v_seq]
    simp only [v_asg, v_if, v_ret, v_drop, v_for, v_skip, w_bnd, w_pur, x_get, w_tgN, w_subG, w_asB, w_asI, w_if, w_truB, List.getElem?_cons_zero, List.getElem?_cons_succ, List.set_cons_zero, List.set_cons_succ, lword_eq hp (hnx ex) hw.vals hn2, ok_iff]
    rw [w_mkT (by simp)]
    refine lput_wp (m := ((nextF p f : Int), wordOf p w.values (nextF p f : Int))) hw.nd (by omega) fun ex2 => ?_
    rw [w_mkT (by simp), w_mkT (by simp), w_mkT (by simp)]
    refine ⟨?_, _, by rw [List.append_assoc]⟩
    simp only [stepS, movedS, spD, hf, Int.toNat_natCast, qD]
  have pok : ∀ k, k ∈ pressed p → ∃ c, pressOf p k = some c ∧ OkCh p.sizes c ∧ ∃ h : k < p.parts.length, (p.parts[k]).press = some c := fun k hk => by
    obtain ⟨hl, c, hc⟩ := pressed_mem hk
    have e2 : pressOf p k = (p.parts[k]).press := by unfold pressOf; rw [List.getD_eq_getElem?_getD, List.getElem?_eq_getElem hl]; rfl
    exact ⟨c, hc, (hp.parts _ (List.getElem_mem hl)).2.2 c (by rw [← e2]; exact hc), hl, by rw [← e2]; exact hc⟩
  have esp : spD w a = .tup [] := by cases a <;> first | rfl | exact absurd rfl h2
  have dp : ∀ (k : Nat) (h : k < p.parts.length), atI (p.parts.map partD) (k : Int) = some (.tup [prD (p.parts[k]).look, prD (p.parts[k]).word, poD (p.parts[k]).press]) := fun k h => part_at (List.getElem?_eq_getElem h)
  have hd : ∃ z r, actD a = .tup (.str z :: r) ∧ PyData.strOk z = true ∧ z ≠ ("speak" : Str) ∧ z ≠ ("next" : Str) := by
    cases a with
    | next => exact absurd rfl h1
    | speak => exact absurd rfl h2
    | point k => exact ⟨_, _, rfl, str_ok.1, by decide +kernel, by decide +kernel⟩
    | press => exact ⟨_, _, rfl, str_ok.2.2.1, by decide +kernel, by decide +kernel⟩
    | tick k => exact ⟨_, _, rfl, str_ok.2.2.2.1, by decide +kernel, by decide +kernel⟩
  obtain ⟨z, r, hz, zo, z1, z2⟩ := hd
  rw [hz, v_seq]
  simp only [v_asg, v_if, v_ret, v_drop, v_for, v_skip, w_bnd, w_pur, x_get, w_tgN, w_subG, w_asB, w_asI, w_if, w_truB, List.getElem?_cons_zero, List.getElem?_cons_succ, List.set_cons_zero, List.set_cons_succ, x_ixT, DL.atI0, sne _ _ _ _ zo str_ok.2.2.2.2, ne _ _ z1, Bool.false_eq_true, if_false]
  rw [v_seq]
  simp only [v_asg, v_if, v_ret, v_drop, v_for, v_skip, w_bnd, w_pur, x_get, w_tgN, w_subG, w_asB, w_asI, w_if, w_truB, List.getElem?_cons_zero, List.getElem?_cons_succ, List.set_cons_zero, List.set_cons_succ, x_ixT, DL.atI0, sne _ _ _ _ zo str_ok.2.1, ne _ _ z2, Bool.false_eq_true, if_false]
  -- the changes
  refine seq_wp (fun s g' => ∃ c, OkCh p.sizes c ∧ stepS p w a = changedS p w c ∧ s = [some (.ref n), some (.tup [dI w.values, .int w.focus, .tup (w.queue.map mD)]), some (.tup (.str z :: r)), some (dI w.values), some (.int w.focus), some (.tup (w.queue.map mD)), some (chD c), none, none] ∧ g' = g) ?_ ?_
  · cases a with
    | next => exact absurd rfl h1
    | speak => exact absurd rfl h2
    | tick t =>
      simp only [actD, D.tup.injEq, List.cons.injEq, D.str.injEq] at hz
      obtain ⟨rfl, rfl⟩ := hz
      have e := List.getElem?_eq_getElem hm
      have hat : atI (p.ticks.map chD) (t : Int) = some (chD p.ticks[t]) := DL.atI_nat (by rw [List.getElem?_map, e]; rfl)
      simp only [v_asg, v_if, v_ret, v_drop, v_for, v_skip, w_bnd, w_pur, x_get, w_tgN, w_subG, w_asB, w_asI, w_if, w_truB, List.getElem?_cons_zero, List.getElem?_cons_succ, List.set_cons_zero, List.set_cons_succ, x_ixT, DL.atI0, DL.atI1, sne _ _ _ _ str_ok.2.2.2.1 str_ok.2.2.2.1, decide_true, if_true, v_seq, dget_ticks hn, hat]
      exact ⟨p.ticks[t], hp.ticks _ (List.getElem_mem hm), by simp only [stepS, List.getD_eq_getElem?_getD, e, Option.getD_some], rfl, True.intro⟩
    | point t =>
      simp only [actD, D.tup.injEq, List.cons.injEq, D.str.injEq] at hz
      obtain ⟨rfl, rfl⟩ := hz
      obtain ⟨c, hc, ok, hl, hc2⟩ := pok t hm
      simp only [v_asg, v_if, v_ret, v_drop, v_for, v_skip, w_bnd, w_pur, x_get, w_tgN, w_subG, w_asB, w_asI, w_if, w_truB, List.getElem?_cons_zero, List.getElem?_cons_succ, List.set_cons_zero, List.set_cons_succ, x_ixT, DL.atI0, DL.atI1, DL.atI2, sne _ _ _ _ str_ok.1 str_ok.2.2.2.1, sne _ _ _ _ str_ok.1 str_ok.1, ne _ _ (show ("point" : Str) ≠ "tick" by decide +kernel), decide_true, Bool.false_eq_true, if_false, if_true, v_seq, dget_parts hn, dp t hl, hc2, poD]
      exact ⟨c, ok, by simp only [stepS, hc, Option.getD_some], rfl, True.intro⟩
    | press =>
      simp only [actD, D.tup.injEq, List.cons.injEq, D.str.injEq] at hz
      obtain ⟨rfl, rfl⟩ := hz
      have hm : w.focus.toNat ∈ pressed p := hm
      rw [hf, Int.toNat_natCast] at hm
      obtain ⟨c, hc, ok, hl, hc2⟩ := pok f hm
      simp only [v_asg, v_if, v_ret, v_drop, v_for, v_skip, w_bnd, w_pur, x_get, w_tgN, w_subG, w_asB, w_asI, w_if, w_truB, List.getElem?_cons_zero, List.getElem?_cons_succ, List.set_cons_zero, List.set_cons_succ, x_ixT, DL.atI0, DL.atI1, DL.atI2, sne _ _ _ _ str_ok.2.2.1 str_ok.2.2.2.1, sne _ _ _ _ str_ok.2.2.1 str_ok.1, ne _ _ (show ("press" : Str) ≠ "tick" by decide +kernel), ne _ _ (show ("press" : Str) ≠ "point" by decide +kernel), Bool.false_eq_true, if_false, v_seq, dget_parts hn, hf, dp f hl, hc2, poD]
      exact ⟨c, ok, by simp only [stepS, hf, Int.toNat_natCast, hc, Option.getD_some], rfl, True.intro⟩
  rintro s g' ⟨c, okc, es, rfl, hg⟩
  rw [hg]
  have ok := addL_ok hp.sizes c w.values hw.vals
  rw [v_seq]
  simp only [v_asg, v_if, v_ret, v_drop, v_for, v_skip, w_bnd, w_pur, x_get, w_tgN, w_subG, w_asB, w_asI, w_if, w_truB, List.getElem?_cons_zero, List.getElem?_cons_succ, List.set_cons_zero, List.set_cons_succ]
  refine ladded_wp hp hn hw.vals okc fun ex => ?_
  generalize hus : addL p.sizes w.values c = us at ok ⊢
  rw [v_seq]
  simp only [v_asg, v_if, v_ret, v_drop, v_for, v_skip, w_bnd, w_pur, x_get, w_tgN, w_subG, w_asB, w_asI, w_if, w_truB, List.getElem?_cons_zero, List.getElem?_cons_succ, List.set_cons_zero, List.set_cons_succ, dget_live (hnx ex)]
  rw [show dI p.live = D.tup (p.live.map D.int) from rfl, x_seqT]
  refine loop_wp (fun i s g' => ∃ v8, s = [some (.ref n), some (.tup [dI w.values, .int w.focus, .tup (w.queue.map mD)]), some (.tup (.str z :: r)), some (dI w.values), some (.int w.focus), some (.tup ((tellL p w.values us w.queue (p.live.take i)).map mD)), some (chD c), some (dI us), v8] ∧ ∃ ex, g' = g ++ ex) _ ⟨none, rfl, _, rfl⟩ (fun _ _ _ _ _ => True.intro) ?_ ?_
  · rintro i x s g' hx ⟨v8, rfl, ex, rfl⟩
    rw [List.getElem?_map] at hx
    cases e : p.live[i]? with
    | none => rw [e] at hx; cases hx
    | some kk =>
      rw [e] at hx
      cases hx
      have hk := hp.live.2 kk (List.mem_of_getElem? e)
      obtain ⟨m, hm'⟩ := Int.eq_ofNat_of_zero_le hk.1
      have hn2 : m < p.parts.length := by omega
      have etake : p.live.take (i + 1) = p.live.take i ++ [kk] := by rw [List.take_add_one, e]; rfl
      have enext : tellL p w.values us w.queue (p.live.take (i + 1)) = tellOne p w.values us (tellL p w.values us w.queue (p.live.take i)) kk := by
        unfold tellL
        rw [etake, List.foldl_append]; rfl
      have okq : OkQ p (tellL p w.values us w.queue (p.live.take i)) := okQ_tell _ _ (fun x hx => hp.live.2 x (List.mem_of_mem_take hx)) ⟨hw.queue, hw.nd⟩
      have ql := okQ_len hp okq
      rw [enext]
      generalize tellL p w.values us w.queue (p.live.take i) = q at okq ql ⊢
      rw [hm', w_tgN, v_seq]
      simp only [v_asg, v_if, v_ret, v_drop, v_for, v_skip, w_bnd, w_pur, x_get, w_tgN, w_subG, w_asB, w_asI, w_if, w_truB, List.getElem?_cons_zero, List.getElem?_cons_succ, List.set_cons_zero, List.set_cons_succ, lword_eq hp (hnx ex) ok hn2, lword_eq hp (hnx ex) hw.vals hn2, ok_iff, w_neI]
      by_cases hne : wordOf p us (m : Int) = wordOf p w.values (m : Int)
      · have ht : tellOne p w.values us q (m : Int) = q := by
          unfold tellOne
          exact if_neg (by simpa using hne)
        rw [ht, decide_eq_true hne, if_neg (by decide)]
        exact ⟨_, rfl, _, rfl⟩
      · have ht : tellOne p w.values us q (m : Int) = putL q ((m : Int), wordOf p us (m : Int)) := by
          unfold tellOne
          exact if_pos hne
        rw [ht, decide_eq_false hne, if_pos (show (!false) = true from rfl), v_seq]
        simp only [v_asg, v_if, v_ret, v_drop, v_for, v_skip, w_bnd, w_pur, x_get, w_tgN, w_subG, w_asB, w_asI, w_if, w_truB, List.getElem?_cons_zero, List.getElem?_cons_succ, List.set_cons_zero, List.set_cons_succ, lword_eq hp (hnx ex) ok hn2, ok_iff]
        rw [w_mkT (by simp)]
        refine lput_wp (m := ((m : Int), wordOf p us (m : Int))) okq.2 (by omega) fun ex2 => ?_
        exact ⟨_, rfl, _, by rw [List.append_assoc]⟩
  · rintro s g' ⟨v8, rfl, ex, rfl⟩
    have hl : (p.live.map D.int).length = p.live.length := List.length_map _
    simp only [hl, List.take_length, v_seq, v_asg, v_if, v_ret, v_drop, v_for, v_skip, w_bnd, w_pur, x_get, w_tgN, w_subG, w_asB, w_asI, w_if, w_truB, List.getElem?_cons_zero, List.getElem?_cons_succ, List.set_cons_zero, List.set_cons_succ]
    rw [w_mkT (by simp), w_mkT (by simp), w_mkT (by simp)]
    refine ⟨?_, _, rfl⟩
    rw [esp, es]
    simp only [changedS, hus]
end K06
namespace K06
open PySem PySem.Spec PyProof.Rows L2 DL
open Classical
variable {cP : Addr}
theorem dpart_at {p : Prg} {k : Nat} (h : k < p.parts.length) : atI (p.parts.map partD) (k : Int) = some (partD (p.parts[k])) := part_at (List.getElem?_eq_getElem h)
theorem pressOf_ge {p : Prg} {k : Nat} (h : k < p.parts.length) : pressOf p k = (p.parts[k]).press := by
  unfold pressOf
  rw [List.getD_eq_getElem?_getD, List.getElem?_eq_getElem h]; rfl
theorem lacts_wp {p : Prg} {w : Sta} {n : Nat} {g : GS} {P : D → GS → Prop} (hp : OkPrg p) (hw : OkSta p w) (hn : g[n]? = some (.dic (prgK p))) (k : ∀ ex m, (g ++ ex)[m]? = some (.lst ((actsL p w).map actD)) → g.length ≤ m → P (.ref m) (g ++ ex)) : okM (F__law_acts cP [.ref n, stD w] g) P := by
  obtain ⟨f, hf, hf2⟩ := hw.focus
  have hnp := hp.np
  have pl := pressed_len hp
  have nt := hp.nt
  have ln : n < g.length := (List.getElem?_eq_some_iff.mp hn).1
  have hn2 : ∀ c : Cell, (g ++ [c])[n]? = some (.dic (prgK p)) := fun c => by rw [List.getElem?_append_left ln]; exact hn
  refine fn_ref rfl ?_
  show okS (m__law_acts cP [some (.ref n), some (stD w), none, none] g) _ _ _ _
  unfold m__law_acts
  rw [v_seq]
  simp only [v_asg, v_if, v_ret, v_drop, v_for, v_skip, w_bnd, w_pur, x_get, w_tgN, w_subG, w_asB, w_asI, w_if, w_truB, List.getElem?_cons_zero, List.getElem?_cons_succ, List.set_cons_zero, List.set_cons_succ, dget_parts hn, w_lenT, List.length_map, compD, wipeD]
  rw [x_rng (by omega) (by omega), rng_map (show (0 : Int) ≤ (p.parts.length : Int) by omega), Int.toNat_natCast]
  refine okM.of (comp_wpF (by exact True.intro) (fun k : Nat => D.int (k : Int)) (fun k : Nat => actD (.point k)) (fun k => (pressOf p k).isSome) _ fun k hk => ⟨[some (.ref n), some (stD w), none, some (.int k)], rfl, okM.eq ?_, okM.eq ?_⟩) ?_
  · have hk2 : k < p.parts.length := by simpa using hk
    simp only [v_asg, v_if, v_ret, v_drop, v_for, v_skip, w_bnd, w_pur, x_get, w_tgN, w_subG, w_asB, w_asI, w_if, w_truB, List.getElem?_cons_zero, List.getElem?_cons_succ, List.set_cons_zero, List.set_cons_succ, dget_parts hn, x_ixT, dpart_at hk2, partD, DL.atI2, isN_po, pressOf_ge hk2]
    first | exact ⟨rfl, rfl⟩ | exact ⟨rfl, True.intro⟩ | exact rfl | exact True.intro | simp
  · simp only [v_asg, v_if, v_ret, v_drop, v_for, v_skip, w_bnd, w_pur, x_get, w_tgN, w_subG, w_asB, w_asI, w_if, w_truB, List.getElem?_cons_zero, List.getElem?_cons_succ, List.set_cons_zero, List.set_cons_succ]
    rw [w_mkT (by simp)]
    exact ⟨rfl, rfl⟩
  rw [show (List.range p.parts.length).filter (fun k => (pressOf p k).isSome) = pressed p from rfl]
  rw [if_pos (by rw [List.length_map]; exact Nat.le_trans pl (by decide)), w_pur, w_newL]
  rw [show (pressed p).map (fun k : Nat => actD (.point k)) = ((pressed p).map Act.point).map actD from by rw [List.map_map]; rfl]
  have app : ∀ (L : List Act) (a : Act) (P : D → GS → Prop), L.length ≤ 100 → (okM (appendD (.ref g.length) [actD a] (g ++ [.lst (L.map actD)])) P ↔ P .non (g ++ [.lst ((L ++ [a]).map actD)])) := fun L a P hl => by
    rw [x_app (ds := L.map actD) (by simp) (by rw [List.length_map]; omega), List.map_append]
    have : ∀ c d : Cell, (g ++ [c]).set g.length d = g ++ [d] := fun c d => by simp
    rw [this]; rfl
  have ty : ∀ (L : List Act) (P : D → GS → Prop), okM (tyM "list" (.ref g.length) (g ++ [.lst (L.map actD)])) P ↔ P (.ref g.length) (g ++ [.lst (L.map actD)]) := fun L P => x_tyL (ds := L.map actD) (by simp)
  rw [v_seq]
  simp only [v_asg, v_if, v_ret, v_drop, v_for, v_skip, w_bnd, w_pur, x_get, w_tgN, w_subG, w_asB, w_asI, w_if, w_truB, List.getElem?_cons_zero, List.getElem?_cons_succ, List.set_cons_zero, List.set_cons_succ, ty]
  rw [w_mkT (by simp), show D.tup [D.str ("next" : Str)] = actD .next from rfl, app _ _ _ (by rw [List.length_map]; omega)]
  rw [show (pressed p).map Act.point ++ [Act.next] = acts0 p from rfl]
  have len0 : (acts0 p).length ≤ 5 := by unfold acts0; simp; omega
  -- press
  rw [v_seq]
  refine okS.mono (Pn := fun s g' => s = [some (.ref n), some (stD w), some (.ref g.length), none] ∧ g' = g ++ [.lst ((acts1 p w).map actD)]) ?_ (fun s g' z => ?_) (fun _ _ z => z) (fun _ _ z => z) fun _ _ z => z
  · simp only [v_asg, v_if, v_ret, v_drop, v_for, v_skip, w_bnd, w_pur, x_get, w_tgN, w_subG, w_asB, w_asI, w_if, w_truB, List.getElem?_cons_zero, List.getElem?_cons_succ, List.set_cons_zero, List.set_cons_succ, dget_parts (hn2 _), stD, x_ixT, DL.atI1, hf, dpart_at hf2, partD, DL.atI2, isN_po]
    have em : f ∈ pressed p ↔ (p.parts[f]).press.isSome = true := by
      unfold pressed
      rw [List.mem_filter, pressOf_ge hf2]
      exact ⟨fun h => h.2, fun h => ⟨List.mem_range.mpr hf2, h⟩⟩
    unfold acts1
    rw [hf, Int.toNat_natCast]
    by_cases hm : f ∈ pressed p
    · rw [if_pos (em.mp hm), if_pos hm, v_seq]
      simp only [v_asg, v_if, v_ret, v_drop, v_for, v_skip, w_bnd, w_pur, x_get, w_tgN, w_subG, w_asB, w_asI, w_if, w_truB, List.getElem?_cons_zero, List.getElem?_cons_succ, List.set_cons_zero, List.set_cons_succ, ty]
      rw [w_mkT (by simp), show D.tup [D.str ("press" : Str)] = actD .press from rfl, app _ _ _ (by omega)]
      first | exact ⟨rfl, rfl⟩ | exact ⟨rfl, True.intro⟩ | exact rfl | exact True.intro | simp
    · rw [if_neg (fun z => hm (em.mpr z)), if_neg hm]
      first | exact ⟨rfl, rfl⟩ | exact ⟨rfl, True.intro⟩ | exact rfl | exact True.intro | simp
  obtain ⟨rfl, rfl⟩ := z
  have len1 : (acts1 p w).length ≤ 6 := by
    unfold acts1
    split
    · rw [List.length_append]; simp; omega
    · omega
  -- ticks
  rw [v_seq]
  simp only [v_asg, v_if, v_ret, v_drop, v_for, v_skip, w_bnd, w_pur, x_get, w_tgN, w_subG, w_asB, w_asI, w_if, w_truB, List.getElem?_cons_zero, List.getElem?_cons_succ, List.set_cons_zero, List.set_cons_succ, dget_ticks (hn2 _), w_lenT, List.length_map]
  rw [x_rng (by omega) (by omega), rng_map (show (0 : Int) ≤ (p.ticks.length : Int) by omega), Int.toNat_natCast]
  refine loop_wp (fun i s g' => ∃ v, s = [some (.ref n), some (stD w), some (.ref g.length), v] ∧ g' = g ++ [.lst ((acts1 p w ++ (List.range i).map Act.tick).map actD)]) _ ⟨_, rfl, by simp⟩ (fun _ _ _ _ _ => True.intro) ?_ ?_
  · rintro i x s g' hx ⟨v, rfl, rfl⟩
    have hi : i < p.ticks.length := by
      have := (List.getElem?_eq_some_iff.mp hx).1
      simpa using this
    have ex : x = .int (i : Int) := by
      rw [List.getElem?_map, List.getElem?_range hi] at hx
      exact (Option.some.inj hx).symm
    subst ex
    rw [w_tgN, v_seq]
    simp only [v_asg, v_if, v_ret, v_drop, v_for, v_skip, w_bnd, w_pur, x_get, w_tgN, w_subG, w_asB, w_asI, w_if, w_truB, List.getElem?_cons_zero, List.getElem?_cons_succ, List.set_cons_zero, List.set_cons_succ, ty]
    rw [w_mkT (by simp), show D.tup [D.str ("tick" : Str), D.int (i : Int)] = actD (.tick i) from rfl, app _ _ _ (by simp; omega)]
    refine ⟨_, rfl, ?_⟩
    rw [List.range_succ]
    simp
  rintro s g' ⟨v, rfl, rfl⟩
  rw [List.length_map, List.length_range]
  rw [show acts1 p w ++ (List.range p.ticks.length).map Act.tick = acts2 p w from rfl]
  have len2 : (acts2 p w).length ≤ 8 := by unfold acts2; simp; omega
  have fin : ∀ L : List Act, L = actsL p w → P (.ref g.length) (g ++ [.lst (L.map actD)]) ∧ (D.ref g.length).und g.length = false := fun L e => ⟨k _ _ (by rw [e]; simp) (Nat.le_refl _), by
    show decide (g.length < g.length) = false
    exact decide_eq_false (by omega)⟩
  rw [v_seq]
  simp only [v_asg, v_if, v_ret, v_drop, v_for, v_skip, w_bnd, w_pur, x_get, w_tgN, w_subG, w_asB, w_asI, w_if, w_truB, List.getElem?_cons_zero, List.getElem?_cons_succ, List.set_cons_zero, List.set_cons_succ, stD, x_ixT, DL.atI2, w_lenT, w_gt, List.length_map]
  by_cases hq : w.queue = []
  · have e5 : actsL p w = acts2 p w := by unfold actsL; rw [if_pos hq]
    rw [if_neg (by rw [hq]; decide), v_seq]
    simp only [v_asg, v_if, v_ret, v_drop, v_for, v_skip, w_bnd, w_pur, x_get, w_tgN, w_subG, w_asB, w_asI, w_if, w_truB, List.getElem?_cons_zero, List.getElem?_cons_succ, List.set_cons_zero, List.set_cons_succ]
    exact fin _ e5.symm
  · have e5 : actsL p w = acts2 p w ++ [.speak] := by unfold actsL; rw [if_neg hq]
    have : 0 < w.queue.length := List.length_pos_iff.mpr hq
    rw [if_pos (by rw [decide_eq_true_eq]; omega), v_seq]
    simp only [v_asg, v_if, v_ret, v_drop, v_for, v_skip, w_bnd, w_pur, x_get, w_tgN, w_subG, w_asB, w_asI, w_if, w_truB, List.getElem?_cons_zero, List.getElem?_cons_succ, List.set_cons_zero, List.set_cons_succ, ty]
    rw [w_mkT (by simp), show D.tup [D.str ("speak" : Str)] = actD .speak from rfl, app _ _ _ (by omega), v_seq]
    simp only [v_asg, v_if, v_ret, v_drop, v_for, v_skip, w_bnd, w_pur, x_get, w_tgN, w_subG, w_asB, w_asI, w_if, w_truB, List.getElem?_cons_zero, List.getElem?_cons_succ, List.set_cons_zero, List.set_cons_succ]
    exact fin _ e5.symm
end K06
namespace K06
open PySem PySem.Spec PyProof.Rows L2 DL
open Classical
noncomputable section
variable {cP : Addr}
/-- a state as a key -/
def kI (l : List Int) : NK := .tup (l.map .num)
def kM (m : Int × Int) : NK := .tup [.num m.1, .num m.2]
def kS (w : Sta) : NK := .tup [kI w.values, .num w.focus, .tup (w.queue.map kM)]
theorem toKs_int : ∀ l : List Int, toKs (l.map D.int) = some (l.map .num)
  | [] => rfl
  | x :: l => by
    rw [List.map_cons, toKs, toKs_int l]
    rfl
theorem toKs_m : ∀ q : List (Int × Int), toKs (q.map mD) = some (q.map kM)
  | [] => rfl
  | x :: l => by
    rw [List.map_cons, toKs, toKs_m l]
    rfl
theorem toK_stD (w : Sta) : toK (stD w) = some (kS w) := by
  simp only [stD, dI, toK, toKs, toKs_int, toKs_m, Option.map_some, Option.bind_some]
  rfl
theorem num_inj : ∀ {a b : List Int}, a.map NestedKey.num = b.map NestedKey.num → a = b
  | [], [], _ => rfl
  | [], _ :: _, h => by cases h
  | _ :: _, [], h => by cases h
  | x :: a, y :: b, h => by
    rw [List.map_cons, List.map_cons] at h
    injection h with h1 h2
    injection h1 with h1
    rw [h1, num_inj h2]
theorem kM_inj : ∀ {a b : List (Int × Int)}, a.map kM = b.map kM → a = b
  | [], [], _ => rfl
  | [], _ :: _, h => by cases h
  | _ :: _, [], h => by cases h
  | x :: a, y :: b, h => by
    rw [List.map_cons, List.map_cons] at h
    injection h with h1 h2
    simp only [kM, NestedKey.tup.injEq, List.cons.injEq, NestedKey.num.injEq, and_true] at h1
    rw [Prod.ext h1.1 h1.2, kM_inj h2]
theorem kS_inj {w v : Sta} (h : kS w = kS v) : w = v := by
  obtain ⟨a1, a2, a3⟩ := w
  obtain ⟨b1, b2, b3⟩ := v
  simp only [kS, kI, NestedKey.tup.injEq, List.cons.injEq, NestedKey.num.injEq, and_true] at h
  obtain ⟨h1, h2, h3⟩ := h
  rw [num_inj h1, h2, kM_inj h3]
theorem dep_int : ∀ l : List Int, NestedKey.depthAll (l.map .num) = 0
  | [] => rfl
  | x :: l => by
    rw [List.map_cons, NestedKey.depthAll, dep_int l]
    rfl
theorem dep_m : ∀ q : List (Int × Int), NestedKey.depthAll (q.map kM) ≤ 1
  | [] => by simp [NestedKey.depthAll]
  | x :: l => by
    have := dep_m l
    rw [List.map_cons, NestedKey.depthAll]
    simp only [kM, NestedKey.depth, NestedKey.depthAll]
    omega
theorem low_kS (w : Sta) : (kS w).depth ≤ 3 := by
  have := dep_m w.queue
  simp only [kS, kI, NestedKey.depth, NestedKey.depthAll, dep_int]
  omega
theorem mem_kS {w : Sta} {ws : List Sta} : kS w ∈ ws.map kS ↔ w ∈ ws :=
  ⟨fun h => by
    obtain ⟨v, hv, e⟩ := List.mem_map.mp h
    rw [← kS_inj e]
    exact hv, fun h => List.mem_map_of_mem h⟩
theorem in_set {n : Nat} {neg : Bool} {w : Sta} {ws : List Sta} {g : GS} {P : D → GS → Prop} (h : g[n]? = some (.set (ws.map kS))) : okM (inSetD neg (stD w) (.ref n) g) P ↔ P (.bl (if neg = true then !decide (w ∈ ws) else decide (w ∈ ws))) g := by
  have e : stD w = .tup [dI w.values, .int w.focus, .tup (w.queue.map mD)] := rfl
  have ek := toK_stD w
  rw [e] at ek ⊢
  unfold inSetD
  dsimp only
  rw [h]
  dsimp only
  rw [ek]
  dsimp only
  rw [if_pos (Nat.le_trans (low_kS w) (by decide)), decide_eq_decide.mpr mem_kS]
  exact Iff.rfl
theorem set_is {n : Nat} {ks : List NK} {g : GS} {P : D → GS → Prop} (h : g[n]? = some (.set ks)) : okM (setM (.ref n) g) P ↔ P (.ref n) g := by
  unfold setM
  dsimp only
  rw [h]
  exact Iff.rfl
theorem add_set {n : Nat} {w : Sta} {ws : List Sta} {g : GS} {P : D → GS → Prop} (h : g[n]? = some (.set (ws.map kS))) (hw : w ∉ ws) (few : ws.length < 1228) : okM (addSetD (.ref n) [stD w] g) P ↔ P .non (g.set n (.set ((ws ++ [w]).map kS))) := by
  have e : stD w = .tup [dI w.values, .int w.focus, .tup (w.queue.map mD)] := rfl
  have ek := toK_stD w
  rw [e] at ek ⊢
  unfold addSetD
  dsimp only
  rw [h]
  dsimp only
  rw [ek]
  dsimp only
  rw [if_pos ⟨Nat.le_trans (low_kS w) (by decide), by rw [List.length_map]; omega⟩]
  unfold DL.putK
  rw [if_neg (fun z => hw (mem_kS.mp z)), List.map_append]
  exact Iff.rfl
def succL (p : Prg) (w : Sta) : List Sta := (actsL p w).map (stepS p w)
theorem actsL_len {p : Prg} (hp : OkPrg p) (w : Sta) : 0 < (actsL p w).length ∧ (actsL p w).length ≤ 100 := by
  have := pressed_len hp
  have := hp.nt
  unfold actsL acts2 acts1 acts0
  constructor
  · split <;> split <;> simp <;> omega
  · split <;> split <;> simp <;> omega
theorem succL_ok {p : Prg} {w v : Sta} (hp : OkPrg p) (hw : OkSta p w) (h : v ∈ succL p w) : OkSta p v := by
  obtain ⟨a, ha, rfl⟩ := List.mem_map.mp h
  exact step_ok hp hw ha
theorem behinds_wp {p : Prg} {w : Sta} {g : GS} {P : D → GS → Prop} (hp : OkPrg p) (hw : OkSta p w) (k : ∀ g2 n, g <+: g2 → g2[n]? = some (.lst ((succL p w).map stD)) → g.length ≤ n → P (.ref n) g2) : okM (F__states_behind cP [progD cP p, stD w] g) P := by
  refine fn_ref rfl ?_
  show okS (m__states_behind cP [some (progD cP p), some (stD w), none] g) _ _ _ _
  unfold m__states_behind
  rw [v_seq]
  simp only [v_asg, v_if, v_ret, v_drop, v_for, v_skip, w_bnd, w_pur, x_get, w_tgN, w_subG, w_asB, w_asI, w_if, w_truB, List.getElem?_cons_zero, List.getElem?_cons_succ, List.set_cons_zero, List.set_cons_succ, compD]
  refine acts_wp hp hw fun ex n hn ln => ?_
  have p0 : g <+: g ++ ex := List.prefix_append _ _
  generalize g ++ ex = g1 at hn p0 ⊢
  simp only [x_seqR, hn]
  refine (comp_pre (g0 := g1) (fun g' pre => (by show g'[n]? = _; exact pre_get pre hn)) actD (fun a => stD (stepS p w a)) (actsL p w) g1 (List.prefix_refl _) fun a ha g' pre => ⟨_, rfl, rfl, ?_⟩).mono fun ds g3 z => ?_
  · simp only [v_asg, v_if, v_ret, v_drop, v_for, v_skip, w_bnd, w_pur, x_get, w_tgN, w_subG, w_asB, w_asI, w_if, w_truB, List.getElem?_cons_zero, List.getElem?_cons_succ, List.set_cons_zero, List.set_cons_succ]
    refine step_wp hp hw ha fun ex => ?_
    simp only [x_ixT, DL.atI0]
    exact ⟨by first | rfl | trivial, List.prefix_append _ _⟩
  · obtain ⟨rfl, pre⟩ := z
    have hl := (actsL_len hp w).2
    rw [if_pos (by rw [List.length_map]; exact Nat.le_trans hl (by decide)), w_pur, w_newL]
    have le : g.length ≤ g3.length := (p0.trans pre).length_le
    refine ⟨k _ _ (pre_app (p0.trans pre) _) ?_ le, decide_eq_false (by omega)⟩
    rw [List.getElem?_concat_length, succL, List.map_map]
    rfl
def addAll (limit : Nat) : List Sta → List Sta → Option (List Sta)
  | met, [] => some met
  | met, x :: r => if x ∈ met then addAll limit met r else if limit ≤ met.length then none else addAll limit (met ++ [x]) r
def bfs (p : Prg) (limit : Nat) : Nat → List Sta → Nat → Option (List Sta)
  | 0, met, _ => some met
  | f + 1, met, k => match met[k]? with
    | none => some met
    | some w => match addAll limit met (succL p w) with
      | none => none
      | some met' => bfs p limit f met' (k + 1)
def reachO (p : Prg) (limit : Nat) : Option (List Sta) := bfs p limit (limit + 2) [start0 p] 0
structure OkMet (p : Prg) (limit : Nat) (met : List Sta) : Prop where
  ok : ∀ w ∈ met, OkSta p w
  len : met.length ≤ limit
  nd : met.Nodup
theorem reached_wp {p : Prg} {limit : Nat} {g : GS} {P : D → GS → Prop} (hp : OkPrg p) (l0 : 1 ≤ limit) (l1 : limit ≤ 1228) (k0 : reachO p limit = none → ∀ g2, g <+: g2 → P .non g2)
    (k1 : ∀ ws g2 n, reachO p limit = some ws → g <+: g2 → g2[n]? = some (.lst (ws.map stD)) → g.length ≤ n → P (.ref n) g2) : okM (F_reached cP [progD cP p, .int limit] g) P := by
  refine fn_opt rfl ?_
  show okS (m_reached cP [some (progD cP p), some (.int limit), none, none, none, none, none] g) _ _ _ _
  unfold m_reached
  rw [v_seq]
  simp only [v_asg, v_if, v_ret, v_drop, v_for, v_skip, w_bnd, w_pur, x_get, w_tgN, w_subG, w_asB, w_asI, w_if, w_truB, List.getElem?_cons_zero, List.getElem?_cons_succ, List.set_cons_zero, List.set_cons_succ, start_eq hp, ok_iff]
  rw [w_mkL (by simp), v_seq]
  simp only [v_asg, v_if, v_ret, v_drop, v_for, v_skip, w_bnd, w_pur, x_get, w_tgN, w_subG, w_asB, w_asI, w_if, w_truB, List.getElem?_cons_zero, List.getElem?_cons_succ, List.set_cons_zero, List.set_cons_succ, newSetD, ok_iff]
  have hc0 : (g ++ [Cell.lst [stD (start0 p)]] ++ [Cell.set []])[g.length]? = some (.lst (([start0 p] : List Sta).map stD)) := by simp
  have hs0 : (g ++ [Cell.lst [stD (start0 p)]] ++ [Cell.set []])[(g ++ [Cell.lst [stD (start0 p)]]).length]? = some (.set (([] : List Sta).map kS)) := List.getElem?_concat_length
  have ls : (g ++ [Cell.lst [stD (start0 p)]]).length = g.length + 1 := by simp
  rw [ls] at hs0 ⊢
  have p0 : g <+: g ++ [Cell.lst [stD (start0 p)]] ++ [Cell.set []] := pre_app (List.prefix_append _ _) _
  generalize g ++ [Cell.lst [stD (start0 p)]] ++ [Cell.set []] = g1 at hc0 hs0 p0 ⊢
  generalize hc : g.length = c at hc0 hs0 ⊢
  rw [v_seq]
  simp only [v_asg, v_if, v_ret, v_drop, v_for, v_skip, w_bnd, w_pur, x_get, w_tgN, w_subG, w_asB, w_asI, w_if, w_truB, List.getElem?_cons_zero, List.getElem?_cons_succ, List.set_cons_zero, List.set_cons_succ, set_is hs0, x_ixR, hc0, List.map_cons, DL.atI0]
  rw [add_set hs0 (by simp) (by simp)]
  have hs1 : (g1.set (c + 1) (.set (([] ++ [start0 p] : List Sta).map kS)))[c + 1]? = some (.set (([start0 p] : List Sta).map kS)) := gset_eq hs0
  have hc1 : (g1.set (c + 1) (.set (([] ++ [start0 p] : List Sta).map kS)))[c]? = some (.lst (([start0 p] : List Sta).map stD)) := gset_ne hc0 (by omega)
  have p1 : g <+: g1.set (c + 1) (.set (([] ++ [start0 p] : List Sta).map kS)) := pre_set p0 (by omega)
  generalize g1.set (c + 1) (.set (([] ++ [start0 p] : List Sta).map kS)) = g2 at hs1 hc1 p1 ⊢
  rw [v_seq]
  simp only [v_asg, v_if, v_ret, v_drop, v_for, v_skip, w_bnd, w_pur, x_get, w_tgN, w_subG, w_asB, w_asI, w_if, w_truB, List.getElem?_cons_zero, List.getElem?_cons_succ, List.set_cons_zero, List.set_cons_succ]
  rw [v_seq]
  refine whl_wp (fun n s g' => ∃ (v5 v6 : Option D) (met : List Sta) (t : Nat), s = [some (progD cP p), some (.int limit), some (.ref c), some (.ref (c + 1)), some (.int t), v5, v6] ∧ g <+: g' ∧ g'[c]? = some (.lst (met.map stD)) ∧ g'[c + 1]? = some (.set (met.map kS)) ∧ OkMet p limit met ∧ n = limit + 1 - t ∧ t ≤ met.length ∧ reachO p limit = bfs p limit (limit + 2 - t) met t) (limit + 1) ⟨none, none, [start0 p], 0, rfl, p1, hc1, hs1, ⟨fun w hw => by rw [List.mem_singleton.mp hw]; exact start_ok hp, l0, by simp⟩, rfl, by simp, rfl⟩ ?_
  rintro n s g3 ⟨v5, v6, met, t, rfl, pre, hc3, hs3, hm, en, ht, hb⟩
  simp only [v_asg, v_if, v_ret, v_drop, v_for, v_skip, w_bnd, w_pur, x_get, w_tgN, w_subG, w_asB, w_asI, w_if, w_truB, List.getElem?_cons_zero, List.getElem?_cons_succ, List.set_cons_zero, List.set_cons_succ, x_lenR, hc3, List.length_map, w_lt]
  have ml := hm.len
  obtain ⟨f, hf⟩ : ∃ f, limit + 2 - t = f + 1 := ⟨limit + 1 - t, by omega⟩
  rw [hf, bfs] at hb
  by_cases hlt : t < met.length
  · rw [decide_eq_true (show (t : Int) < (met.length : Int) by omega), if_pos rfl, v_seq]
    have e := List.getElem?_eq_getElem hlt
    have hat : atI (met.map stD) (t : Int) = some (stD met[t]) := DL.atI_nat (by rw [List.getElem?_map, e]; rfl)
    have hw := hm.ok _ (List.getElem_mem hlt)
    rw [e] at hb
    simp only [v_asg, v_if, v_ret, v_drop, v_for, v_skip, w_bnd, w_pur, x_get, w_tgN, w_subG, w_asB, w_asI, w_if, w_truB, List.getElem?_cons_zero, List.getElem?_cons_succ, List.set_cons_zero, List.set_cons_succ, x_ixR, hc3, hat]
    refine behinds_wp hp hw fun g4 r pre4 hr lr => ?_
    have hc4 := pre_get pre4 hc3
    have hs4 := pre_get pre4 hs3
    have lc3 := (List.getElem?_eq_some_iff.mp hc3).1
    have ls3 := (List.getElem?_eq_some_iff.mp hs3).1
    have pp := pre.trans pre4
    have lg := pre.length_le
    rw [v_seq]
    simp only [v_asg, v_if, v_ret, v_drop, v_for, v_skip, w_bnd, w_pur, x_get, w_tgN, w_subG, w_asB, w_asI, w_if, w_truB, List.getElem?_cons_zero, List.getElem?_cons_succ, List.set_cons_zero, List.set_cons_succ, x_seqR, hr]
    dsimp only at hb
    refine loop_wp (fun i s g' => ∃ (v6 : Option D) (met' : List Sta), s = [some (progD cP p), some (.int limit), some (.ref c), some (.ref (c + 1)), some (.int t), some (.ref r), v6] ∧ g <+: g' ∧ g'[r]? = some (.lst ((succL p met[t]).map stD)) ∧ g'[c]? = some (.lst (met'.map stD)) ∧ g'[c + 1]? = some (.set (met'.map kS)) ∧ OkMet p limit met' ∧ met <+: met' ∧ addAll limit met (succL p met[t]) = addAll limit met' ((succL p met[t]).drop i)) _ ⟨v6, met, rfl, pp, hr, hc4, hs4, hm, List.prefix_refl _, rfl⟩ (fun i s g' _ z => by
      obtain ⟨_, _, _, _, h, _⟩ := z
      exact h) ?_ ?_
    · rintro i x s g5 hx ⟨v6, met', rfl, p5, hr5, hc5, hs5, hm5, q5, ha⟩
      rw [List.getElem?_map] at hx
      obtain ⟨v, hv, rfl⟩ := Option.map_eq_some_iff.mp hx
      have hi := (List.getElem?_eq_some_iff.mp hv).1
      have hd : (succL p met[t]).drop i = v :: (succL p met[t]).drop (i + 1) := by
        rw [List.drop_eq_getElem_cons hi, (List.getElem?_eq_some_iff.mp hv).2]
      have vok := succL_ok hp hw (List.mem_of_getElem? hv)
      rw [hd, addAll] at ha
      have ml5 := hm5.len
      rw [w_tgN, v_seq]
      simp only [v_asg, v_if, v_ret, v_drop, v_for, v_skip, w_bnd, w_pur, x_get, w_tgN, w_subG, w_asB, w_asI, w_if, w_truB, List.getElem?_cons_zero, List.getElem?_cons_succ, List.set_cons_zero, List.set_cons_succ, in_set hs5, if_true]
      by_cases hin : v ∈ met'
      · rw [if_pos hin] at ha
        rw [decide_eq_true hin]
        simp only [Bool.not_true, Bool.false_eq_true, if_false]
        exact ⟨_, met', rfl, p5, hr5, hc5, hs5, hm5, q5, ha⟩
      · rw [if_neg hin] at ha
        rw [decide_eq_false hin]
        simp only [Bool.not_false, if_true]
        rw [v_seq]
        simp only [v_asg, v_if, v_ret, v_drop, v_for, v_skip, w_bnd, w_pur, x_get, w_tgN, w_subG, w_asB, w_asI, w_if, w_truB, List.getElem?_cons_zero, List.getElem?_cons_succ, List.set_cons_zero, List.set_cons_succ, x_lenR, hc5, List.length_map, w_ge]
        by_cases hfull : limit ≤ met'.length
        · rw [if_pos hfull] at ha
          rw [decide_eq_true (show (limit : Int) ≤ (met'.length : Int) by omega)]
          simp only [if_true, v_seq, v_asg, v_if, v_ret, v_drop, v_for, v_skip, w_bnd, w_pur, x_get, w_tgN, w_subG, w_asB, w_asI, w_if, w_truB, List.getElem?_cons_zero, List.getElem?_cons_succ, List.set_cons_zero, List.set_cons_succ]
          refine ⟨p5, .inl ⟨by first | rfl | trivial, k0 ?_⟩⟩
          rw [hb, ha]
        · rw [if_neg hfull] at ha
          rw [decide_eq_false (show ¬ (limit : Int) ≤ (met'.length : Int) by omega)]
          simp only [Bool.false_eq_true, if_false, v_asg, v_if, v_ret, v_drop, v_for, v_skip, w_bnd, w_pur, x_get, w_tgN, w_subG, w_asB, w_asI, w_if, w_truB, List.getElem?_cons_zero, List.getElem?_cons_succ, List.set_cons_zero, List.set_cons_succ]
          rw [v_seq]
          simp only [v_asg, v_if, v_ret, v_drop, v_for, v_skip, w_bnd, w_pur, x_get, w_tgN, w_subG, w_asB, w_asI, w_if, w_truB, List.getElem?_cons_zero, List.getElem?_cons_succ, List.set_cons_zero, List.set_cons_succ, set_is hs5]
          rw [add_set hs5 hin (by omega)]
          have lc5 := (List.getElem?_eq_some_iff.mp hc5).1
          have ls5 := (List.getElem?_eq_some_iff.mp hs5).1
          have hc6 : (g5.set (c + 1) (.set ((met' ++ [v]).map kS)))[c]? = some (.lst (met'.map stD)) := gset_ne hc5 (by omega)
          rw [v_seq]
          simp only [v_asg, v_if, v_ret, v_drop, v_for, v_skip, w_bnd, w_pur, x_get, w_tgN, w_subG, w_asB, w_asI, w_if, w_truB, List.getElem?_cons_zero, List.getElem?_cons_succ, List.set_cons_zero, List.set_cons_succ, x_tyL hc6]
          rw [x_app hc6 (by rw [List.length_map]; omega)]
          have em : met'.map stD ++ [stD v] = (met' ++ [v]).map stD := by rw [List.map_append]; rfl
          rw [em]
          refine ⟨_, met' ++ [v], rfl, pre_set (pre_set p5 (by omega)) (by omega), ?_, gset_eq hc6, ?_, ⟨fun w hw => ?_, by rw [List.length_append, List.length_singleton]; omega, ?_⟩, q5.trans (List.prefix_append _ _), ha⟩
          · exact gset_ne (gset_ne hr5 (by omega)) (by omega)
          · exact gset_ne (gset_eq hs5) (by omega)
          · rcases List.mem_append.mp hw with hw | hw
            · exact hm5.ok w hw
            · rw [List.mem_singleton.mp hw]
              exact vok
          · rw [List.nodup_append]
            exact ⟨hm5.nd, by simp, fun a ha b hb e => by
              rw [List.mem_singleton.mp hb] at e
              rw [e] at ha
              exact hin ha⟩
    · rintro s g5 ⟨v6, met', rfl, p5, hr5, hc5, hs5, hm5, q5, ha⟩
      rw [List.length_map, List.drop_length, addAll] at ha
      rw [v_seq, v_aug (x := t) (y := 1) rfl rfl]
      rw [ha] at hb
      simp only [v_asg, v_if, v_ret, v_drop, v_for, v_skip, w_bnd, w_pur, x_get, w_tgN, w_subG, w_asB, w_asI, w_if, w_truB, List.getElem?_cons_zero, List.getElem?_cons_succ, List.set_cons_zero, List.set_cons_succ]
      have := q5.length_le
      exact ⟨limit + 1 - (t + 1), by omega, _, _, met', t + 1, rfl, p5, hc5, hs5, hm5, rfl, by omega, by
        rw [hb, show limit + 2 - (t + 1) = f by omega]⟩
  · rw [decide_eq_false (show ¬ (t : Int) < (met.length : Int) by omega)]
    rw [List.getElem?_eq_none (by omega)] at hb
    simp only [Bool.false_eq_true, if_false]
    rw [v_seq]
    simp only [v_asg, v_if, v_ret, v_drop, v_for, v_skip, w_bnd, w_pur, x_get, w_tgN, w_subG, w_asB, w_asI, w_if, w_truB, List.getElem?_cons_zero, List.getElem?_cons_succ, List.set_cons_zero, List.set_cons_succ]
    refine ⟨pre, .inr ⟨decide_eq_false (by omega), k1 met g3 c hb pre hc3 (by omega)⟩⟩
end
end K06
namespace K06
open PySem PySem.Spec PyProof.Rows L2 DL
open Classical
noncomputable section
variable {cP : Addr}
def addU (F : List Sta) (rows : List Sta) : List Sta := rows.foldl (fun F x => if x ∈ F then F else F ++ [x]) F
theorem addU_cons (F : List Sta) (x : Sta) (r : List Sta) : addU F (x :: r) = addU (if x ∈ F then F else F ++ [x]) r := rfl
theorem addU_app (F : List Sta) (r : List Sta) (x : Sta) : addU F (r ++ [x]) = if x ∈ addU F r then addU F r else addU F r ++ [x] := by
  unfold addU
  rw [List.foldl_append]
  rfl
theorem addU_pre : ∀ (r F : List Sta), F <+: addU F r
  | [], F => List.prefix_refl _
  | x :: r, F => by
    rw [addU_cons]
    refine List.IsPrefix.trans ?_ (addU_pre r _)
    split
    · exact List.prefix_refl _
    · exact List.prefix_append _ _
theorem addU_mem : ∀ (r F : List Sta) (w : Sta), w ∈ addU F r ↔ w ∈ F ∨ w ∈ r
  | [], F, w => by simp [addU]
  | x :: r, F, w => by
    rw [addU_cons, addU_mem r, List.mem_cons]
    split
    · rename_i h
      constructor
      · rintro (z | z)
        · exact .inl z
        · exact .inr (.inr z)
      · rintro (z | rfl | z)
        · exact .inl z
        · exact .inl h
        · exact .inr z
    · rw [List.mem_append, List.mem_singleton]
      constructor
      · rintro ((z | z) | z)
        · exact .inl z
        · exact .inr (.inl z)
        · exact .inr (.inr z)
      · rintro (z | z | z)
        · exact .inl (.inl z)
        · exact .inl (.inr z)
        · exact .inr z
theorem addU_nd : ∀ (r F : List Sta), F.Nodup → (addU F r).Nodup
  | [], F, h => h
  | x :: r, F, h => by
    rw [addU_cons]
    refine addU_nd r _ ?_
    split
    · exact h
    · rename_i hx
      rw [List.nodup_append]
      exact ⟨h, by simp, fun a h1 b h2 e => hx (by rw [List.mem_singleton.mp h2] at e; rw [← e]; exact h1)⟩
theorem addU_len : ∀ (r F : List Sta), (addU F r).length ≤ F.length + r.length
  | [], F => Nat.le_refl _
  | x :: r, F => by
    rw [addU_cons]
    refine Nat.le_trans (addU_len r _) ?_
    split <;> simp <;> omega
theorem addAll_eq {limit : Nat} : ∀ (r F : List Sta), F.length ≤ limit → addAll limit F r = if (addU F r).length ≤ limit then some (addU F r) else none
  | [], F, h => by
    show some F = if F.length ≤ limit then some F else none
    rw [if_pos h]
  | x :: r, F, h => by
    rw [addAll, addU_cons]
    split
    · exact addAll_eq r F h
    · split
      · rename_i hl
        have := (addU_pre r (F ++ [x])).length_le
        simp only [List.length_append, List.length_cons, List.length_nil] at this
        rw [if_neg (by omega)]
      · exact addAll_eq r (F ++ [x]) (by simp only [List.length_append, List.length_cons, List.length_nil]; omega)
def lawS (p : Prg) (most : Nat) : Nat → List Sta → Nat → List Sta
  | 0, F, _ => F
  | f + 1, F, t => if F.length ≤ t ∨ most < F.length then F else match F[t]? with
    | none => F
    | some w => lawS p most f (addU F (succL p w)) (t + 1)
theorem lawS_pre {p : Prg} {most : Nat} : ∀ (f : Nat) (F : List Sta) (t : Nat), F <+: lawS p most f F t
  | 0, F, _ => List.prefix_refl _
  | f + 1, F, t => by
    rw [lawS]
    split
    · exact List.prefix_refl _
    · split
      · exact List.prefix_refl _
      · exact (addU_pre _ _).trans (lawS_pre f _ _)
theorem lawS_bfs {p : Prg} {most limit : Nat} (lm : limit ≤ most) : ∀ (f : Nat) (F : List Sta) (t f' : Nat), F.length ≤ limit → t ≤ F.length → f + t = most → limit + 2 ≤ f' + t → bfs p limit f' F t = if (lawS p most f F t).length ≤ limit then some (lawS p most f F t) else none := by
  have done : ∀ (F : List Sta) (t f' : Nat), F.length ≤ limit → F.length ≤ t → 1 ≤ f' → bfs p limit f' F t = some F := fun F t f' h1 h2 h3 => by
    obtain ⟨k, rfl⟩ : ∃ k, f' = k + 1 := ⟨f' - 1, by omega⟩
    rw [bfs, List.getElem?_eq_none h2]
  intro f
  induction f with
  | zero =>
    intro F t f' hl ht e hf
    have ht2 : F.length ≤ t := by omega
    show bfs p limit f' F t = if F.length ≤ limit then some F else none
    rw [if_pos hl]
    exact done F t f' hl ht2 (by omega)
  | succ f ih =>
    intro F t f' hl ht e hf
    rw [lawS]
    by_cases c : F.length ≤ t
    · rw [if_pos (show F.length ≤ t ∨ most < F.length from .inl c), if_pos hl]
      exact done F t f' hl c (by omega)
    · rw [if_neg (show ¬ (F.length ≤ t ∨ most < F.length) by omega)]
      obtain ⟨w, hw⟩ : ∃ w, F[t]? = some w := ⟨_, List.getElem?_eq_getElem (by omega)⟩
      obtain ⟨k, rfl⟩ : ∃ k, f' = k + 1 := ⟨f' - 1, by omega⟩
      rw [bfs, hw]
      dsimp only
      rw [addAll_eq _ _ hl]
      have pre := (addU_pre (succL p w) F).length_le
      by_cases d : (addU F (succL p w)).length ≤ limit
      · rw [if_pos d]
        exact ih _ _ _ d (by omega) (by omega) (by omega)
      · rw [if_neg d]
        have := (lawS_pre (p := p) (most := most) f (addU F (succL p w)) (t + 1)).length_le
        rw [if_neg (by omega)]
def foundL (p : Prg) (most : Nat) : List Sta := lawS p most most [start0 p] 0
theorem reach_found {p : Prg} {most limit : Nat} (l0 : 1 ≤ limit) (lm : limit ≤ most) : reachO p limit = if (foundL p most).length ≤ limit then some (foundL p most) else none :=
  lawS_bfs lm most [start0 p] 0 (limit + 2) l0 (Nat.zero_le _) rfl (Nat.le_refl _)
theorem next_in (p : Prg) (w : Sta) : Act.next ∈ actsL p w := by
  unfold actsL acts2 acts1 acts0
  split <;> split <;> simp
theorem put_ne (q : List (Int × Int)) (m : Int × Int) : putL q m ≠ [] := fun e => by
  unfold putL at e
  split at e
  · rename_i h
    have z : q = [] := by simpa using e
    subst z
    simp at h
  · simp at e
theorem found_two (p : Prg) {most : Nat} (hm : 1 ≤ most) : 2 ≤ (foundL p most).length := by
  obtain ⟨k, rfl⟩ : ∃ k, most = k + 1 := ⟨most - 1, by omega⟩
  have e : foundL p (k + 1) = lawS p (k + 1) k (addU [start0 p] (succL p (start0 p))) 1 := by
    show lawS p (k + 1) (k + 1) [start0 p] 0 = _
    rw [lawS, if_neg (by simp)]
    rfl
  rw [e]
  have pre := (lawS_pre (p := p) (most := k + 1) k (addU [start0 p] (succL p (start0 p))) 1).length_le
  have m1 : stepS p (start0 p) .next ∈ addU [start0 p] (succL p (start0 p)) := (addU_mem _ _ _).mpr (.inr (List.mem_map_of_mem (next_in p _)))
  have m0 : start0 p ∈ addU [start0 p] (succL p (start0 p)) := (addU_mem _ _ _).mpr (.inl (by simp))
  have ne : stepS p (start0 p) .next ≠ start0 p := fun z => by
    have z2 : putL (start0 p).queue (((nextF p (start0 p).focus.toNat : Nat) : Int), wordOf p (start0 p).values ((nextF p (start0 p).focus.toNat : Nat) : Int)) = [] := congrArg Sta.queue z
    exact put_ne _ _ z2
  refine Nat.le_trans ?_ pre
  have : ([stepS p (start0 p) .next, start0 p] : List Sta).length ≤ (addU [start0 p] (succL p (start0 p))).length := nodup_len (by simp [ne]) fun w hw => by
    simp only [List.mem_cons, List.not_mem_nil, or_false] at hw
    rcases hw with rfl | rfl
    · exact m1
    · exact m0
  exact this
def wT (ws : List Sta) : List (NK × D) := ws.map fun w => (kS w, D.bl true)
theorem wT_keys (ws : List Sta) : (wT ws).map (·.1) = ws.map kS := by unfold wT; rw [List.map_map]; rfl
theorem in_map {n : Nat} {neg : Bool} {w : Sta} {ws : List Sta} {g : GS} {P : D → GS → Prop} (h : g[n]? = some (.map (wT ws))) : okM (inMapD neg (stD w) (.ref n) g) P ↔ P (.bl (if neg = true then !decide (w ∈ ws) else decide (w ∈ ws))) g := by
  have e : stD w = .tup [dI w.values, .int w.focus, .tup (w.queue.map mD)] := rfl
  have ek := toT_K _ _ (toK_stD w)
  rw [e] at ek ⊢
  unfold inMapD
  dsimp only
  rw [h]
  dsimp only
  rw [ek]
  dsimp only
  rw [if_pos (Nat.le_trans (low_kS w) (by decide)), wT_keys, decide_eq_decide.mpr mem_kS]
  exact Iff.rfl
theorem put_map {n : Nat} {w : Sta} {ws : List Sta} {g : GS} {P : Unit → GS → Prop} (h : g[n]? = some (.map (wT ws))) (hw : w ∉ ws) (few : ws.length ≤ 1000) : okM (mputD (.ref n) (stD w) (.bl true) g) P ↔ P () (g.set n (.map (wT (ws ++ [w])))) := by
  have e : stD w = .tup [dI w.values, .int w.focus, .tup (w.queue.map mD)] := rfl
  have ek := toT_K _ _ (toK_stD w)
  rw [e] at ek ⊢
  unfold mputD
  dsimp only
  rw [h]
  dsimp only
  rw [ek]
  dsimp only
  rw [if_pos ⟨Nat.le_trans (low_kS w) (by decide), by unfold wT; rw [List.length_map]; exact Nat.le_trans few (by decide)⟩]
  unfold putN
  rw [wT_keys, if_neg (fun z => hw (mem_kS.mp z))]
  have e2 : wT ws ++ [(kS w, D.bl true)] = wT (ws ++ [w]) := by unfold wT; rw [List.map_append]; rfl
  rw [e2]
  exact Iff.rfl
theorem w_one1J {es : List D} {k : NK} {y : D} {g : GS} {P : D → GS → Prop} (hk : toT (.tup es) = some k) (low : k.depth ≤ 8) : okM (one1 (.tup es) y g) P ↔ P (.ref g.length) (g ++ [.map [(k, y)]]) := by
  unfold one1
  dsimp only
  rw [hk]
  dsimp only
  rw [if_pos low]
  exact Iff.rfl
theorem py_ref {g : GS} {a n : Nat} {ds : List D} (ha : g[a]? = some (.lst ds)) (hp : plL n ds = true) : pyG1 g (.ref a) = some (.list (toPyL ds)) := by
  unfold pyG1
  dsimp only
  rw [ha]
  simp only [pyL_pl n ds hp, Option.map_some]
theorem shaped_lst {n : Nat} {ds : List D} (hn : n < 64) (hp : plL n ds = true) : SeqAt.shaped (PyData.list (toPyL ds)) = true := by
  have q := shpL_pl n ds hp
  unfold SeqAt.shaped
  simp only [PyData.canLay0, PyData.depth, q.1, Bool.true_and]
  exact decide_eq_true (by have := q.2; omega)
theorem eqv_lst {n : Nat} {ds es : List D} (hp : plL n ds = true) (hq : plL n es = true) : PyData.eqv (.list (toPyL ds)) (.list (toPyL es)) = decide (ds = es) := by
  rw [show PyData.eqv (.list (toPyL ds)) (.list (toPyL es)) = PyData.eqvAll (toPyL ds) (toPyL es) from by simp only [PyData.eqv], Bool.eq_iff_iff, eqvL_pl n ds es hp hq, decide_eq_true_eq]
theorem eqM_lst {g : GS} {a b n : Nat} {ds es : List D} (hn : n < 64) (ha : g[a]? = some (.lst ds)) (hb : g[b]? = some (.lst es)) (hp : plL n ds = true) (hq : plL n es = true) : eqM (.ref a) (.ref b) g = some (decide (ds = es)) := by
  unfold eqM pyG
  dsimp only
  rw [py_ref ha hp, py_ref hb hq]
  dsimp only
  rw [shaped_lst hn hp, shaped_lst hn hq]
  simp only [Bool.and_self, if_true]
  rw [eqv_lst hp hq]
theorem ne_lst {g : GS} {a b n : Nat} {ds es : List D} {P : D → GS → Prop} (hn : n < 64) (ha : g[a]? = some (.lst ds)) (hb : g[b]? = some (.lst es)) (hp : plL n ds = true) (hq : plL n es = true) : okM (neD (.ref a) (.ref b) g) P ↔ P (.bl (!decide (ds = es))) g := by
  unfold neD
  rw [eqM_lst hn ha hb hp hq]
  exact Iff.rfl
theorem eq_lst2 {g : GS} {a b n : Nat} {ds es : List D} {P : D → GS → Prop} (hn : n < 64) (ha : g[a]? = some (.lst ds)) (hb : g[b]? = some (.lst es)) (hp : plL n ds = true) (hq : plL n es = true) : okM (eqD (.ref a) (.ref b) g) P ↔ P (.bl (decide (ds = es))) g := by
  unfold eqD
  rw [eqM_lst hn ha hb hp hq]
  exact Iff.rfl
theorem pick_go {i j : Nat} {g : GS} {ds : List D} {n : Int} {P : D → GS → Prop} (h0 : Drw i j g) (n0 : 0 < n) (hn : n = (ds.length : Int)) (n1 : n < 1000) (k : ∀ d g', d ∈ ds → Go i j g g' → P d g') : okM (mkL ds g) fun x g1 => okM (F__law_next cP [.ref j, .int n] g1) fun y g2 => okM (ixD x y g2) P := by
  obtain ⟨li, lj⟩ := h0.lt
  rw [w_mkL (by omega)]
  have go0 := (Go.refl h0).app [Cell.lst ds]
  refine next_go go0.d n0 (by omega) fun r g1 r0 r1 go1 => ?_
  obtain ⟨r, rfl⟩ := Int.eq_ofNat_of_zero_le r0
  have hr : r < ds.length := by omega
  have hg : g1[g.length]? = some (.lst ds) := by
    rw [go1.k.get g.length (by simp) (by omega) (by omega)]
    exact List.getElem?_concat_length
  rw [w_ixR hg (DL.atI_nat (List.getElem?_eq_getElem hr))]
  exact k _ _ (List.getElem_mem hr) (go0.trans go1)
theorem pre_atL {F F' : List Sta} (h : F <+: F') {i : Nat} {x : Sta} (e : F[i]? = some x) : F'[i]? = some x := by
  obtain ⟨t, rfl⟩ := h
  rw [List.getElem?_append_left (List.getElem?_eq_some_iff.mp e).1]
  exact e
theorem v_brk {s : Sl} {g : GS} {Pn Pb Pc : Sl → GS → Prop} {Pr : D → GS → Prop} : okS (brkS s g) Pn Pr Pb Pc ↔ Pb s g := Iff.rfl
theorem lawfound_wp {p : Prg} {most n : Nat} {g : GS} {P : D → GS → Prop} (hp : OkPrg p) (hmost : most ≤ 400) (hn : g[n]? = some (.dic (prgK p)))
    (k : ∀ g2 m, g <+: g2 → g2[m]? = some (.lst ((foundL p most).map stD)) → g.length ≤ m → P (.ref m) g2) : okM (F__law_found cP [.ref n, .int most] g) P := by
  have ln := (List.getElem?_eq_some_iff.mp hn).1
  refine fn_ref rfl ?_
  show okS (m__law_found cP [some (.ref n), some (.int most), none, none, none, none, none, none] g) _ _ _ _
  unfold m__law_found
  rw [v_seq]
  simp only [v_asg, v_if, v_ret, v_drop, v_for, v_skip, w_bnd, w_pur, x_get, w_tgN, w_subG, w_asB, w_asI, w_if, w_truB, List.getElem?_cons_zero, List.getElem?_cons_succ, List.set_cons_zero, List.set_cons_succ, compD, dget_sizes hn, dI, x_seqT, wipeD]
  refine okM.of (comp_wpT (by exact True.intro) D.int (fun _ => D.int 0) p.sizes fun a ha => ⟨_, rfl, rfl, okM.eq ?_⟩) ?_
  · simp only [v_asg, v_if, v_ret, v_drop, v_for, v_skip, w_bnd, w_pur, x_get, w_tgN, w_subG, w_asB, w_asI, w_if, w_truB, List.getElem?_cons_zero, List.getElem?_cons_succ, List.set_cons_zero, List.set_cons_succ]
    first | exact ⟨rfl, rfl⟩ | exact ⟨rfl, True.intro⟩ | exact rfl | exact True.intro | simp
  have sl := hp.sizes.2.1
  rw [if_pos (by rw [List.length_map]; exact Nat.le_trans sl (by decide)), w_pur]
  rw [w_mkT (by simp), w_mkT (by simp), w_mkL (by simp)]
  have e0 : D.tup [.tup (p.sizes.map fun _ => D.int 0), .int 0, .tup []] = stD (start0 p) := by
    show _ = D.tup [.tup ((p.sizes.map fun _ => (0 : Int)).map D.int), .int 0, .tup []]
    rw [List.map_map]
    rfl
  rw [e0, v_seq]
  simp only [newMap1, v_asg, v_if, v_ret, v_drop, v_for, v_skip, w_bnd, w_pur, x_get, w_tgN, w_subG, w_asB, w_asI, w_if, w_truB, List.getElem?_cons_zero, List.getElem?_cons_succ, List.set_cons_zero, List.set_cons_succ]
  rw [w_ixR (d := stD (start0 p)) List.getElem?_concat_length rfl]
  have e1 : stD (start0 p) = .tup [.tup ((start0 p).values.map D.int), .int (start0 p).focus, .tup ((start0 p).queue.map mD)] := rfl
  have t0 : toT (.tup [.tup ((start0 p).values.map D.int), .int (start0 p).focus, .tup ((start0 p).queue.map mD)]) = some (kS (start0 p)) := toT_K _ _ (toK_stD (start0 p))
  rw [e1, w_one1J t0 (Nat.le_trans (low_kS _) (by decide)), ← e1]
  have l0 : (g ++ [Cell.lst [stD (start0 p)]]).length = g.length + 1 := by simp
  rw [l0]
  have hc : ((g ++ [Cell.lst [stD (start0 p)]]) ++ [.map [(kS (start0 p), .bl true)]])[g.length]? = some (.lst (([start0 p] : List Sta).map stD)) := pre_get (List.prefix_append _ _) List.getElem?_concat_length
  have hm : ((g ++ [Cell.lst [stD (start0 p)]]) ++ [.map [(kS (start0 p), .bl true)]])[g.length + 1]? = some (.map (wT [start0 p])) := by
    rw [← l0]
    exact List.getElem?_concat_length
  have p0 : g <+: (g ++ [Cell.lst [stD (start0 p)]]) ++ [.map [(kS (start0 p), .bl true)]] := pre_app (List.prefix_append _ _) _
  have hn0 := pre_get p0 hn
  generalize (g ++ [Cell.lst [stD (start0 p)]]) ++ [.map [(kS (start0 p), .bl true)]] = g1 at hc hm p0 hn0 ⊢
  generalize hcl : g.length = c at hc hm ln ⊢
  rw [v_seq]
  simp only [v_asg, v_if, v_ret, v_drop, v_for, v_skip, w_bnd, w_pur, x_get, w_tgN, w_subG, w_asB, w_asI, w_if, w_truB, List.getElem?_cons_zero, List.getElem?_cons_succ, List.set_cons_zero, List.set_cons_succ]
  rw [x_rng (by omega) (by omega)]
  have rl : (rngItems 0 (most : Int)).length = most := by
    unfold rngItems
    rw [List.length_map, List.length_range]
    omega
  refine loop_wp (fun t s g' => ∃ (v4 v5 v6 v7 : Option D) (F : List Sta), s = [some (.ref n), some (.int most), some (.ref c), some (.ref (c + 1)), v4, v5, v6, v7] ∧ F.Nodup ∧ (∀ w ∈ F, OkSta p w) ∧ F.length ≤ 500 ∧ t ≤ F.length ∧ lawS p most (most - t) F t = foundL p most ∧ t ≤ most ∧ g <+: g' ∧ g'[n]? = some (.dic (prgK p)) ∧ g'[c]? = some (.lst (F.map stD)) ∧ g'[c + 1]? = some (.map (wT F))) _
    ⟨none, none, none, none, [start0 p], rfl, by simp, (fun w hw => by rw [List.mem_singleton.mp hw]; exact start_ok hp), by simp, Nat.zero_le _, rfl, Nat.zero_le _, p0, hn0, hc, hm⟩ (fun _ _ _ _ _ => True.intro) ?_ ?_
  · rintro t y s g' hy ⟨v4, v5, v6, v7, F, rfl, nd, oks, fl, tl, es, tm, pre, hn', hc', hm'⟩
    have htl : t < most := by
      have h9 : t < (rngItems 0 (most : Int)).length := (List.getElem?_eq_some_iff.mp hy).1
      rwa [rl] at h9
    have hy : y = .int (t : Int) := by
      unfold rngItems at hy
      rw [List.getElem?_map] at hy
      obtain ⟨j, hj, rfl⟩ := Option.map_eq_some_iff.mp hy
      have hlt := (List.getElem?_eq_some_iff.mp hj).1
      rw [List.length_range] at hlt
      rw [List.getElem?_range hlt] at hj
      cases hj
      simp
    subst hy
    obtain ⟨f, ef⟩ : ∃ f, most - t = f + 1 := ⟨most - t - 1, by omega⟩
    rw [ef, lawS] at es
    rw [w_tgN, v_seq]
    simp only [v_asg, v_if, v_ret, v_drop, v_for, v_skip, w_bnd, w_pur, x_get, w_tgN, w_subG, w_asB, w_asI, w_if, w_truB, List.getElem?_cons_zero, List.getElem?_cons_succ, List.set_cons_zero, List.set_cons_succ, x_lenR, hc', List.length_map]
    rw [w_ge, w_asB]
    by_cases c1 : F.length ≤ t
    · rw [if_pos (.inl c1)] at es
      rw [decide_eq_true (by omega)]
      simp only [if_true, v_asg, v_if, v_ret, v_drop, v_for, v_skip, w_bnd, w_pur, x_get, w_tgN, w_subG, w_asB, w_asI, w_if, w_truB, List.getElem?_cons_zero, List.getElem?_cons_succ, List.set_cons_zero, List.set_cons_succ, v_seq, v_brk]
      exact ⟨k _ _ pre (es ▸ hc') (by omega), decide_eq_false (by omega)⟩
    rw [decide_eq_false (by omega)]
    simp only [Bool.false_eq_true, if_false, v_asg, v_if, v_ret, v_drop, v_for, v_skip, w_bnd, w_pur, x_get, w_tgN, w_subG, w_asB, w_asI, w_if, w_truB, List.getElem?_cons_zero, List.getElem?_cons_succ, List.set_cons_zero, List.set_cons_succ, x_lenR, hc', List.length_map]
    rw [w_gt, w_asB]
    by_cases c2 : most < F.length
    · rw [if_pos (.inr c2)] at es
      rw [decide_eq_true (by omega)]
      simp only [if_true, v_asg, v_if, v_ret, v_drop, v_for, v_skip, w_bnd, w_pur, x_get, w_tgN, w_subG, w_asB, w_asI, w_if, w_truB, List.getElem?_cons_zero, List.getElem?_cons_succ, List.set_cons_zero, List.set_cons_succ, v_seq, v_brk]
      exact ⟨k _ _ pre (es ▸ hc') (by omega), decide_eq_false (by omega)⟩
    rw [decide_eq_false (by omega)]
    simp only [Bool.false_eq_true, if_false, v_asg, v_if, v_ret, v_drop, v_for, v_skip, w_bnd, w_pur, x_get, w_tgN, w_subG, w_asB, w_asI, w_if, w_truB, List.getElem?_cons_zero, List.getElem?_cons_succ, List.set_cons_zero, List.set_cons_succ]
    rw [if_neg (by omega)] at es
    have hlt : t < F.length := by omega
    have hat : F[t]? = some F[t] := List.getElem?_eq_getElem hlt
    generalize F[t] = x at hat
    rw [hat] at es
    dsimp only at es
    have hxF := List.mem_of_getElem? hat
    have hw := oks x hxF
    have at_ : ∀ F' : List Sta, F <+: F' → atI (F'.map stD) (t : Int) = some (stD x) := fun F' pr => DL.atI_nat (by rw [List.getElem?_map, pre_atL pr hat]; rfl)
    have al := (actsL_len hp x).2
    rw [v_seq]
    simp only [v_asg, v_if, v_ret, v_drop, v_for, v_skip, w_bnd, w_pur, x_get, w_tgN, w_subG, w_asB, w_asI, w_if, w_truB, List.getElem?_cons_zero, List.getElem?_cons_succ, List.set_cons_zero, List.set_cons_succ]
    rw [w_ixR hc' (at_ F (List.prefix_refl _))]
    refine lacts_wp hp hw hn' fun ex q hq lq => ?_
    have pre2 : g <+: g' ++ ex := pre_app pre ex
    have hc2 := pre_get (List.prefix_append g' ex) hc'
    have hm2 := pre_get (List.prefix_append g' ex) hm'
    have hn2 := pre_get (List.prefix_append g' ex) hn'
    have lc := (List.getElem?_eq_some_iff.mp hc').1
    have lm := (List.getElem?_eq_some_iff.mp hm').1
    generalize g' ++ ex = g2 at hq pre2 hc2 hm2 hn2 ⊢
    simp only [x_seqR, hq]
    refine loop_wp (fun i s g3 => ∃ (v5 v6 v7 : Option D), s = [some (.ref n), some (.int most), some (.ref c), some (.ref (c + 1)), some (.int t), v5, v6, v7] ∧ g <+: g3 ∧ g3[n]? = some (.dic (prgK p)) ∧ g3[c]? = some (.lst ((addU F (((actsL p x).take i).map (stepS p x))).map stD)) ∧ g3[c + 1]? = some (.map (wT (addU F (((actsL p x).take i).map (stepS p x))))) ∧ g3[q]? = some (.lst ((actsL p x).map actD))) _ ⟨v5, v6, v7, rfl, pre2, hn2, hc2, hm2, hq⟩ ?_ ?_ ?_
    · rintro i s g3 _ ⟨_, _, _, rfl, _, _, _, _, hq3⟩
      exact hq3
    · rintro i y s g3 hy ⟨v5, v6, v7, rfl, pre3, hn3, hc3, hm3, hq3⟩
      rw [List.getElem?_map] at hy
      obtain ⟨a, ha, rfl⟩ := Option.map_eq_some_iff.mp hy
      have ma : a ∈ actsL p x := List.mem_of_getElem? ha
      have il := (List.getElem?_eq_some_iff.mp ha).1
      have tk : (actsL p x).take (i + 1) = (actsL p x).take i ++ [a] := by rw [List.take_add_one, ha]; rfl
      have pF := addU_pre (((actsL p x).take i).map (stepS p x)) F
      have fw := addU_len (((actsL p x).take i).map (stepS p x)) F
      rw [List.length_map, List.length_take] at fw
      have new : addU F (((actsL p x).take (i + 1)).map (stepS p x)) = if stepS p x a ∈ addU F (((actsL p x).take i).map (stepS p x)) then addU F (((actsL p x).take i).map (stepS p x)) else addU F (((actsL p x).take i).map (stepS p x)) ++ [stepS p x a] := by
        rw [tk, List.map_append]
        exact addU_app _ _ _
      rw [new]
      generalize addU F (((actsL p x).take i).map (stepS p x)) = F' at hc3 hm3 pF fw ⊢
      rw [w_tgN, v_seq]
      simp only [v_asg, v_if, v_ret, v_drop, v_for, v_skip, w_bnd, w_pur, x_get, w_tgN, w_subG, w_asB, w_asI, w_if, w_truB, List.getElem?_cons_zero, List.getElem?_cons_succ, List.set_cons_zero, List.set_cons_succ]
      rw [w_ixR hc3 (at_ F' pF)]
      refine lafter_wp hp hw ma hn3 fun ex4 => ?_
      rw [w_ixT (d := stD (stepS p x a)) rfl]
      have pre4 := pre_app pre3 ex4
      have hc4 := pre_get (List.prefix_append g3 ex4) hc3
      have hm4 := pre_get (List.prefix_append g3 ex4) hm3
      have hq4 := pre_get (List.prefix_append g3 ex4) hq3
      have hn4 := pre_get (List.prefix_append g3 ex4) hn3
      have l3 := pre3.length_le
      generalize g3 ++ ex4 = g4 at pre4 hc4 hm4 hq4 hn4 ⊢
      rw [v_seq]
      simp only [v_asg, v_if, v_ret, v_drop, v_for, v_skip, w_bnd, w_pur, x_get, w_tgN, w_subG, w_asB, w_asI, w_if, w_truB, List.getElem?_cons_zero, List.getElem?_cons_succ, List.set_cons_zero, List.set_cons_succ]
      rw [in_map hm4, w_asB]
      by_cases hin : stepS p x a ∈ F'
      · rw [decide_eq_true hin, if_pos hin]
        simp only [if_true, Bool.not_true, Bool.false_eq_true, if_false, v_asg, v_if, v_ret, v_drop, v_for, v_skip, w_bnd, w_pur, x_get, w_tgN, w_subG, w_asB, w_asI, w_if, w_truB, List.getElem?_cons_zero, List.getElem?_cons_succ, List.set_cons_zero, List.set_cons_succ]
        exact ⟨_, _, _, rfl, pre4, hn4, hc4, hm4, hq4⟩
      · rw [decide_eq_false hin, if_neg hin]
        simp only [if_true, Bool.not_false]
        rw [v_seq]
        simp only [v_asg, v_if, v_ret, v_drop, v_for, v_skip, w_bnd, w_pur, x_get, w_tgN, w_subG, w_asB, w_asI, w_if, w_truB, List.getElem?_cons_zero, List.getElem?_cons_succ, List.set_cons_zero, List.set_cons_succ, w_subMG]
        rw [put_map hm4 hin (by omega)]
        have hc5 := gset_ne (c := .map (wT (F' ++ [stepS p x a]))) hc4 (show c + 1 ≠ c by omega)
        have hm5 : (g4.set (c + 1) (.map (wT (F' ++ [stepS p x a]))))[c + 1]? = some (.map (wT (F' ++ [stepS p x a]))) := gset_eq hm4
        have hq5 := gset_ne (c := .map (wT (F' ++ [stepS p x a]))) hq4 (show c + 1 ≠ q by omega)
        have hn5 := gset_ne (c := .map (wT (F' ++ [stepS p x a]))) hn4 (show c + 1 ≠ n by omega)
        have pre5 : g <+: g4.set (c + 1) (.map (wT (F' ++ [stepS p x a]))) := pre_set pre4 (by omega)
        generalize g4.set (c + 1) (.map (wT (F' ++ [stepS p x a]))) = g5 at hc5 hm5 hq5 hn5 pre5 ⊢
        rw [v_seq]
        simp only [v_asg, v_if, v_ret, v_drop, v_for, v_skip, w_bnd, w_pur, x_get, w_tgN, w_subG, w_asB, w_asI, w_if, w_truB, List.getElem?_cons_zero, List.getElem?_cons_succ, List.set_cons_zero, List.set_cons_succ, x_tyL hc5]
        rw [x_app hc5 (by rw [List.length_map]; omega)]
        refine ⟨_, _, _, rfl, pre_set pre5 (by omega), gset_ne hn5 (by omega), ?_, gset_ne hm5 (by omega), gset_ne hq5 (by omega)⟩
        rw [gset_eq hc5, List.map_append]
        rfl
    · rintro s g3 ⟨v5, v6, v7, rfl, pre3, hn3, hc3, hm3, hq3⟩
      rw [List.length_map, List.take_length] at hc3 hm3
      have e2 : (actsL p x).map (stepS p x) = succL p x := rfl
      rw [e2] at hc3 hm3
      have pl := (addU_pre (succL p x) F).length_le
      have ul := addU_len (succL p x) F
      have sl2 : (succL p x).length = (actsL p x).length := List.length_map ..
      refine ⟨_, _, _, _, addU F (succL p x), rfl, addU_nd _ _ nd, fun w hw2 => ?_, by omega, by omega, by rw [show most - (t + 1) = f by omega]; exact es, by omega, pre3, hn3, hc3, hm3⟩
      rcases (addU_mem _ _ _).mp hw2 with h | h
      · exact oks w h
      · exact succL_ok hp hw h
  · rintro s g' ⟨v4, v5, v6, v7, F, rfl, nd, oks, fl, tl, es, tm, pre, hn', hc', hm'⟩
    rw [rl, Nat.sub_self] at es
    have es : F = foundL p most := es
    rw [v_seq]
    simp only [v_asg, v_if, v_ret, v_drop, v_for, v_skip, w_bnd, w_pur, x_get, w_tgN, w_subG, w_asB, w_asI, w_if, w_truB, List.getElem?_cons_zero, List.getElem?_cons_succ, List.set_cons_zero, List.set_cons_succ]
    exact ⟨k _ _ pre (es ▸ hc') (by omega), decide_eq_false (by omega)⟩
theorem isi_lst {n : Nat} {ds : List D} {g : GS} {P : D → GS → Prop} (h : g[n]? = some (.lst ds)) : okM (isiD "list" [.ref n, .ty "list"] g) P ↔ P (.bl true) g := by
  unfold isiD tyD
  simp only [if_true]
  rw [h]
  dsimp only
  rw [show kitB "list" "list" = some true from by decide]
  rfl
theorem plL_st : ∀ (ws : List Sta), plL 3 (ws.map stD) = true
  | [] => rfl
  | w :: ws => by rw [List.map_cons, plL, pl_stD w, plL_st ws]; rfl
theorem isn_non {g : GS} {P : D → GS → Prop} : okM (isNoneD false .non .non g) P ↔ P (.bl true) g := Iff.rfl
theorem notN_non {g : GS} {P : D → GS → Prop} : okM (isNoneD true .non .non g) P ↔ P (.bl false) g := Iff.rfl
theorem maxI {i j : Int} {g : GS} {P : D → GS → Prop} : okM (maxD [.int i, .int j] g) P ↔ P (.int (if j > i then j else i)) g := Iff.rfl
theorem law_core {scr : D} {G0 : GS} {ns : List Int} (hL : ∀ Pd, okM (listD [scr] G0) Pd ↔ Pd (.ref G0.length) (G0 ++ [.lst (ns.map D.int)])) : okM (F_law cP [scr] G0) (fun d _ => d = .bl true) := by
  refine okM.mono (fn_wp (P := fun d _ => d = .bl true) rfl ?_) fun _ _ h => h
  show okS (m_law cP [some scr, none, none, none, none, none, none, none, none] G0) _ _ _ _
  unfold m_law
  rw [v_seq]
  simp only [v_asg, v_if, v_ret, v_drop, v_for, v_skip, w_bnd, w_pur, x_get, w_tgN, w_subG, w_asB, w_asI, w_if, w_truB, List.getElem?_cons_zero, List.getElem?_cons_succ, List.set_cons_zero, List.set_cons_succ, hL]
  rw [w_mkL (by simp), v_seq]
  simp only [v_asg, v_if, v_ret, v_drop, v_for, v_skip, w_bnd, w_pur, x_get, w_tgN, w_subG, w_asB, w_asI, w_if, w_truB, List.getElem?_cons_zero, List.getElem?_cons_succ, List.set_cons_zero, List.set_cons_succ]
  have d0 : Drw G0.length (G0.length + 1) ((G0 ++ [Cell.lst (ns.map D.int)]) ++ [.lst [.ref G0.length, .int 0, .int 1]]) := ⟨ns, 0, 1, by simp, by rw [List.getElem?_append_right (by simp)]; simp, by omega, by decide, by decide⟩
  have el : (G0 ++ [Cell.lst (ns.map D.int)]).length = G0.length + 1 := by simp
  rw [el]
  generalize G0.length = i at d0 ⊢
  generalize hj : i + 1 = j at d0 ⊢
  refine data_go d0 fun p g1 n hp go1 hn => ?_
  rw [v_seq]
  simp only [v_asg, v_if, v_ret, v_drop, v_for, v_skip, w_bnd, w_pur, x_get, w_tgN, w_subG, w_asB, w_asI, w_if, w_truB, List.getElem?_cons_zero, List.getElem?_cons_succ, List.set_cons_zero, List.set_cons_succ, made_eq hp hn, ok_iff]
  have ni : n ≠ i := fun z => by
    obtain ⟨_, _, _, d⟩ := go1.d
    rw [z, d.hi] at hn; cases hn
  have nj : n ≠ j := fun z => by
    obtain ⟨_, _, _, d⟩ := go1.d
    rw [z, d.hj] at hn; cases hn
  rw [v_seq]
  simp only [v_asg, v_if, v_ret, v_drop, v_for, v_skip, w_bnd, w_pur, x_get, w_tgN, w_subG, w_asB, w_asI, w_if, w_truB, List.getElem?_cons_zero, List.getElem?_cons_succ, List.set_cons_zero, List.set_cons_succ]
  refine pick_go go1.d (by decide) (by decide) (by decide) fun d g2 hd go2 => ?_
  obtain ⟨most, rfl, m1, m2⟩ : ∃ most : Nat, d = .int most ∧ 60 ≤ most ∧ most ≤ 400 := by
    simp only [List.mem_cons, List.not_mem_nil, or_false, or_self] at hd
    rcases hd with rfl | rfl
    · exact ⟨400, rfl, by decide, by decide⟩
    · exact ⟨60, rfl, by decide, by decide⟩
  have ln1 := (List.getElem?_eq_some_iff.mp hn).1
  have hn2 : g2[n]? = some (.dic (prgK p)) := by rw [go2.k.get n ln1 ni nj]; exact hn
  rw [v_seq]
  simp only [v_asg, v_if, v_ret, v_drop, v_for, v_skip, w_bnd, w_pur, x_get, w_tgN, w_subG, w_asB, w_asI, w_if, w_truB, List.getElem?_cons_zero, List.getElem?_cons_succ, List.set_cons_zero, List.set_cons_succ]
  refine next_go go2.d (by omega) (by omega) fun r g3 r0 r1 go3 => ?_
  obtain ⟨r, rfl⟩ := Int.eq_ofNat_of_zero_le r0
  rw [w_addi, show (1 : Int) + (r : Int) = ((1 + r : Nat) : Int) by omega]
  have ln2 := (List.getElem?_eq_some_iff.mp hn2).1
  have hn3 : g3[n]? = some (.dic (prgK p)) := by rw [go3.k.get n ln2 ni nj]; exact hn2
  rw [v_seq]
  simp only [v_asg, v_if, v_ret, v_drop, v_for, v_skip, w_bnd, w_pur, x_get, w_tgN, w_subG, w_asB, w_asI, w_if, w_truB, List.getElem?_cons_zero, List.getElem?_cons_succ, List.set_cons_zero, List.set_cons_succ]
  refine lawfound_wp hp m2 hn3 fun g4 m p4 hm lm => ?_
  have d4 : Drw i j g4 := by
    obtain ⟨ex, rfl⟩ := p4
    exact go3.d.app ex
  have mi : m ≠ i := by
    have := go3.d.lt
    omega
  have mj : m ≠ j := by
    have := go3.d.lt
    omega
  rw [v_seq]
  simp only [v_asg, v_if, v_ret, v_drop, v_for, v_skip, w_bnd, w_pur, x_get, w_tgN, w_subG, w_asB, w_asI, w_if, w_truB, List.getElem?_cons_zero, List.getElem?_cons_succ, List.set_cons_zero, List.set_cons_succ]
  refine next_go d4 (by decide) (by decide) fun kind g5 k0 k1 go5 => ?_
  have lm4 := (List.getElem?_eq_some_iff.mp hm).1
  have hm5 : g5[m]? = some (.lst ((foundL p most).map stD)) := by rw [go5.k.get m lm4 mi mj]; exact hm
  obtain ⟨kind, rfl⟩ := Int.eq_ofNat_of_zero_le k0
  have two := found_two p (show 1 ≤ most by omega)
  refine seq_wp (fun s g6 => ∃ limit : Nat, 1 ≤ limit ∧ limit ≤ most ∧ g6 = g5 ∧ s = [some scr, some (.ref j), some (.ref n), some (progD cP p), some (.int most), some (.int limit), some (.ref m), some (.int kind), none]) ?_ ?_
  · simp only [v_asg, v_if, v_ret, v_drop, v_for, v_skip, w_bnd, w_pur, x_get, w_tgN, w_subG, w_asB, w_asI, w_if, w_truB, List.getElem?_cons_zero, List.getElem?_cons_succ, List.set_cons_zero, List.set_cons_succ, x_lenR, hm5, List.length_map, w_gt, w_le]
    by_cases kp : (0 : Int) < (kind : Int)
    · rw [decide_eq_true kp]
      simp only [if_true, v_asg, v_if, v_ret, v_drop, v_for, v_skip, w_bnd, w_pur, x_get, w_tgN, w_subG, w_asB, w_asI, w_if, w_truB, List.getElem?_cons_zero, List.getElem?_cons_succ, List.set_cons_zero, List.set_cons_succ, x_lenR, hm5, List.length_map, w_le]
      by_cases lp : ((foundL p most).length : Int) ≤ (most : Int)
      · rw [decide_eq_true lp]
        simp only [if_true]
        rw [v_seq]
        simp only [v_asg, v_if, v_ret, v_drop, v_for, v_skip, w_bnd, w_pur, x_get, w_tgN, w_subG, w_asB, w_asI, w_if, w_truB, List.getElem?_cons_zero, List.getElem?_cons_succ, List.set_cons_zero, List.set_cons_succ, x_lenR, hm5, List.length_map, w_addi, w_sub, maxI]
        by_cases c : ((foundL p most).length : Int) + 1 - (kind : Int) > 1
        · rw [if_pos c]
          exact ⟨(foundL p most).length + 1 - kind, by omega, by omega, True.intro, by rw [show ((foundL p most).length : Int) + 1 - (kind : Int) = (((foundL p most).length + 1 - kind : Nat) : Int) by omega]⟩
        · rw [if_neg c]
          exact ⟨1, by omega, by omega, True.intro, rfl⟩
      · rw [decide_eq_false lp]
        simp only [Bool.false_eq_true, if_false, v_asg, v_if, v_ret, v_drop, v_for, v_skip, w_bnd, w_pur, x_get, w_tgN, w_subG, w_asB, w_asI, w_if, w_truB, List.getElem?_cons_zero, List.getElem?_cons_succ, List.set_cons_zero, List.set_cons_succ]
        exact ⟨1 + r, by omega, by omega, True.intro, rfl⟩
    · rw [decide_eq_false kp]
      simp only [Bool.false_eq_true, if_false, v_asg, v_if, v_ret, v_drop, v_for, v_skip, w_bnd, w_pur, x_get, w_tgN, w_subG, w_asB, w_asI, w_if, w_truB, List.getElem?_cons_zero, List.getElem?_cons_succ, List.set_cons_zero, List.set_cons_succ]
      exact ⟨1 + r, by omega, by omega, True.intro, rfl⟩
  rintro s g6 ⟨limit, l0, l1, rfl, rfl⟩
  have rf := reach_found (p := p) l0 l1
  have r1' := reach_found (p := p) (limit := 1) (most := most) (by decide) (by omega)
  rw [if_neg (by omega)] at r1'
  rw [v_seq]
  simp only [v_asg, v_if, v_ret, v_drop, v_for, v_skip, w_bnd, w_pur, x_get, w_tgN, w_subG, w_asB, w_asI, w_if, w_truB, List.getElem?_cons_zero, List.getElem?_cons_succ, List.set_cons_zero, List.set_cons_succ]
  refine reached_wp (limit := 1) hp (by decide) (by decide) (fun _ g7 p7 => ?_) fun ws _ _ e _ _ _ => by rw [r1'] at e; cases e
  simp only [notN_non, w_asB, Bool.false_eq_true, if_false, v_asg, v_if, v_ret, v_drop, v_for, v_skip, w_bnd, w_pur, x_get, w_tgN, w_subG, w_asB, w_asI, w_if, w_truB, List.getElem?_cons_zero, List.getElem?_cons_succ, List.set_cons_zero, List.set_cons_succ]
  have hm7 := pre_get p7 hm5
  rw [v_seq]
  simp only [v_asg, v_if, v_ret, v_drop, v_for, v_skip, w_bnd, w_pur, x_get, w_tgN, w_subG, w_asB, w_asI, w_if, w_truB, List.getElem?_cons_zero, List.getElem?_cons_succ, List.set_cons_zero, List.set_cons_succ]
  refine reached_wp hp l0 (by omega) (fun e g8 p8 => ?_) fun ws g8 q e p8 hq lq => ?_
  · rw [rf] at e
    have big : limit < (foundL p most).length := by
      by_cases c : (foundL p most).length ≤ limit
      · rw [if_pos c] at e
        cases e
      · omega
    have hm8 := pre_get p8 hm7
    rw [v_seq]
    simp only [v_asg, v_if, v_ret, v_drop, v_for, v_skip, w_bnd, w_pur, x_get, w_tgN, w_subG, w_asB, w_asI, w_if, w_truB, List.getElem?_cons_zero, List.getElem?_cons_succ, List.set_cons_zero, List.set_cons_succ, x_lenR, hm8, List.length_map, w_gt]
    rw [decide_eq_true (by omega)]
    simp only [if_true, v_seq, v_asg, v_if, v_ret, v_drop, v_for, v_skip, w_bnd, w_pur, x_get, w_tgN, w_subG, w_asB, w_asI, w_if, w_truB, List.getElem?_cons_zero, List.getElem?_cons_succ, List.set_cons_zero, List.set_cons_succ, isn_non]
    first | exact ⟨rfl, rfl⟩ | exact ⟨rfl, True.intro⟩ | exact rfl | exact True.intro | simp
  · rw [rf] at e
    by_cases c : (foundL p most).length ≤ limit
    · rw [if_pos c] at e
      cases e
      have hm8 := pre_get p8 hm7
      have lm7 := (List.getElem?_eq_some_iff.mp hm7).1
      have qm : q ≠ m := by omega
      rw [v_seq]
      simp only [v_asg, v_if, v_ret, v_drop, v_for, v_skip, w_bnd, w_pur, x_get, w_tgN, w_subG, w_asB, w_asI, w_if, w_truB, List.getElem?_cons_zero, List.getElem?_cons_succ, List.set_cons_zero, List.set_cons_succ, x_lenR, hm8, List.length_map, w_gt]
      rw [decide_eq_false (by omega)]
      simp only [Bool.false_eq_true, if_false, v_asg, v_if, v_ret, v_drop, v_for, v_skip, w_bnd, w_pur, x_get, w_tgN, w_subG, w_asB, w_asI, w_if, w_truB, List.getElem?_cons_zero, List.getElem?_cons_succ, List.set_cons_zero, List.set_cons_succ]
      rw [v_seq]
      simp only [v_asg, v_if, v_ret, v_drop, v_for, v_skip, w_bnd, w_pur, x_get, w_tgN, w_subG, w_asB, w_asI, w_if, w_truB, List.getElem?_cons_zero, List.getElem?_cons_succ, List.set_cons_zero, List.set_cons_succ, isi_lst hq, Bool.not_true, Bool.false_eq_true, if_false]
      rw [ne_lst (n := 3) (by decide) hq hm8 (plL_st _) (plL_st _), decide_eq_true rfl]
      simp only [w_asB, Bool.not_true, Bool.false_eq_true, if_false, v_asg, v_if, v_ret, v_drop, v_for, v_skip, w_bnd, w_pur, x_get, w_tgN, w_subG, w_asB, w_asI, w_if, w_truB, List.getElem?_cons_zero, List.getElem?_cons_succ, List.set_cons_zero, List.set_cons_succ, start_eq hp, ok_iff]
      obtain ⟨rst, er⟩ := lawS_pre (p := p) (most := most) most [start0 p] 0
      have er : [start0 p] ++ rst = foundL p most := er
      have h0 : atI ((foundL p most).map stD) 0 = some (stD (start0 p)) := by rw [← er, List.singleton_append, List.map_cons]; exact DL.atI0
      rw [w_ixR hm8 h0, w_ne (n := 3) (by decide) (pl_stD _) (pl_stD _), decide_eq_true rfl]
      simp only [w_asB, Bool.not_true, Bool.false_eq_true, if_false, v_asg, v_if, v_ret, v_drop, v_for, v_skip, w_bnd, w_pur, x_get, w_tgN, w_subG, w_asB, w_asI, w_if, w_truB, List.getElem?_cons_zero, List.getElem?_cons_succ, List.set_cons_zero, List.set_cons_succ]
      rw [v_seq]
      simp only [v_asg, v_if, v_ret, v_drop, v_for, v_skip, w_bnd, w_pur, x_get, w_tgN, w_subG, w_asB, w_asI, w_if, w_truB, List.getElem?_cons_zero, List.getElem?_cons_succ, List.set_cons_zero, List.set_cons_succ, x_tyL hq]
      rw [w_ixR hm8 h0, x_app hq (by rw [List.length_map]; omega)]
      have hm9 := gset_ne (c := .lst ((foundL p most).map stD ++ [stD (start0 p)])) hm8 qm
      rw [v_seq]
      simp only [v_asg, v_if, v_ret, v_drop, v_for, v_skip, w_bnd, w_pur, x_get, w_tgN, w_subG, w_asB, w_asI, w_if, w_truB, List.getElem?_cons_zero, List.getElem?_cons_succ, List.set_cons_zero, List.set_cons_succ]
      refine reached_wp hp l0 (by omega) (fun e _ _ => ?_) fun ws g9 q2 e p9 hq2 _ => ?_
      · rw [rf, if_pos c] at e
        cases e
      · rw [rf, if_pos c] at e
        cases e
        rw [eq_lst2 (n := 3) (by decide) hq2 (pre_get p9 hm9) (plL_st _) (plL_st _), decide_eq_true rfl]
        exact ⟨rfl, rfl⟩
    · rw [if_neg c] at e
      cases e
end
end K06
namespace K06
open PySem PySem.Spec PyProof.Rows L2 DL
def d_press_of : He.DefD := ⟨(("press_of" : Str), none), ("press_of" : Str), ("press_of" : Str), defArgs s_press_of, defBody s_press_of, defScope s_press_of, [], []⟩
def d_acts : He.DefD := ⟨(("acts" : Str), none), ("acts" : Str), ("acts" : Str), defArgs s_acts, defBody s_acts, defScope s_acts, [], []⟩
def d_word_of : He.DefD := ⟨(("word_of" : Str), none), ("word_of" : Str), ("word_of" : Str), defArgs s_word_of, defBody s_word_of, defScope s_word_of, [], []⟩
def d_put : He.DefD := ⟨(("put" : Str), none), ("put" : Str), ("put" : Str), defArgs s_put, defBody s_put, defScope s_put, [], []⟩
def d__added : He.DefD := ⟨(("_added" : Str), none), ("_added" : Str), ("_added" : Str), defArgs s__added, defBody s__added, defScope s__added, [], []⟩
def d__changed : He.DefD := ⟨(("_changed" : Str), none), ("_changed" : Str), ("_changed" : Str), defArgs s__changed, defBody s__changed, defScope s__changed, [], []⟩
def d__changes_of : He.DefD := ⟨(("_changes_of" : Str), none), ("_changes_of" : Str), ("_changes_of" : Str), defArgs s__changes_of, defBody s__changes_of, defScope s__changes_of, [], []⟩
def d__next_focus : He.DefD := ⟨(("_next_focus" : Str), none), ("_next_focus" : Str), ("_next_focus" : Str), defArgs s__next_focus, defBody s__next_focus, defScope s__next_focus, [], []⟩
def d__moved : He.DefD := ⟨(("_moved" : Str), none), ("_moved" : Str), ("_moved" : Str), defArgs s__moved, defBody s__moved, defScope s__moved, [], []⟩
def d_step : He.DefD := ⟨(("step" : Str), none), ("step" : Str), ("step" : Str), defArgs s_step, defBody s_step, defScope s_step, [], []⟩
def d__states_behind : He.DefD := ⟨(("_states_behind" : Str), none), ("_states_behind" : Str), ("_states_behind" : Str), defArgs s__states_behind, defBody s__states_behind, defScope s__states_behind, [], []⟩
def d_start : He.DefD := ⟨(("start" : Str), none), ("start" : Str), ("start" : Str), defArgs s_start, defBody s_start, defScope s_start, [], []⟩
def d_reached : He.DefD := ⟨(("reached" : Str), none), ("reached" : Str), ("reached" : Str), defArgs s_reached, defBody s_reached, defScope s_reached, [], []⟩
def d__law_next : He.DefD := ⟨(("_law_next" : Str), none), ("_law_next" : Str), ("_law_next" : Str), defArgs s__law_next, defBody s__law_next, defScope s__law_next, [], []⟩
def d__law_acts : He.DefD := ⟨(("_law_acts" : Str), none), ("_law_acts" : Str), ("_law_acts" : Str), defArgs s__law_acts, defBody s__law_acts, defScope s__law_acts, [], []⟩
def d__law_word : He.DefD := ⟨(("_law_word" : Str), none), ("_law_word" : Str), ("_law_word" : Str), defArgs s__law_word, defBody s__law_word, defScope s__law_word, [], []⟩
def d__law_put : He.DefD := ⟨(("_law_put" : Str), none), ("_law_put" : Str), ("_law_put" : Str), defArgs s__law_put, defBody s__law_put, defScope s__law_put, [], []⟩
def d__law_added : He.DefD := ⟨(("_law_added" : Str), none), ("_law_added" : Str), ("_law_added" : Str), defArgs s__law_added, defBody s__law_added, defScope s__law_added, [], []⟩
def d__law_turn : He.DefD := ⟨(("_law_turn" : Str), none), ("_law_turn" : Str), ("_law_turn" : Str), defArgs s__law_turn, defBody s__law_turn, defScope s__law_turn, [], []⟩
def d__law_after : He.DefD := ⟨(("_law_after" : Str), none), ("_law_after" : Str), ("_law_after" : Str), defArgs s__law_after, defBody s__law_after, defScope s__law_after, [], []⟩
def d__law_found : He.DefD := ⟨(("_law_found" : Str), none), ("_law_found" : Str), ("_law_found" : Str), defArgs s__law_found, defBody s__law_found, defScope s__law_found, [], []⟩
def d__is_number : He.DefD := ⟨(("_is_number" : Str), none), ("_is_number" : Str), ("_is_number" : Str), defArgs s__is_number, defBody s__is_number, defScope s__is_number, [], []⟩
def d_are_indexes : He.DefD := ⟨(("are_indexes" : Str), none), ("are_indexes" : Str), ("are_indexes" : Str), defArgs s_are_indexes, defBody s_are_indexes, defScope s_are_indexes, [], []⟩
def d__is_change : He.DefD := ⟨(("_is_change" : Str), none), ("_is_change" : Str), ("_is_change" : Str), defArgs s__is_change, defBody s__is_change, defScope s__is_change, [], []⟩
def d_are_changes : He.DefD := ⟨(("are_changes" : Str), none), ("are_changes" : Str), ("are_changes" : Str), defArgs s_are_changes, defBody s_are_changes, defScope s_are_changes, [], []⟩
def d__are_ticks : He.DefD := ⟨(("_are_ticks" : Str), none), ("_are_ticks" : Str), ("_are_ticks" : Str), defArgs s__are_ticks, defBody s__are_ticks, defScope s__are_ticks, [], []⟩
def d_is_shown : He.DefD := ⟨(("is_shown" : Str), none), ("is_shown" : Str), ("is_shown" : Str), defArgs s_is_shown, defBody s_is_shown, defScope s_is_shown, [], []⟩
def d__is_part : He.DefD := ⟨(("_is_part" : Str), none), ("_is_part" : Str), ("_is_part" : Str), defArgs s__is_part, defBody s__is_part, defScope s__is_part, [], []⟩
def d__are_parts : He.DefD := ⟨(("_are_parts" : Str), none), ("_are_parts" : Str), ("_are_parts" : Str), defArgs s__are_parts, defBody s__are_parts, defScope s__are_parts, [], []⟩
def d_are_sizes : He.DefD := ⟨(("are_sizes" : Str), none), ("are_sizes" : Str), ("are_sizes" : Str), defArgs s_are_sizes, defBody s_are_sizes, defScope s_are_sizes, [], []⟩
def d_init : He.DefD := ⟨(("Program" : Str), some "__init__"), "__init__", ("Program.__init__" : Str), defArgs s_init, defBody s_init, defScope s_init, [], []⟩
def d__law_made : He.DefD := ⟨(("_law_made" : Str), none), ("_law_made" : Str), ("_law_made" : Str), defArgs s__law_made, defBody s__law_made, defScope s__law_made, [], []⟩
def d__law_changes : He.DefD := ⟨(("_law_changes" : Str), none), ("_law_changes" : Str), ("_law_changes" : Str), defArgs s__law_changes, defBody s__law_changes, defScope s__law_changes, [], []⟩
def d__law_pair : He.DefD := ⟨(("_law_pair" : Str), none), ("_law_pair" : Str), ("_law_pair" : Str), defArgs s__law_pair, defBody s__law_pair, defScope s__law_pair, [], []⟩
def d__law_data : He.DefD := ⟨(("_law_data" : Str), none), ("_law_data" : Str), ("_law_data" : Str), defArgs s__law_data, defBody s__law_data, defScope s__law_data, [], []⟩
def d_law : He.DefD := ⟨(("law" : Str), none), ("law" : Str), ("law" : Str), defArgs s_law, defBody s_law, defScope s_law, [], []⟩
def fns : List He.DefD := [d_press_of, d_acts, d_word_of, d_put, d__added, d__changed, d__changes_of, d__next_focus, d__moved, d_step, d__states_behind, d_start, d_reached, d__law_next, d__law_acts, d__law_word, d__law_put, d__law_added, d__law_turn, d__law_after, d__law_found, d__is_number, d_are_indexes, d__is_change, d_are_changes, d__are_ticks, d_is_shown, d__is_part, d__are_parts, d_are_sizes, d_init, d__law_made, d__law_changes, d__law_pair, d__law_data, d_law]
def fas0 : List He.Fa := [.glo ("press_of" : Str), .glo ("acts" : Str), .glo ("word_of" : Str), .glo ("put" : Str), .glo ("_added" : Str), .glo ("_changed" : Str), .glo ("_changes_of" : Str), .glo ("_next_focus" : Str), .glo ("_moved" : Str), .glo ("step" : Str), .glo ("_states_behind" : Str), .glo ("start" : Str), .glo ("reached" : Str), .glo ("_law_next" : Str), .glo ("_law_acts" : Str), .glo ("_law_word" : Str), .glo ("_law_put" : Str), .glo ("_law_added" : Str), .glo ("_law_turn" : Str), .glo ("_law_after" : Str)]
def fas1 : List He.Fa := [.glo ("_law_found" : Str), .glo ("_is_number" : Str), .glo ("are_indexes" : Str), .glo ("_is_change" : Str), .glo ("are_changes" : Str), .glo ("_are_ticks" : Str), .glo ("is_shown" : Str), .glo ("_is_part" : Str), .glo ("_are_parts" : Str), .glo ("are_sizes" : Str), .glo ("_law_made" : Str), .glo ("_law_changes" : Str), .glo ("_law_pair" : Str), .glo ("_law_data" : Str), .glo ("law" : Str), .free ("all" : Str), .free ("bool" : Str), .free ("int" : Str), .free ("isinstance" : Str), .free ("len" : Str)]
def fas2 : List He.Fa := [.free ("list" : Str), .free ("max" : Str), .free ("range" : Str), .free ("set" : Str), .free ("tuple" : Str), .int ("MOST_PARTS" : Str) 4, .int ("MOST_TICKS" : Str) 2, .glo ("Program" : Str), .cls ("Program" : Str), .mkr ("Program" : Str), .noat ("Program" : Str) ("live" : Str), .noat ("Program" : Str) ("parts" : Str), .noat ("Program" : Str) ("sizes" : Str), .noat ("Program" : Str) ("skips" : Str), .noat ("Program" : Str) ("ticks" : Str)]
def fas : List He.Fa := fas0 ++ fas1 ++ fas2
def tds : List He.Tab := []
def tfs : List He.Defn := [(("put" : Str), none), (("are_changes" : Str), none), (("_are_ticks" : Str), none), (("is_shown" : Str), none), (("_are_parts" : Str), none), (("are_sizes" : Str), none)]
def exB (K : PySem.W.Frag) : Bool := true
abbrev R : PySem.W.OpenRow := PySem.W.OpenLaw.row PySem.Challenge.rw_twoknowers_k06_states_that_are_reached
def cells : List Nat := [3, 6, 4, 31, 44, 53, 60, 67, 72, 77, 84, 91, 98, 105, 112, 119, 126, 131, 152, 163, 170, 177, 184, 191, 198, 205, 212, 219, 226, 231, 236, 241, 248, 255, 262, 269, 274, 281, 286, 291, 298, 0, 30, 43, 52, 59, 66, 71, 76, 83, 90, 97, 104, 111, 118, 125, 130, 151, 162, 169, 176, 183, 190, 197, 204, 211, 218, 225, 230, 235, 240, 247, 254, 261, 268, 273, 280, 285, 290, 297, 28, 29, 32, 42, 47, 48, 49, 50, 51, 54, 55, 56, 57, 58, 61, 62, 63, 64, 65, 68, 69, 70, 73, 74, 75, 78, 79, 80, 81, 82, 85, 86, 87, 88, 89, 92, 93, 94, 95, 96, 99, 100, 101, 102, 103, 106, 107, 108, 109, 110, 113, 114, 115, 116, 117, 120, 121, 122, 123, 124, 127, 128, 129, 149, 150, 153, 154, 157, 158, 159, 160, 161, 164, 165, 166, 167, 168, 171, 172, 173, 174, 175, 178, 179, 180, 181, 182, 185, 186, 187, 188, 189, 192, 193, 194, 195, 196, 199, 200, 201, 202, 203, 206, 207, 208, 209, 210, 213, 214, 215, 216, 217, 220, 221, 222, 223, 224, 227, 228, 229, 232, 233, 234, 237, 238, 239, 242, 243, 244, 245, 246, 249, 250, 251, 252, 253, 256, 257, 258, 259, 260, 263, 264, 265, 266, 267, 270, 271, 272, 275, 276, 277, 278, 279, 282, 283, 284, 287, 288, 289, 292, 293, 294, 295, 296, 27, 148, 142]
abbrev hk : PySem.W.Hook := DL.hookA cells fas fns tds tfs exB
def ob (s : PySem.W.SharedT) : He.AlX := DL.obsA cells fas fns tds tfs exB (HandSHeadRun.getT s)
theorem ob_eq (s : PySem.W.SharedT) : ob s = hk.obs s.abs := DL.obsA_eq cells fas fns tds tfs exB (HandSHeadRun.getT_eq s)
def nms0 : List Str := [("KnowError" : Str), ("BadProgram" : Str), ("start" : Str), ("word_of" : Str), ("press_of" : Str), ("put" : Str), ("acts" : Str), ("step" : Str), ("_changes_of" : Str), ("_moved" : Str), ("_next_focus" : Str), ("_changed" : Str), ("_added" : Str), ("reached" : Str), ("_states_behind" : Str), ("MOST_PARTS" : Str), ("MOST_TICKS" : Str), ("Program" : Str), ("_is_number" : Str), ("are_sizes" : Str)]
def nms1 : List Str := [("_are_parts" : Str), ("_is_part" : Str), ("is_shown" : Str), ("are_changes" : Str), ("_is_change" : Str), ("_are_ticks" : Str), ("are_indexes" : Str), ("_law_next" : Str), ("_law_changes" : Str), ("_law_pair" : Str), ("_law_data" : Str), ("_law_made" : Str), ("_law_word" : Str), ("_law_put" : Str), ("_law_added" : Str), ("_law_turn" : Str), ("_law_after" : Str), ("_law_acts" : Str), ("_law_found" : Str)]
abbrev nms : List Str := nms0 ++ nms1
noncomputable abbrev rEnd (w : World) (os : OsState) := HandSHeadRun.endF (HandSHeadRun.stepQ (HandSHeadRun.denQ HandSHeadRun.tabQ) R.prog w) 6000 R.prog w os
theorem runG (w : World) : ∀ os : OsState, Option.map (fun s => (HandSHeadRun.looksF R.prog (PySem.W.boot_heap w.params) s.abs, HandSHeadRun.seenQ (PySem.W.view R.prog [43]) nms (importedModules R.prog.main.body) (fun s => PySem.W.xlAt (PySem.W.view R.prog [43]) [] s && PySem.W.recOk R.records s) s.abs)) (rEnd w os) = some (true, PySem.W.openGood (PySem.W.view R.prog [43]) nms) := by
  intro os
  kernel_rfl
theorem runO (w : World) : ∀ os : OsState, Option.map (fun s => ob s) (rEnd w os) = some (hk.val w) := by
  intro os
  kernel_rfl
theorem map3 {α β γ δ : Type} {f : α → β} {g : α → γ} {h : α → δ} {x : Option α} {b : β} {c : γ} {d : δ} (h1 : Option.map (fun s => (f s, g s)) x = some (b, c)) (h2 : Option.map (fun s => h s) x = some d) : Option.map (fun s => (f s, g s, h s)) x = some (b, c, d) := by
  cases x with
  | none => cases h1
  | some s =>
    simp only [Option.map_some, Option.some.injEq, Prod.mk.injEq] at h1 h2 ⊢
    exact ⟨h1.1, h1.2, h2⟩
theorem run (w : World) : HandSHeadRun.RunEq R (PySem.W.view R.prog [43]) hk ob 6000 nms w := fun os => map3 (runG w os) (runO w os)
theorem facts {P : Program} {w : World} {K : PySem.W.Frag} {h base : Heap} {mg : Str → Option Value} (X : K.In h) (G : h.Ns mainGlobals mg) (c : He.SaysX fas fns tds tfs exB w h K) (tb : ∀ p ∈ tfs, GxR.TabB base mg (He.cT K p).1 (He.cT K p).2) : Fx P w K mg base where
  c_MOST_PARTS := He.int_ok X G (c.t.d.fact 45 (f := .int ("MOST_PARTS" : Str) 4) rfl)
  c_MOST_TICKS := He.int_ok X G (c.t.d.fact 46 (f := .int ("MOST_TICKS" : Str) 2) rfl)
  g_all := He.free_ok X G (c.t.d.fact 35 (f := .free ("all" : Str)) rfl)
  g_bool := He.free_ok X G (c.t.d.fact 36 (f := .free ("bool" : Str)) rfl)
  g_int := He.free_ok X G (c.t.d.fact 37 (f := .free ("int" : Str)) rfl)
  g_isinstance := He.free_ok X G (c.t.d.fact 38 (f := .free ("isinstance" : Str)) rfl)
  g_len := He.free_ok X G (c.t.d.fact 39 (f := .free ("len" : Str)) rfl)
  g_list := He.free_ok X G (c.t.d.fact 40 (f := .free ("list" : Str)) rfl)
  g_max := He.free_ok X G (c.t.d.fact 41 (f := .free ("max" : Str)) rfl)
  g_range := He.free_ok X G (c.t.d.fact 42 (f := .free ("range" : Str)) rfl)
  g_set := He.free_ok X G (c.t.d.fact 43 (f := .free ("set" : Str)) rfl)
  g_tuple := He.free_ok X G (c.t.d.fact 44 (f := .free ("tuple" : Str)) rfl)
  cls := He.cls_ok (c.t.d.fact 48 (f := .cls ("Program" : Str)) rfl)
  g_Program := He.glo_ok X G (c.t.d.fact 47 (f := .glo ("Program" : Str)) rfl)
  mkC := He.mkr_ok (c.t.d.fact 49 (f := .mkr ("Program" : Str)) rfl)
  no_live := He.noat_ok (c.t.d.fact 50 (f := .noat ("Program" : Str) ("live" : Str)) rfl)
  no_parts := He.noat_ok (c.t.d.fact 51 (f := .noat ("Program" : Str) ("parts" : Str)) rfl)
  no_sizes := He.noat_ok (c.t.d.fact 52 (f := .noat ("Program" : Str) ("sizes" : Str)) rfl)
  no_skips := He.noat_ok (c.t.d.fact 53 (f := .noat ("Program" : Str) ("skips" : Str)) rfl)
  no_ticks := He.noat_ok (c.t.d.fact 54 (f := .noat ("Program" : Str) ("ticks" : Str)) rfl)
  no_all := by
    intro f hf
    simp only [List.mem_cons, List.not_mem_nil, or_false] at hf
    rcases hf with rfl | rfl | rfl | rfl | rfl
    · exact He.noat_ok (c.t.d.fact 52 (f := .noat ("Program" : Str) ("sizes" : Str)) rfl)
    · exact He.noat_ok (c.t.d.fact 51 (f := .noat ("Program" : Str) ("parts" : Str)) rfl)
    · exact He.noat_ok (c.t.d.fact 54 (f := .noat ("Program" : Str) ("ticks" : Str)) rfl)
    · exact He.noat_ok (c.t.d.fact 50 (f := .noat ("Program" : Str) ("live" : Str)) rfl)
    · exact He.noat_ok (c.t.d.fact 53 (f := .noat ("Program" : Str) ("skips" : Str)) rfl)
  g_press_of := He.glo_ok X G (c.t.d.fact 0 (f := .glo ("press_of" : Str)) rfl)
  f_press_of := c.t.d.def_ 0 (d := d_press_of) rfl
  g_acts := He.glo_ok X G (c.t.d.fact 1 (f := .glo ("acts" : Str)) rfl)
  f_acts := c.t.d.def_ 1 (d := d_acts) rfl
  g_word_of := He.glo_ok X G (c.t.d.fact 2 (f := .glo ("word_of" : Str)) rfl)
  f_word_of := c.t.d.def_ 2 (d := d_word_of) rfl
  g_put := He.glo_ok X G (c.t.d.fact 3 (f := .glo ("put" : Str)) rfl)
  f_put := c.t.d.def_ 3 (d := d_put) rfl
  g__added := He.glo_ok X G (c.t.d.fact 4 (f := .glo ("_added" : Str)) rfl)
  f__added := c.t.d.def_ 4 (d := d__added) rfl
  g__changed := He.glo_ok X G (c.t.d.fact 5 (f := .glo ("_changed" : Str)) rfl)
  f__changed := c.t.d.def_ 5 (d := d__changed) rfl
  g__changes_of := He.glo_ok X G (c.t.d.fact 6 (f := .glo ("_changes_of" : Str)) rfl)
  f__changes_of := c.t.d.def_ 6 (d := d__changes_of) rfl
  g__next_focus := He.glo_ok X G (c.t.d.fact 7 (f := .glo ("_next_focus" : Str)) rfl)
  f__next_focus := c.t.d.def_ 7 (d := d__next_focus) rfl
  g__moved := He.glo_ok X G (c.t.d.fact 8 (f := .glo ("_moved" : Str)) rfl)
  f__moved := c.t.d.def_ 8 (d := d__moved) rfl
  g_step := He.glo_ok X G (c.t.d.fact 9 (f := .glo ("step" : Str)) rfl)
  f_step := c.t.d.def_ 9 (d := d_step) rfl
  g__states_behind := He.glo_ok X G (c.t.d.fact 10 (f := .glo ("_states_behind" : Str)) rfl)
  f__states_behind := c.t.d.def_ 10 (d := d__states_behind) rfl
  g_start := He.glo_ok X G (c.t.d.fact 11 (f := .glo ("start" : Str)) rfl)
  f_start := c.t.d.def_ 11 (d := d_start) rfl
  g_reached := He.glo_ok X G (c.t.d.fact 12 (f := .glo ("reached" : Str)) rfl)
  f_reached := c.t.d.def_ 12 (d := d_reached) rfl
  g__law_next := He.glo_ok X G (c.t.d.fact 13 (f := .glo ("_law_next" : Str)) rfl)
  f__law_next := c.t.d.def_ 13 (d := d__law_next) rfl
  g__law_acts := He.glo_ok X G (c.t.d.fact 14 (f := .glo ("_law_acts" : Str)) rfl)
  f__law_acts := c.t.d.def_ 14 (d := d__law_acts) rfl
  g__law_word := He.glo_ok X G (c.t.d.fact 15 (f := .glo ("_law_word" : Str)) rfl)
  f__law_word := c.t.d.def_ 15 (d := d__law_word) rfl
  g__law_put := He.glo_ok X G (c.t.d.fact 16 (f := .glo ("_law_put" : Str)) rfl)
  f__law_put := c.t.d.def_ 16 (d := d__law_put) rfl
  g__law_added := He.glo_ok X G (c.t.d.fact 17 (f := .glo ("_law_added" : Str)) rfl)
  f__law_added := c.t.d.def_ 17 (d := d__law_added) rfl
  g__law_turn := He.glo_ok X G (c.t.d.fact 18 (f := .glo ("_law_turn" : Str)) rfl)
  f__law_turn := c.t.d.def_ 18 (d := d__law_turn) rfl
  g__law_after := He.glo_ok X G (c.t.d.fact 19 (f := .glo ("_law_after" : Str)) rfl)
  f__law_after := c.t.d.def_ 19 (d := d__law_after) rfl
  g__law_found := He.glo_ok X G (c.t.d.fact 20 (f := .glo ("_law_found" : Str)) rfl)
  f__law_found := c.t.d.def_ 20 (d := d__law_found) rfl
  g__is_number := He.glo_ok X G (c.t.d.fact 21 (f := .glo ("_is_number" : Str)) rfl)
  f__is_number := c.t.d.def_ 21 (d := d__is_number) rfl
  g_are_indexes := He.glo_ok X G (c.t.d.fact 22 (f := .glo ("are_indexes" : Str)) rfl)
  f_are_indexes := c.t.d.def_ 22 (d := d_are_indexes) rfl
  g__is_change := He.glo_ok X G (c.t.d.fact 23 (f := .glo ("_is_change" : Str)) rfl)
  f__is_change := c.t.d.def_ 23 (d := d__is_change) rfl
  g_are_changes := He.glo_ok X G (c.t.d.fact 24 (f := .glo ("are_changes" : Str)) rfl)
  f_are_changes := c.t.d.def_ 24 (d := d_are_changes) rfl
  g__are_ticks := He.glo_ok X G (c.t.d.fact 25 (f := .glo ("_are_ticks" : Str)) rfl)
  f__are_ticks := c.t.d.def_ 25 (d := d__are_ticks) rfl
  g_is_shown := He.glo_ok X G (c.t.d.fact 26 (f := .glo ("is_shown" : Str)) rfl)
  f_is_shown := c.t.d.def_ 26 (d := d_is_shown) rfl
  g__is_part := He.glo_ok X G (c.t.d.fact 27 (f := .glo ("_is_part" : Str)) rfl)
  f__is_part := c.t.d.def_ 27 (d := d__is_part) rfl
  g__are_parts := He.glo_ok X G (c.t.d.fact 28 (f := .glo ("_are_parts" : Str)) rfl)
  f__are_parts := c.t.d.def_ 28 (d := d__are_parts) rfl
  g_are_sizes := He.glo_ok X G (c.t.d.fact 29 (f := .glo ("are_sizes" : Str)) rfl)
  f_are_sizes := c.t.d.def_ 29 (d := d_are_sizes) rfl
  f_init := c.t.d.def_ 30 (d := d_init) rfl
  g__law_made := He.glo_ok X G (c.t.d.fact 30 (f := .glo ("_law_made" : Str)) rfl)
  f__law_made := c.t.d.def_ 31 (d := d__law_made) rfl
  g__law_changes := He.glo_ok X G (c.t.d.fact 31 (f := .glo ("_law_changes" : Str)) rfl)
  f__law_changes := c.t.d.def_ 32 (d := d__law_changes) rfl
  g__law_pair := He.glo_ok X G (c.t.d.fact 32 (f := .glo ("_law_pair" : Str)) rfl)
  f__law_pair := c.t.d.def_ 33 (d := d__law_pair) rfl
  g__law_data := He.glo_ok X G (c.t.d.fact 33 (f := .glo ("_law_data" : Str)) rfl)
  f__law_data := c.t.d.def_ 34 (d := d__law_data) rfl
  g_law := He.glo_ok X G (c.t.d.fact 34 (f := .glo ("law" : Str)) rfl)
  f_law := c.t.d.def_ 35 (d := d_law) rfl
  tb_put := tb _ (by unfold tfs; simp)
  ts_put := by unfold tabs; simp
  tb_are_changes := tb _ (by unfold tfs; simp)
  ts_are_changes := by unfold tabs; simp
  tb__are_ticks := tb _ (by unfold tfs; simp)
  ts__are_ticks := by unfold tabs; simp
  tb_is_shown := tb _ (by unfold tfs; simp)
  ts_is_shown := by unfold tabs; simp
  tb__are_parts := tb _ (by unfold tfs; simp)
  ts__are_parts := by unfold tabs; simp
  tb_are_sizes := tb _ (by unfold tfs; simp)
  ts_are_sizes := by unfold tabs; simp
end K06
namespace K06
open PySem PySem.Spec PyProof.Rows L2 DL
theorem end1 (cP : Addr) (ns : List Int) (hl : ns.length ≤ 63) (hb : ∀ z ∈ ns, Builtin.Int.intBits z ≤ 1048576) : ∃ g, F_law cP [.scr ns] [] = .ok (.bl true) g := by
  obtain ⟨d, g, e, rfl⟩ := (law_core (cP := cP) (scr := .scr ns) (G0 := []) (ns := ns) fun _ => Iff.rfl).out
  exact ⟨g, e⟩
theorem end2 (cP : Addr) (ns : List Int) (hl : ns.length ≤ 63) (hb : ∀ z ∈ ns, Builtin.Int.intBits z ≤ 1048576) : ∃ g, F_law cP [.ref 0] [.lst (ns.map D.int)] = .ok (.bl true) g := by
  obtain ⟨d, g, e, rfl⟩ := (law_core (cP := cP) (scr := .ref 0) (G0 := [.lst (ns.map D.int)]) (ns := ns) fun _ => w_listR rfl).out
  exact ⟨g, e⟩
end K06
namespace K06
open PySem PySem.Spec PyProof.Rows L2 DL
theorem tabs_mem {K : PySem.W.Frag} {P : Addr} (h : P ∈ tabs K) : ∃ p ∈ tfs, P = (He.cT K p).2 := by
  unfold tabs at h
  unfold tfs
  simpa using h
end K06
open PySem PySem.W PySem.Calls PyProof.Rows
theorem PySem.Challenge.cw_twoknowers_k06_states_that_are_reached_holds : PySem.Challenge.rw_twoknowers_k06_states_that_are_reached.Holds := by
  w_on; o_law
  refine HandSHeadRun.head_any (r := OpenLaw.row PySem.Challenge.rw_twoknowers_k06_states_that_are_reached) (q := view (OpenLaw.row PySem.Challenge.rw_twoknowers_k06_states_that_are_reached).prog [43]) (H := K06.hk) (ob := K06.ob) (M := 6000) (loose := K06.nms) (d := HandSHeadRun.topDef (OpenLaw.row PySem.Challenge.rw_twoknowers_k06_states_that_are_reached).prog 43) (kwd := []) K06.ob_eq
    (by kernel_rfl) (fun s => by kernel_rfl) K06.run (by kernel_rfl) (by kernel_rfl) (by kernel_rfl) (by rfl) (by first | assumption | decide +kernel) (by decide +kernel) ⟨rfl, rfl, rfl, rfl, rfl, by decide +kernel⟩ ?hw ?hc
  case hw => w_witness2
  case hc =>
    refine LamX.walk_ofTsE (l := PySem.Challenge.rw_twoknowers_k06_states_that_are_reached) (n := 63) (k := 15) (x := "script") (CX := fun w => L2.CX (PySem.Challenge.rw_twoknowers_k06_states_that_are_reached).prog w) rfl (by decide) (by kernel_rfl) ⟨rfl, by decide, by decide⟩ ?F (fun w H s e s' z => by
      obtain ⟨_, _, _, _, _, _, _, _, _, _, _, _, z⟩ := z
      exact z)
    intro w mg fa h Y G hmg0
    obtain ⟨K, KX, c⟩ := Y
    have hmg : mg ("law" : PySem.Str) = some (.ref fa) := by
      have e : (HandSHeadRun.topDef (OpenLaw.row PySem.Challenge.rw_twoknowers_k06_states_that_are_reached).prog 43).name = ("law" : PySem.Str) := by kernel_rfl
      rw [← e]
      exact hmg0
    have efa : He.fAd K (("law" : PySem.Str), none) = fa := by
      have z := He.glo_ok KX G (c.t.d.fact 34 (f := .glo ("law" : PySem.Str)) rfl)
      rw [hmg] at z
      exact (PySem.Value.ref.inj (Option.some.inj z)).symm
    subst efa
    obtain ⟨fd, hF⟩ := c.t.d.def_ 35 (d := K06.d_law) rfl
    refine ⟨K, KX, fd, K06.tfs.map (He.cT K), DL.spD ⟨K, K06.tabs K, DL.fw w⟩ (K06.F_law (He.ga K ("Program" : PySem.Str))), fun p hp => ?_, fun p hp => ?_, fun p hp => ?_, fun s u => L2.FunD.bindsA (ps := ["script"]) hF (fun _ _ _ _ _ _ us hl => match us, hl with | [_], _ => rfl) s [u] rfl, fun H a ns hl hb hT hS => ?_, fun base hK hN hTB => ?_⟩
    · obtain ⟨q, hq, rfl⟩ := List.mem_map.mp hp
      exact c.empty q hq
    · obtain ⟨q, hq, rfl⟩ := List.mem_map.mp hp
      exact c.out q hq
    · obtain ⟨q, hq, rfl⟩ := List.mem_map.mp hp
      exact PySem.W.codeHd_of_K KX (c.hd q hq)
    · refine DL.law_in (fun P hP => ?_) hS (K06.end1 (He.ga K ("Program" : PySem.Str)) ns hl hb) (K06.end2 (He.ga K ("Program" : PySem.Str)) ns hl hb)
      obtain ⟨q, hq, rfl⟩ := K06.tabs_mem hP
      exact ⟨#[], hT _ (List.mem_map_of_mem hq), True.intro⟩
    · exact K06.ok_law (K06.facts KX G c fun p hp => let z := hTB _ (List.mem_map_of_mem hp); ⟨z.code, z.bm, z.gP⟩) hF
