import PyProof.Rows.All
import Wide.All
import OpenK.AllK
import Wide.FinOn
import HandS.ForMost
import HandS.ForExc
import HandS.AnyAll
import PyProof.GenCompD
import PyProof.ConsumeS
import HandS.GenOver
import HandS.GenList
import HandS.TupSets
import HandS.SetKeys
import KE.KDictKeyed
import KE.KeyNested
import KE.SortCalls
import KE.KDictCopyH
import HandS.Small
import HandS.TupAny
import HandS.Deep
import HandS.IsInst
import HandS.MakeKwOnly
import HandS.Wide
import HandS.Star
import HandS.Zip
import HandS.Defaults
import HandS.HeadHook4
import HandS.HeadWalk
import HandS.TupMul
import HandS.Text
import HandS.ExcInit
import HandS.ExcOwn
import KE.KExcIs
import HandS.Flow
import HandS.More
import HandS.Style
import HandS.Iter
import KE.KDictWalk
import HandS.DictComp
import HandS.SortInts
import HandS.CallLocal
import HandS.Call
import PyProof.DictMoreH
import HandS.ExcValue
import KE.GoesZip
import KE.GoesMore
import KE.KEqDict
import KE.DataEq
import HandS.Codes
import Wide.Once
import KE.KStateDown
import Lean
import HandS.Head0
import HandS.Head1
import HandS.Head2
import HandS.HeadEnd
import HandS.HeadHook1
import HandS.HeadHook2
import PySem.Challenge.RW_twoknowers_k14_whole_texts_come_back
set_option Elab.async false
set_option linter.all false
set_option maxRecDepth 100000
set_option maxHeartbeats 0
namespace GA
open PySem PySem.Spec PyProof.Rows L2 GxR
/-- the context of a generator expression's frame -/
abbrev gcx (X : Cx) (s : Shared) (H : Hp) (ge : Env) (fp : List Addr) (pn : List (Addr × Obj)) : Cx :=
  { X with s_0 := s, H_0 := H, env := ge, outer := X.stack, stack := ge :: X.stack, A := (X.A.in1.in1).deeper ge, ex := fp, fn := fun _ => false, pn := pn, xe := fun _ _ => False }
section
variable {X : Cx} {pins : List (Addr × Obj)} {σ : L2.St} {H : Hp} {s : Shared}
/-- the frame stands: s the state ahead of it, h4 the heap behind -/
theorem gen_start {scope : Scope} {own : List (Str × Nat)} {fp : List Addr} {code : Value} {h4 : Heap} {g4 : Array GenState} {d4 : Drawn} {t4 : Nat} {m : Str → Option Value} {a : Addr} {go : Obj}
    (I : Inv X pins σ H s) (ok : BlkOk X.N X.env.scope scope own) (hcell : ∀ y ∈ scope.names, y.2 ≠ .cell) (hN : X.N.Nodup) (hfp : ∀ b ∈ fp, FpOk X pins H b ∧ b < s.heap.objs.size)
    (kp : ∀ b o, s.heap.get? b = some o → h4.get? b = some o) (hn : h4.Ns s.heap.objs.size m) (hg : AllBare g4)
    (ha : s.heap.objs.size < a) (hao : h4.get? a = some go) (had : ∀ v, go.data ≠ .cell v) :
    Inv (gcx X s H (genEnv scope (cloFrom X.env.cells scope.names []) s.heap.objs.size code builtinsNs X.env) fp [(a, go)]) [] (wipe σ (own.map (·.2))) H { s with heap := h4, gens := g4, drawn := d4, toks := t4 } := by
  have hfree : ∀ y ∈ scope.names, y.2 = .free → ∃ c, X.env.cells.lookup y.1 = some c := fun y hy e => by
    rcases ok.free y hy e with k | k
    · exact I.ok.has _ (.inl k)
    · exact I.ok.has _ (.inr k)
  generalize hge : genEnv scope (cloFrom X.env.cells scope.names []) s.heap.objs.size code builtinsNs X.env = ge
  have hL : ge.locals = s.heap.objs.size := by rw [← hge]; rfl
  have hcl : ge.cells = cloFrom X.env.cells scope.names [] := by rw [← hge]; rfl
  have hsc : ge.scope = scope := by rw [← hge]; rfl
  have hfrm : ge.frame = some ge.locals := by rw [← hge]; rfl
  have cm : ∀ {y c}, (y, c) ∈ cloFrom X.env.cells scope.names [] → X.env.cells.lookup y = some c ∧ c < s.heap.objs.size := fun {y c} hm => by
    rcases cloFrom_mem hm with hm | ⟨h1, rfl⟩
    · cases hm
    · obtain ⟨c, hc⟩ := hfree _ h1 rfl
      rw [hc]
      obtain ⟨w, z⟩ := I.cell _ _ hc
      exact ⟨rfl, z.lt⟩
  have mem : ∀ {y c}, ge.cells.lookup y = some c → X.env.cells.lookup y = some c ∧ c < s.heap.objs.size := fun {y c} e => by
    rw [hcl] at e
    exact cm (PySem.mem_of_lookup e)
  have look : ∀ {y}, scope.names.lookup y = some .free → ∃ c, ge.cells.lookup y = some c ∧ X.env.cells.lookup y = some c := fun {y} hl => by
    have hy : (y, NameKind.free) ∈ scope.names := PySem.mem_of_lookup hl
    obtain ⟨c', e'⟩ := mem_lookup (cloFrom_has (cells := X.env.cells) (acc := []) hy)
    rw [← hcl] at e'
    exact ⟨c', e', (mem e').1⟩
  have ltC : ∀ b, b < s.heap.objs.size → b ≠ ge.locals := fun b h => by rw [hL]; exact Nat.ne_of_lt h
  have okB : (gcx X s H ge fp [(a, go)]).Ok := by
    refine ⟨I.ok.mod, by show ge.scope.kind = _; rw [hsc]; exact ok.kind, by show ge.globals = _; rw [← hge]; exact I.ok.glob, by show ge.builtins = _; rw [← hge]; rfl, by show s.heap.objs.size ≤ ge.locals; rw [hL]; exact Nat.le_refl _,
      fun y z c e1 e2 => ?_, fun y hy => ?_, fun y c z e => ?_, fun hc => I.ok.hd hc, ?_, .inr ⟨rfl, hfrm⟩, fun b hb => ⟨?_, fun y c e z => ?_⟩, I.bs, Nat.le_trans I.ok.bsz I.sz, fun b o e hb => ?_, fun b hb z => ?_, I.stack, I.stkFree⟩
    · exact I.ok.inj y z c (mem e1).1 (mem e2).1
    · have hy : ge.scope.names.lookup y = some .cell ∨ ge.scope.names.lookup y = some .free := hy
      rw [hsc] at hy
      rcases hy with hy | hy
      · exact absurd rfl (hcell _ (PySem.mem_of_lookup hy))
      · obtain ⟨c, h1, _⟩ := look hy
        exact ⟨c, h1⟩
    · exact absurd (show false = true from z) (by decide)
    · exact Around.frames_deeper (show X.A.in1.in1.frames = some X.stack from I.ok.frames)
    · exact ltC b (hfp b hb).2
    · exact (hfp b hb).1.2.2.2.2.1 y c (mem e).1 z
    · rcases (hfp b hb).1.2.2.2.1 with z | z
      · exact I.ok.noex b o e z
      · exact absurd (Nat.lt_of_lt_of_le (Heap.lt_size e) (Nat.le_trans I.ok.bsz z)) (Nat.lt_irrefl _)
    · rcases List.mem_cons.mp (I.stkSub b z) with z | z
      · exact (hfp b hb).1.2.1 z
      · exact (hfp b hb).1.2.2.1 z
  refine ⟨okB, rfl, hg, Un.kept kp, ⟨m, by rw [hL]; exact hn, fun i y av e1 e2 e3 => ?_⟩, fun y c e => ?_, ?_, fun y c e => ?_, fun p hp => ?_, I.hok.kept kp, by rw [wipe_length]; exact I.len⟩
  · obtain ⟨e2, hne⟩ := wipe_some e2
    have hfr : scope.names.lookup y = some .free := by
      have e3 : Vis ge.scope y := e3
      rw [hsc] at e3
      have no : ∀ k, scope.names.lookup y = some k → (k = .local ∨ k = .cell) → False := fun k e hh => by
        rcases ok.own _ (PySem.mem_of_lookup e) hh with e' | e'
        · obtain ⟨p, hp, hpy⟩ := List.mem_map.mp e'
          have e3 := ok.ix p hp
          have : p.1 = y := hpy
          rw [this] at e3
          exact hne (List.mem_map.mpr ⟨p, hp, nodup_ix hN e3 e1⟩)
        · exact e' (List.mem_of_getElem? e1)
      rcases e3 with e3 | e3 | e3
      · exact (no _ e3 (.inl rfl)).elim
      · exact (no _ e3 (.inr rfl)).elim
      · exact e3
    obtain ⟨mm, hnn, hl⟩ := I.loc
    have hvis : Vis X.env.scope y := (ok.free _ (PySem.mem_of_lookup hfr) rfl).elim (fun k => .inr (.inl k)) (fun k => .inr (.inr k))
    obtain ⟨w, r, q⟩ := hl i y av e1 e2 hvis
    refine ⟨w, r, .inr ⟨.inr (by show ge.scope.names.lookup y = _; rw [hsc]; exact hfr), ?_⟩⟩
    obtain ⟨c, h1, h2⟩ := look hfr
    rcases q with ⟨k, _⟩ | ⟨_, c', e', z⟩
    · have k : X.env.scope.names.lookup y = some .local := k
      rcases ok.free _ (PySem.mem_of_lookup hfr) rfl with k' | k' <;> rw [show X.env.scope.names.lookup y = _ from k'] at k <;> cases k
    · rw [h2] at e'; cases e'
      exact ⟨c, h1, z.keeps kp⟩
  · obtain ⟨w, z⟩ := I.cell y c (mem e).1
    exact ⟨w, z.keeps kp⟩
  · show H ge.locals = none
    rw [hL]; exact I.hok.fresh (Nat.le_refl _)
  · exact I.freeC y c (mem e).1
  · have hp : p ∈ [(a, go)] ++ [] := hp
    rw [List.append_nil, List.mem_singleton] at hp
    subst hp
    refine ⟨hao, I.hok.fresh (Nat.le_of_lt ha), ?_, fun z => ?_, had⟩
    · show a ≠ ge.locals
      rw [hL]; exact Nat.ne_of_gt ha
    · have z : a ∈ frs X.stack := z
      obtain ⟨_, o, e, _⟩ := I.stack.mem z
      exact absurd (Nat.lt_trans ha (Heap.lt_size e)) (Nat.lt_irrefl _)
end
end GA
namespace GA
open PySem PySem.Spec PyProof.Rows L2 GxR
theorem over_gen {A : Around} {elt target iter : Expr} {ifs : List Expr} {scope : Scope} {pos : Pos} {it acc : Value} {ge : Env} :
    A.over (.compLoop (.GeneratorExp elt [⟨target, iter, ifs, 0⟩] scope pos) 0 it acc ge) [] = A.deeper ge := rfl
/-- between two turns nothing but the table of generators changes -/
structure Res (s s' : Shared) : Prop where
  heap : s'.heap = s.heap
  os : s'.os = s.os
  bare : AllBare s'.gens
theorem Inv.res {X : Cx} {pins : List (Addr × Obj)} {σ : L2.St} {H : Hp} {s s' : Shared} (I : Inv X pins σ H s) (r : Res s s') : Inv X pins σ H s' := by
  obtain ⟨h', g', d', t', o'⟩ := s'
  obtain ⟨e1, e2, e3⟩ := r
  have e1 : h' = s.heap := e1
  have e2 : o' = s.os := e2
  subst e1; subst e2
  exact ⟨I.ok, I.os, e3, I.base, I.loc, I.cell, I.free, I.freeC, I.pin, I.hok, I.len⟩
section
variable {X Xg : Cx} {fp : List Addr} {it : Addr} {tn : Nat → Heap → Prop} {J : It} {W : Nat → Nat → Hp → Prop} {σg : L2.St} {vs : List Nat} {Q : VK} {tg : Expr}
def GInv (Xg : Cx) (fp : List Addr) (tn : Nat → Heap → Prop) (W : Nat → Nat → Hp → Prop) (σg : L2.St) (i m : Nat) (s : Shared) : Prop :=
  ∃ H', Inv Xg [] σg H' s ∧ tn i s.heap ∧ (∀ b ∈ fp, H' b = none) ∧ W i m H'
theorem GInv.res {i m : Nat} {s s' : Shared} (h : GInv Xg fp tn W σg i m s) (r : Res s s') : GInv Xg fp tn W σg i m s' := by
  obtain ⟨H', I, t, n, w⟩ := h
  exact ⟨H', GA.Inv.res I r, by rw [r.heap]; exact t, n, w⟩
/-- what is handed out: a truth value; False ends it -/
def GYp (Xg : Cx) (fp : List Addr) (tn : Nat → Heap → Prop) (W : Nat → Nat → Hp → Prop) (σg : L2.St) (stopAt : Bool) (Q : VK) : Protocol := fun n _ v s₁ kap =>
  ∃ b : Bool, v = .bool b ∧ (if b = stopAt then ∃ σ' H', Inv Xg [] σ' H' s₁ ∧ Q (.bl stopAt) H' else ∃ i m, m < n ∧ GInv Xg fp tn W σg i m s₁ ∧ ∀ s'', Res s₁ s'' → kap (.send .none) s'')
def GPp (Xg : Cx) (σg : L2.St) (stopAt : Bool) (Q : VK) : Nat → Shared → Shared → Prop := fun _ _ s₁ => ∃ H', Inv Xg [] σg H' s₁ ∧ Q (.bl (!stopAt)) H'
/-- the walk's words for a turn -/
def GTurn (J : It) (W : Nat → Nat → Hp → Prop) (g : TG) (te : TE) (vs : List Nat) (σg : L2.St) (stopAt : Bool) (Q : VK) : Prop := ∀ i m H, W i m H →
  (J.stop i H ∧ Q (.bl (!stopAt)) H) ∨ (J.go i H ∧ ∃ Nx : Hp → Prop, (∀ H', Nx H' → ∃ m', m' < m ∧ W (i + 1) m' H') ∧ ∀ x H', J.yld i H x H' → g x σg H' fun σ2 H2 => wipe σ2 vs = σg ∧
    te σ2 H2 fun y H3 => ∃ b : Bool, y = .bl b ∧ if b = stopAt then Q (.bl stopAt) H3 else Nx H3)
theorem seg_genLoop {A : Around} {elt iter : Expr} {x : Str} {px gpos : Pos} {scope : Scope} {g : TG} {te : TE} {ge : Env} {stopAt : Bool}
    (hA : Xg.A = A.deeper ge) (hge : Xg.env = ge) (hco : ge.scope.isCoroutine = false) (hc : Xg.calm = true) (hxe : Xg.xe = fun _ _ => False) (T : Turn Xg.prog Xg.w Xg.K (.Name x px) J fp it tn)
    (stat : ∀ {σ' : L2.St} {H' : Hp} {s' : Shared}, Inv Xg [] σ' H' s' → (∀ b ∈ fp, H' b = none) → ∀ b ∈ fp, FpOk Xg [] H' b)
    (pg : PG Xg (.Name x px) g) (pe : PE Xg elt te) (turn : GTurn J W g te vs σg stopAt Q) :
    ∀ (k m i : Nat) (s₀ s : Shared), m < k → GInv Xg fp tn W σg i m s →
      Seg (model Xg.prog Xg.w) A (fun n s₀ r s₁ => r = .ok .next ∧ GPp Xg σg stopAt Q n s₀ s₁) (GYp Xg fp tn W σg stopAt Q) k s₀
        (.compLoop (.GeneratorExp elt [⟨.Name x px, iter, [], 0⟩] scope gpos) 0 (.ref it) .none ge)
        ((model Xg.prog Xg.w).den (.compLoop (.GeneratorExp elt [⟨.Name x px, iter, [], 0⟩] scope gpos) 0 (.ref it) .none ge)) [] s := by
  subst hge
  intro k
  induction k with
  | zero => intro m i s₀ s hm _; exact absurd hm (Nat.not_lt_zero _)
  | succ k ih =>
    intro m i s₀ s hm hG
    obtain ⟨H5, I5, st5, n5, w5⟩ := hG
    show Seg _ A _ _ _ s₀ _ ((compTurn (.GeneratorExp elt [⟨.Name x px, iter, [], 0⟩] scope gpos) 0 (.ref it) .none Xg.env).onRaise (leaving Xg.env)) [] s
    rw [compTurn_gen, Sem.onRaise_eq_wrap]
    refine seg_bind_wrap (wpAny_standAt ?_)
    rcases turn i m H5 w5 with ⟨stop, qq⟩ | ⟨go, Nx, hNx, step⟩
    · refine seg_bind_wrap ?_
      rw [over_gen, ← hA]
      refine thnF (T.done Xg rfl rfl rfl hc i [] s _ H5 (fun _ _ => False) I5 (stat I5 n5) st5 stop) fun r s6 ⟨hr, I6⟩ => ?_
      subst hr
      exact seg_end (.ok .next) ⟨rfl, H5, I6, qq⟩
    · refine seg_bind_wrap ?_
      rw [over_gen, ← hA]
      refine thnF (T.item Xg rfl rfl rfl hc i [] s _ H5 (fun _ _ => False) I5 (stat I5 n5) st5 go) fun r s6 ⟨u, hr, h6⟩ => ?_
      subst hr
      refine seg_bind_wrap ?_
      rw [over_gen, ← hA]
      refine thnF h6 fun _ s7 ⟨x7, H7, I7, r7, y7, st7, n7⟩ => ?_
      have I7' := I7.pinned (stat I7 n7) (T.obj _ _ st7)
      have pgr := pg.run _ s7 _ H7 x7 u _ I7' r7 (step x7 H7 y7)
      rw [hxe] at pgr
      refine seg_bind_wrap ?_
      rw [over_gen, ← hA]
      refine thnF pgr fun _ s8 ⟨σ8, H8, I8, hw8, q8⟩ => ?_
      refine seg_bind_wrap (wpAny_pure ?_)
      simp only [if_true]
      have hy : ∀ v, yieldOut Xg.env v = yieldValue v := fun v => by simp only [yieldOut, hco, Bool.false_eq_true, if_false]
      simp only [hy]
      rw [Sem.bind_eq_wrap', Sem.bind_eq_wrap', Sem.wrap_wrap, Sem.wrap_wrap]
      have per := pe.run _ s8 σ8 H8 _ I8 q8
      rw [hxe] at per
      refine seg_wrap ?_
      rw [over_gen, ← hA]
      refine thnF per fun z s9 ⟨yv, H9, I9, r9, b, eb, qb⟩ => ?_
      subst eb
      have r9 : z = Value.bool b := r9
      subst r9
      refine seg_at (seg_yield rfl rfl rfl ⟨b, rfl, ?_⟩)
      by_cases hb : b = stopAt
      · rw [if_pos hb] at qb ⊢
        exact ⟨σ8, H9, I9.unpinned (pins := []), qb⟩
      · rw [if_neg hb] at qb ⊢
        obtain ⟨m', hm', w'⟩ := hNx H9 qb
        have pin' : ∀ b ∈ fp, ∀ o, s7.heap.get? b = some o → s9.heap.get? b = some o ∧ H9 b = none := fun b hb o e =>
          let z := I9.pin (b, o) (List.mem_append_right _ (List.mem_append_right _ (mem_pinsAt hb e)))
          ⟨z.1, z.2.1⟩
        have hl : σg.length = σ8.length := by rw [← hw8, wipe_length]
        have G9 : GInv Xg fp tn W σg (i + 1) m' s9 := by
          refine ⟨H9, (I9.unpinned (pins := [])).weak hl (fun j v e => ?_), T.keep _ _ _ st7 fun b hb o e => (pin' b hb o e).1, fun b hb => ?_, w'⟩
          · rw [← hw8] at e
            exact (wipe_some e).1
          · obtain ⟨o, e, _⟩ := T.obj _ _ st7 b hb
            exact (pin' b hb o e).2
        refine ⟨i + 1, m', by omega, G9, fun s'' hr => ?_⟩
        exact seg_again rfl (ih m' (i + 1) s'' s'' (by omega) (G9.res hr))
theorem seg_genStart {A : Around} {elt iter : Expr} {x : Str} {px gpos : Pos} {scope : Scope} {g : TG} {te : TE} {ge : Env} {stopAt : Bool}
    (hA : Xg.A = A.deeper ge) (hge : Xg.env = ge) (hco : ge.scope.isCoroutine = false) (hc : Xg.calm = true) (hxe : Xg.xe = fun _ _ => False) (T : Turn Xg.prog Xg.w Xg.K (.Name x px) J fp it tn)
    (stat : ∀ {σ' : L2.St} {H' : Hp} {s' : Shared}, Inv Xg [] σ' H' s' → (∀ b ∈ fp, H' b = none) → ∀ b ∈ fp, FpOk Xg [] H' b)
    (pg : PG Xg (.Name x px) g) (pe : PE Xg elt te) (turn : GTurn J W g te vs σg stopAt Q) (k m : Nat) (s₀ s : Shared) (hm : m < k) (hG : GInv Xg fp tn W σg 0 m s) :
      Seg (model Xg.prog Xg.w) A (fun n s₀ r s₁ => r = .ok .next ∧ GPp Xg σg stopAt Q n s₀ s₁) (GYp Xg fp tn W σg stopAt Q) k s₀
        (.compStart (.GeneratorExp elt [⟨.Name x px, iter, [], 0⟩] scope gpos) 0 (.ref it) .none ge)
        ((model Xg.prog Xg.w).den (.compStart (.GeneratorExp elt [⟨.Name x px, iter, [], 0⟩] scope gpos) 0 (.ref it) .none ge)) [] s := by
  have loop := seg_genLoop (iter := iter) (scope := scope) (gpos := gpos) hA hge hco hc hxe T stat pg pe turn k m 0 s₀ s hm hG
  have self := fun (A' : Around) (Q' E' : Value → Shared → Prop) => T.self A' 0 s Q' E' (by obtain ⟨_, _, t, _⟩ := hG; exact t)
  show Seg _ A _ _ _ s₀ _ ((compStart (.GeneratorExp elt [⟨.Name x px, iter, [], 0⟩] scope gpos) 0 (.ref it) .none ge).onRaise (leaving ge)) [] s
  unfold compStart
  rw [Sem.onRaise_eq_wrap]
  show Seg _ A _ _ _ s₀ _ ((ask >>= _).wrap _ _ _ _) [] s
  refine seg_bind_wrap (wpAny_askSetting ?_)
  split
  · exact seg_again rfl loop
  · first
      | exact seg_bind_wrap (wpAny_rule (seg_bind_wrap (wpAny_standAt (seg_bind_wrap (self _ _ _ (seg_again rfl loop))))))
      | (refine seg_bind_wrap (wpAny_rule ?_); show Seg _ A _ _ _ s₀ _ ((standAt iter.pos >>= _).wrap _ _ _ _) [] s; exact seg_bind_wrap (wpAny_standAt (seg_bind_wrap (self _ _ _ (seg_again rfl loop)))))
end
end GA
namespace GA
open PySem PySem.Spec PyProof.Rows L2 GxR
section
variable {X Xg : Cx} {fp : List Addr} {it : Addr} {tn : Nat → Heap → Prop} {J : It} {W : Nat → Nat → Hp → Prop} {σg : L2.St} {vs : List Nat} {Q : VK} {tg : Expr} {stopAt : Bool}
/-- what the consumer leaves -/
def GDone (Xg : Cx) (Q : VK) (r : Result) (s' : Shared) : Prop := ∃ (b : Bool) (σ' : L2.St) (H' : Hp), r = .ok (.ret (.bool b)) ∧ Inv Xg [] σ' H' s' ∧ Q (.bl b) H'
theorem next_gen {A : Around} {a : Addr} {g k : Nat} {gs : GenState} {s : Shared} {go : Obj} {nm qn : Value} {Q' : Option Value → Shared → Prop}
    (hh : A.handled = none) (hroom : A.depth < recursionLimit) (hgo : go = { cls := .type "generator", data := .fields #[.int g 0, nm, qn] }) (hpn : (a, go) ∈ Xg.pn)
    (ha : s.heap.get? a = some go) (hl : s.heap.NoLimit) (hgs : s.gens[g]? = some gs) (hb : AllBare s.gens)
    (hgoes : ∀ s'', Res s s'' → gs.Goes (model Xg.prog Xg.w) A.in1 (fun n s₀ r s₁ => r = .ok .next ∧ GPp Xg σg stopAt Q n s₀ s₁) (GYp Xg fp tn W σg stopAt Q) k (.send .none) s'')
    (hstop : ∀ s' σ' H', Inv Xg [] σ' H' s' → Q (.bl stopAt) H' → Q' (some (.bool stopAt)) s')
    (hmore : ∀ s' gs' k', k = k' + 1 → s'.heap.get? a = some go → s'.heap.NoLimit → s'.gens[g]? = some gs' → AllBare s'.gens →
      (∀ s'', Res s' s'' → gs'.Goes (model Xg.prog Xg.w) A.in1 (fun n s₀ r s₁ => r = .ok .next ∧ GPp Xg σg stopAt Q n s₀ s₁) (GYp Xg fp tn W σg stopAt Q) k' (.send .none) s'') → Q' (some (.bool (!stopAt))) s')
    (hend : ∀ s' σ' H', Inv Xg [] σ' H' s' → Q (.bl (!stopAt)) H' → Q' none s') : wpAny (model Xg.prog Xg.w) A (pyNext (.ref a)) Q' (fun _ _ => False) s := by
  have hig : s.heap.IsGen a g := ⟨go, nm, qn, ha, by rw [hgo], by rw [hgo], by rw [hgo]⟩
  have hgl : g + 1 ≤ s.gens.size := by
    rcases Nat.lt_or_ge g s.gens.size with h | h
    · exact h
    · rw [Array.getElem?_eq_none h] at hgs; cases hgs
  refine GenW.wpAny_gsz hgl ?_
  refine wpAny_mono (Q := fun a s' => g + 1 ≤ s'.gens.size → Q' a s') (E := fun _ _ => False) ?_ (fun _ _ z => z) (fun _ _ z => z.elim)
  refine wpAny_pyNext_genexpQ (P := GPp Xg σg stopAt Q) hh hl hroom hig hgs (hgoes _ ⟨rfl, rfl, allBare_setGen (s := s) hb rfl⟩) (fun v s₁ gs' hb' hY hsz => ?_) (fun s₁ hP h' hk hsz => ?_)
  · obtain ⟨b, rfl, hY⟩ := hY
    have hsz : g + 1 ≤ (s₁.setGen g gs').gens.size := hsz
    by_cases hbs : b = stopAt
    · rw [if_pos hbs] at hY
      obtain ⟨σ', H', I, q⟩ := hY
      subst hbs
      exact hstop _ σ' H' (GA.Inv.res I ⟨rfl, rfl, allBare_setGen I.bare hb'⟩) q
    · rw [if_neg hbs] at hY
      obtain ⟨i, m, hm, G, hkap⟩ := hY
      have eb : b = !stopAt := by cases b <;> cases stopAt <;> first | rfl | exact absurd rfl hbs
      subst eb
      cases k with
      | zero => exact absurd hm (Nat.not_lt_zero _)
      | succ k' =>
        obtain ⟨H', I, _⟩ := id G
        have hp := I.pin _ (List.mem_append_left _ hpn)
        have hlt : g < s₁.gens.size := by
          have e := GenW.setGen_size s₁ g gs'
          omega
        refine hmore _ gs' k' rfl hp.1 (show s₁.heap.NoLimit from I.nolimit) (setGen_self (gs := s₁.gens[g]) (Array.getElem?_eq_getElem hlt)) (allBare_setGen I.bare hb') fun s'' hr => ?_
        exact hkap s'' ⟨hr.heap, hr.os, hr.bare⟩
  · obtain ⟨H', I, q⟩ := hP
    refine hend _ σg H' ?_ q
    have I2 : Inv Xg [] σg H' { s₁ with heap := h' } := I.kept (t' := s₁.toks) hk
    exact GA.Inv.res I2 ⟨rfl, rfl, allBare_setGen I2.bare rfl⟩
theorem all_loop {A : Around} {a : Addr} {g : Nat} {go : Obj} {nm qn : Value}
    (hh : A.handled = none) (hroom : A.depth < recursionLimit) (hgo : go = { cls := .type "generator", data := .fields #[.int g 0, nm, qn] }) (hpn : (a, go) ∈ Xg.pn) :
    ∀ (k : Nat) (gs : GenState) (s : Shared), s.heap.get? a = some go → s.heap.NoLimit → s.gens[g]? = some gs → AllBare s.gens →
    (∀ s'', Res s s'' → gs.Goes (model Xg.prog Xg.w) A.in1.in1 (fun n s₀ r s₁ => r = .ok .next ∧ GPp Xg σg false Q n s₀ s₁) (GYp Xg fp tn W σg false Q) k (.send .none) s'') →
    codeAny (model Xg.prog Xg.w) A (.builtin "all.loop" ⟨[.ref a], []⟩) (GDone Xg Q) s := by
  intro k
  induction k with
  | zero =>
    intro gs s h1 h2 h3 h4 h5
    refine codeAny_builtin F.entry_all_loop ?_
    rw [Around.under_plainId F.plain_all_loop _]
    show wpAny _ A.in1 (pyNext (.ref a) >>= _) _ _ s
    refine wpAny_bind (wpAny_mono (next_gen (A := A.in1) (stopAt := false) hh hroom hgo hpn h1 h2 h3 h4 h5 (Q' := fun v s' => match v with
      | none => ∃ σ' H', Inv Xg [] σ' H' s' ∧ Q (.bl true) H'
      | some v => v = .bool false ∧ ∃ σ' H', Inv Xg [] σ' H' s' ∧ Q (.bl false) H') (fun s' σ' H' I q => ⟨rfl, σ', H', I, q⟩) (fun s' gs' k' e => absurd e (by omega)) (fun s' σ' H' I q => ⟨σ', H', I, q⟩)) (fun v s' h => ?_) fun _ _ z => z.elim)
    cases v with
    | none =>
      obtain ⟨σ', H', I, q⟩ := h
      exact wpAny_bind (wpAny_rule (wpAny_pure ⟨true, σ', H', rfl, I, q⟩))
    | some v =>
      obtain ⟨rfl, σ', H', I, q⟩ := h
      refine wpAny_bind (wpAny_holding (wpAny_truthy_bool ?_))
      refine wpAny_bind (wpAny_letGo ?_)
      simp only [Bool.false_eq_true, if_false]
      exact wpAny_bind (wpAny_rule (wpAny_pure ⟨false, σ', H', rfl, I, q⟩))
  | succ k ih =>
    intro gs s h1 h2 h3 h4 h5
    refine codeAny_builtin F.entry_all_loop ?_
    rw [Around.under_plainId F.plain_all_loop _]
    show wpAny _ A.in1 (pyNext (.ref a) >>= _) _ _ s
    refine wpAny_bind (wpAny_mono (next_gen (A := A.in1) (stopAt := false) hh hroom hgo hpn h1 h2 h3 h4 h5 (Q' := fun v s' => match v with
      | none => ∃ σ' H', Inv Xg [] σ' H' s' ∧ Q (.bl true) H'
      | some v => (v = .bool false ∧ ∃ σ' H', Inv Xg [] σ' H' s' ∧ Q (.bl false) H') ∨ (v = .bool true ∧ codeAny (model Xg.prog Xg.w) A (.builtin "all.loop" ⟨[.ref a], []⟩) (GDone Xg Q) s'))
      (fun s' σ' H' I q => .inl ⟨rfl, σ', H', I, q⟩) (fun s' gs' k' e g1 g2 g3 g4 g5 => .inr ⟨rfl, ?_⟩) (fun s' σ' H' I q => ⟨σ', H', I, q⟩)) (fun v s' h => ?_) fun _ _ z => z.elim)
    · obtain rfl : k' = k := by omega
      exact ih gs' s' g1 g2 g3 g4 g5
    cases v with
    | none =>
      obtain ⟨σ', H', I, q⟩ := h
      exact wpAny_bind (wpAny_rule (wpAny_pure ⟨true, σ', H', rfl, I, q⟩))
    | some v =>
      rcases h with ⟨rfl, σ', H', I, q⟩ | ⟨rfl, hc⟩
      · refine wpAny_bind (wpAny_holding (wpAny_truthy_bool ?_))
        refine wpAny_bind (wpAny_letGo ?_)
        simp only [Bool.false_eq_true, if_false]
        exact wpAny_bind (wpAny_rule (wpAny_pure ⟨false, σ', H', rfl, I, q⟩))
      · refine wpAny_bind (wpAny_holding (wpAny_truthy_bool ?_))
        refine wpAny_bind (wpAny_letGo ?_)
        simp only [if_true]
        exact wpAny_pure ⟨plainId_quiet F.plain_all_loop _, hc⟩
theorem any_loop {A : Around} {a : Addr} {g : Nat} {go : Obj} {nm qn : Value}
    (hh : A.handled = none) (hroom : A.depth < recursionLimit) (hgo : go = { cls := .type "generator", data := .fields #[.int g 0, nm, qn] }) (hpn : (a, go) ∈ Xg.pn) :
    ∀ (k : Nat) (gs : GenState) (s : Shared), s.heap.get? a = some go → s.heap.NoLimit → s.gens[g]? = some gs → AllBare s.gens →
    (∀ s'', Res s s'' → gs.Goes (model Xg.prog Xg.w) A.in1.in1 (fun n s₀ r s₁ => r = .ok .next ∧ GPp Xg σg true Q n s₀ s₁) (GYp Xg fp tn W σg true Q) k (.send .none) s'') →
    codeAny (model Xg.prog Xg.w) A (.builtin "any.loop" ⟨[.ref a], []⟩) (GDone Xg Q) s := by
  intro k
  induction k with
  | zero =>
    intro gs s h1 h2 h3 h4 h5
    refine codeAny_builtin F.entry_any_loop ?_
    rw [Around.under_plainId F.plain_any_loop _]
    show wpAny _ A.in1 (pyNext (.ref a) >>= _) _ _ s
    refine wpAny_bind (wpAny_mono (next_gen (A := A.in1) (stopAt := true) hh hroom hgo hpn h1 h2 h3 h4 h5 (Q' := fun v s' => match v with
      | none => ∃ σ' H', Inv Xg [] σ' H' s' ∧ Q (.bl false) H'
      | some v => v = .bool true ∧ ∃ σ' H', Inv Xg [] σ' H' s' ∧ Q (.bl true) H') (fun s' σ' H' I q => ⟨rfl, σ', H', I, q⟩) (fun s' gs' k' e => absurd e (by omega)) (fun s' σ' H' I q => ⟨σ', H', I, q⟩)) (fun v s' h => ?_) fun _ _ z => z.elim)
    cases v with
    | none =>
      obtain ⟨σ', H', I, q⟩ := h
      exact wpAny_bind (wpAny_rule (wpAny_pure ⟨false, σ', H', rfl, I, q⟩))
    | some v =>
      obtain ⟨rfl, σ', H', I, q⟩ := h
      refine wpAny_bind (wpAny_holding (wpAny_truthy_bool ?_))
      refine wpAny_bind (wpAny_letGo ?_)
      simp only [if_true]
      exact wpAny_bind (wpAny_rule (wpAny_pure ⟨true, σ', H', rfl, I, q⟩))
  | succ k ih =>
    intro gs s h1 h2 h3 h4 h5
    refine codeAny_builtin F.entry_any_loop ?_
    rw [Around.under_plainId F.plain_any_loop _]
    show wpAny _ A.in1 (pyNext (.ref a) >>= _) _ _ s
    refine wpAny_bind (wpAny_mono (next_gen (A := A.in1) (stopAt := true) hh hroom hgo hpn h1 h2 h3 h4 h5 (Q' := fun v s' => match v with
      | none => ∃ σ' H', Inv Xg [] σ' H' s' ∧ Q (.bl false) H'
      | some v => (v = .bool true ∧ ∃ σ' H', Inv Xg [] σ' H' s' ∧ Q (.bl true) H') ∨ (v = .bool false ∧ codeAny (model Xg.prog Xg.w) A (.builtin "any.loop" ⟨[.ref a], []⟩) (GDone Xg Q) s'))
      (fun s' σ' H' I q => .inl ⟨rfl, σ', H', I, q⟩) (fun s' gs' k' e g1 g2 g3 g4 g5 => .inr ⟨rfl, ?_⟩) (fun s' σ' H' I q => ⟨σ', H', I, q⟩)) (fun v s' h => ?_) fun _ _ z => z.elim)
    · obtain rfl : k' = k := by omega
      exact ih gs' s' g1 g2 g3 g4 g5
    cases v with
    | none =>
      obtain ⟨σ', H', I, q⟩ := h
      exact wpAny_bind (wpAny_rule (wpAny_pure ⟨false, σ', H', rfl, I, q⟩))
    | some v =>
      rcases h with ⟨rfl, σ', H', I, q⟩ | ⟨rfl, hc⟩
      · refine wpAny_bind (wpAny_holding (wpAny_truthy_bool ?_))
        refine wpAny_bind (wpAny_letGo ?_)
        simp only [if_true]
        exact wpAny_bind (wpAny_rule (wpAny_pure ⟨true, σ', H', rfl, I, q⟩))
      · refine wpAny_bind (wpAny_holding (wpAny_truthy_bool ?_))
        refine wpAny_bind (wpAny_letGo ?_)
        simp only [Bool.false_eq_true, if_false]
        exact wpAny_pure ⟨plainId_quiet F.plain_any_loop _, hc⟩
end
end GA
namespace GA
open PySem PySem.Spec PyProof.Rows L2 GxR
/-- all(elt for x in iter), any(..): W by the turn and a measure; the def's table may grow ahead of the turns -/
def tGen (P : Addr) (wi : TI) (g : TG) (te : TE) (vs : List Nat) (stopAt : Bool) : TE := fun σ H Q => wi σ H fun J H1 => TabG H1 P ∧ ∀ H2, Tabbed P H1 H2 →
  ∃ W : Nat → Nat → Hp → Prop, (∃ m, W 0 m H2) ∧ GTurn J W g te vs (wipe σ vs) stopAt Q
section
variable {X : Cx} {pins : List (Addr × Obj)} {σ : L2.St} {H : Hp} {s : Shared}
/-- the generator is made, then b's loop runs over it -/
theorem gen_core {c P : Addr} {elt iter : Expr} {x : Str} {px gpos : Pos} {scope : Scope} {own : List (Str × Nat)} {wi : TI} {g : TG} {te : TE} {k : Nat} {Q : VK} {stopAt : Bool} {Q' : Value → Shared → Prop}
    (hr : Room (k + 3) X.A) (TB : TabB X.base X.mg c P) (hcode : X.env.code = .ref c) (hcalm : X.calm = true) (hN : X.N.Nodup) (hco : scope.isCoroutine = false) (hcell : ∀ y ∈ scope.names, y.2 ≠ .cell) (hdot : scope.names.lookup (".0" : Str) = some NameKind.local)
    (ok : BlkOk X.N X.env.scope scope own) (hi : PI X (.Name x px) iter wi)
    (hg : ∀ (s : Shared) (H : Hp) (C : Addr) (cl : List (Str × Addr)) (code : Value) (fp : List Addr) (pn : List (Addr × Obj)), PG (gcx X s H (genEnv scope cl C code builtinsNs X.env) fp pn) (.Name x px) g)
    (he : ∀ (s : Shared) (H : Hp) (C : Addr) (cl : List (Str × Addr)) (code : Value) (fp : List Addr) (pn : List (Addr × Obj)), Room k (gcx X s H (genEnv scope cl C code builtinsNs X.env) fp pn).A → PE (gcx X s H (genEnv scope cl C code builtinsNs X.env) fp pn) elt te)
    (hs : ∀ v, genFold iter X.env v = pure v) (I : Inv X pins σ H s) (h : tGen P wi g te (own.map (·.2)) stopAt σ H Q)
    (hQ : ∀ (a : Addr) (gn : Nat) (go : Obj) (nm qn : Value) (kk : Nat) (gs : GenState) (s5 : Shared) (Xg : Cx) (fp : List Addr) (tn : Nat → Heap → Prop) (W : Nat → Nat → Hp → Prop) (σg : L2.St), Xg.prog = X.prog → Xg.w = X.w → go = { cls := .type "generator", data := .fields #[.int gn 0, nm, qn] } → (a, go) ∈ Xg.pn →
      s5.heap.get? a = some go → s5.heap.NoLimit → s5.gens[gn]? = some gs → AllBare s5.gens →
      (∀ s'', Res s5 s'' → gs.Goes (model Xg.prog Xg.w) X.A.in1.in1 (fun n s₀ r s₁ => r = .ok .next ∧ GPp Xg σg stopAt Q n s₀ s₁) (GYp Xg fp tn W σg stopAt Q) kk (.send .none) s'') →
      (∀ s' σ' H' b, Inv Xg [] σ' H' s' → Q (.bl b) H' → EP X pins σ Q (.bool b) s') → Q' (.ref a) s5) :
    wpAny (model X.prog X.w) X.A (eval (.GeneratorExp elt [⟨.Name x px, iter, [], 0⟩] scope gpos) X.env) Q' X.xe s := by
  have hfree : ∀ y ∈ scope.names, y.2 = .free → ∃ c, X.env.cells.lookup y.1 = some c := fun y hy e => by
    rcases ok.free y hy e with k | k
    · exact I.ok.has _ (.inl k)
    · exact I.ok.has _ (.inr k)
  refine wpAny_GeneratorExp_make hco (closure_ok hfree) hcell hdot ok.kind hr.depth ?_ hs
  refine thn (hi.run pins s σ H _ I h) fun xv s1 h1 => thn h1 fun itv s2 h2 => ?_
  obtain ⟨it, fp, tn, J, H2, rfl, I2, T, st2, f2, ⟨ps, hP, ht⟩, q⟩ := h2
  have hPs : s2.heap.get? P = some { cls := .none, data := .fields ps } := I2.hok P _ hP
  have cd : PySem.W.CodeHd s2.heap c P := TB.code.keeps I2.bk
  refine ⟨I2.nolimit, ?_⟩
  have nP : ∀ b ∈ fp, b ≠ P := fun b hb e => by
    have := (f2 b hb).1
    rw [e, hP] at this
    cases this
  have cont : ∀ (code : Value) (h3 : Heap) (tk : Nat) (ps' : Array Value), Heap.ExtBut P s2.heap h3 → h3.get? P = some { cls := .none, data := .fields ps' } → (∃ more, ps' = ps ++ more) → TriplesOk ps'.toList →
      wpAny (model X.prog X.w) X.A (builtinsFor X.env.globals X.env.builtins) (fun bi s₄ =>
        ∀ h', h'.Ns s₄.heap.objs.size (fun y => if y = ".0" then some (.ref it) else none) → Heap.SameBut s₄.heap.objs.size (s₄.heap.push { cls := .type "frame", data := .dict #[] }) h' →
          Q' (.ref h'.objs.size) { s₄ with
            gens := s₄.gens.push (.fresh (.compStart (.GeneratorExp elt [⟨.Name x px, iter, [], 0⟩] scope gpos) 0 (.ref it) .none (genEnv scope (cloFrom X.env.cells scope.names []) s₄.heap.objs.size code bi X.env))),
            toks := s₄.toks + 1 + 1 + 1,
            heap := h'.push { cls := .type "generator", data := .fields #[.int s₄.gens.size 0, .str "<genexpr>" (s₄.toks + 1), .str (X.env.qual ++ "<genexpr>") (s₄.toks + 1 + 1)] } }) X.xe { s2 with heap := h3, toks := tk } := by
    intro code h3 tk ps' hx hP3 hmore ht3
    obtain ⟨bm, ob, e1, e2, e3, e4, e5, e6, e7, e8⟩ := TB.bm
    have keep3 : ∀ b u, b ≠ P → s2.heap.get? b = some u → h3.get? b = some u := fun b u hb e => hx b u hb e
    refine wpAny_builtinsFor (m := X.mg) (by rw [I2.ok.glob]; exact (I2.mod.glob.keeps I2.bk).extBut hx TB.gP) e1 e2 (keep3 _ _ e4 (I2.bk _ _ e5)) e6 e7 e8 ?_
    obtain ⟨more, em⟩ := hmore
    have I4 : Inv X pins σ (upd H2 P (.tbl (ps ++ more))) { s2 with heap := h3, toks := tk } := by
      have z := inv_tab (more := more) (h' := h3) (g' := s2.gens) (d' := s2.drawn) (t' := tk) I2 hP keep3 (by rw [← em]; exact hP3) I2.bare
      exact z
    have st4 : tn 0 h3 := T.keep _ _ _ st2 fun b hb o e => keep3 b o (nP b hb) e
    obtain ⟨W, ⟨m0, w0⟩, turn⟩ := q (upd H2 P (.tbl (ps ++ more))) ⟨⟨ps ++ more, upd_same, by rw [← em]; exact ht3⟩, fun b hb => upd_ne hb⟩
    have f4 : ∀ b ∈ fp, FpOk X pins (upd H2 P (.tbl (ps ++ more))) b ∧ b < h3.objs.size := fun b hb => by
      obtain ⟨o, e, _⟩ := T.obj _ _ st4 b hb
      refine ⟨⟨?_, (f2 b hb).2⟩, Heap.lt_size e⟩
      rw [upd_ne (nP b hb)]
      exact (f2 b hb).1
    intro h' hn' hs'
    have hn' : h'.Ns h3.objs.size (fun y => if y = ".0" then some (.ref it) else none) := hn'
    have hs' : Heap.SameBut h3.objs.size (h3.push { cls := .type "frame", data := .dict #[] }) h' := hs'
    have hsz : h'.objs.size = h3.objs.size + 1 := by rw [hs'.1, Heap.size_push]
    have keep' : ∀ b o, h3.get? b = some o → h'.get? b = some o := fun b o e => hs'.extBut b o (Nat.ne_of_lt (Heap.lt_size e)) (Heap.get?_push_of_some _ e)
    generalize hgo : ({ cls := .type "generator", data := .fields #[.int s2.gens.size 0, .str "<genexpr>" (tk + 1), .str (X.env.qual ++ "<genexpr>") (tk + 1 + 1)] } : Obj) = go
    have keep5 : ∀ b o, h3.get? b = some o → (h'.push go).get? b = some o := fun b o e => Heap.get?_push_of_some _ (keep' b o e)
    have hao : (h'.push go).get? h'.objs.size = some go := Heap.get?_push_size _ (by rw [← hgo]; rfl)
    generalize hgs : s2.gens.push (GenState.fresh (Code.compStart (.GeneratorExp elt [⟨.Name x px, iter, [], 0⟩] scope gpos) 0 (.ref it) .none (genEnv scope (cloFrom X.env.cells scope.names []) h3.objs.size code builtinsNs X.env))) = gs5
    have hb5 : AllBare gs5 := by rw [← hgs]; exact I2.bare.push rfl
    have hg5 : gs5[s2.gens.size]? = some (GenState.fresh (Code.compStart (.GeneratorExp elt [⟨.Name x px, iter, [], 0⟩] scope gpos) 0 (.ref it) .none (genEnv scope (cloFrom X.env.cells scope.names []) h3.objs.size code builtinsNs X.env))) := by
      rw [← hgs]; exact Array.getElem?_push_size ..
    have I5 := gen_start (code := code) (h4 := h'.push go) (g4 := gs5) (d4 := s2.drawn) (t4 := tk + 1 + 1 + 1) (a := h'.objs.size) (go := go) I4 ok hcell hN f4 keep5 (hn'.push _) hb5 (by show h3.objs.size < h'.objs.size; omega) hao (fun v z => by rw [← hgo] at z; cases z)
    generalize hge : genEnv scope (cloFrom X.env.cells scope.names []) h3.objs.size code builtinsNs X.env = ge at I5 hg5
    generalize hs4 : ({ s2 with heap := h3, toks := tk } : Shared) = s4 at I4 I5
    have hsz4 : s4.heap.objs.size = h3.objs.size := by rw [← hs4]
    have hXg : ∀ Xg, Xg = gcx X s4 (upd H2 P (.tbl (ps ++ more))) ge fp [(h'.objs.size, go)] → PG Xg (.Name x px) g ∧ PE Xg elt te := fun Xg e => by
      subst e
      rw [← hge]
      exact ⟨hg _ _ _ _ _ _ _, he _ _ _ _ _ _ _ (hr.in1.in1.deeper _)⟩
    have I5' : Inv (gcx X s4 (upd H2 P (.tbl (ps ++ more))) ge fp [(h'.objs.size, go)]) [] (wipe σ (own.map (·.2))) (upd H2 P (.tbl (ps ++ more))) { s2 with heap := h'.push go, gens := gs5, toks := tk + 1 + 1 + 1 } := by
      rw [← hs4] at I5 ⊢
      rw [← hge]
      rw [← hge] at I5
      exact I5
    rw [← hs4]
    refine hQ h'.objs.size s2.gens.size go (.str "<genexpr>" (tk + 1)) (.str (X.env.qual ++ "<genexpr>") (tk + 1 + 1)) (m0 + 1) _ ({ s2 with heap := h'.push go, gens := gs5, toks := tk + 1 + 1 + 1 } : Shared) (gcx X s4 (upd H2 P (.tbl (ps ++ more))) ge fp [(h'.objs.size, go)]) fp tn W (wipe σ (own.map (·.2))) rfl rfl hgo.symm (List.mem_singleton.mpr rfl) hao I5'.nolimit hg5 hb5 (fun s'' hr'' => ⟨rfl, ?_⟩) (fun s' σ' H' b I6 q6 => ?_)
    · obtain ⟨pg, pe⟩ := hXg _ rfl
      have hG : GInv (gcx X s4 (upd H2 P (.tbl (ps ++ more))) ge fp [(h'.objs.size, go)]) fp tn W (wipe σ (own.map (·.2))) 0 m0 s'' :=
        ⟨_, GA.Inv.res I5' hr'', by rw [hr''.heap]; exact T.keep _ _ _ st4 fun b _ o e => keep5 b o e, fun b hb => (f4 b hb).1.1, w0⟩
      refine seg_genStart (Xg := gcx X s4 (upd H2 P (.tbl (ps ++ more))) ge fp [(h'.objs.size, go)]) (A := X.A.in1.in1) (ge := ge) rfl rfl (by rw [← hge]; exact hco) hcalm rfl T (fun {σ' H' s'} I' hn b hb => ?_) pg pe turn (m0 + 1) m0 s'' s'' (Nat.lt_succ_self _) hG
      refine ⟨hn b hb, (I'.ok.exf b hb).1, I'.ok.exfs b hb, .inl hb, fun x c e => (I'.ok.exf b hb).2 x c e, fun p hp => ?_⟩
      have hp : p ∈ [(h'.objs.size, go)] ++ [] := hp
      rw [List.append_nil, List.mem_singleton] at hp
      subst hp
      have h9 := (f4 b hb).2
      show h'.objs.size ≠ b
      intro e
      exact absurd (Nat.lt_of_le_of_lt (Nat.le_of_eq e) h9) (by rw [hsz]; exact Nat.not_lt.mpr (Nat.le_succ _))
    · have I7 : Inv X pins σ H' s' := I4.call' (ch := fp) I6.os I6.base I6.hok I6.bare fun b hb => ⟨(f4 b hb).1.2.2.2.1, (f4 b hb).1.2.1, (f4 b hb).1.2.2.2.2.1, (f4 b hb).1.2.2.2.2.2⟩
      exact ⟨.bl b, H', I7, rfl, q6⟩
  cases hf : codeAmong gpos ps.toList with
  | none =>
    refine wpAny_genexprCodeX hcode (cd.code hPs ht) (cd.tab hPs) hf fun c' h' tk hx hge hlt hco' _ htab' _ => ?_
    obtain ⟨o1, vs, f1, tf, fl, tg, inF, tx, tt, op, _, _, _, _, _, _, _, _, _, htr, _⟩ := hco'
    exact cont _ h' tk _ hx htab'.2 ⟨_, rfl⟩ htr
  | some cv =>
    refine wpAny_genexprCode_hit hcode (cd.code hPs ht) hf ?_
    exact cont cv s2.heap s2.toks ps (Heap.ExtBut.refl _ _) hPs ⟨#[], by simp⟩ ht
theorem pe_allG {c P : Addr} {elt iter : Expr} {x : Str} {px p pos gpos : Pos} {scope : Scope} {own : List (Str × Nat)} {wi : TI} {g : TG} {te : TE} {k : Nat}
    (hr : Room (k + 3) X.A) (hgl : Gl X "all") (hm : X.mg "all" = none) (hb : bootBuiltins "all" = some (.builtin "all")) (TB : TabB X.base X.mg c P) (hcode : X.env.code = .ref c) (hcalm : X.calm = true) (hN : X.N.Nodup) (hco : scope.isCoroutine = false) (hcell : ∀ y ∈ scope.names, y.2 ≠ .cell) (hdot : scope.names.lookup (".0" : Str) = some NameKind.local)
    (ok : BlkOk X.N X.env.scope scope own) (hi : PI X (.Name x px) iter wi)
    (hg : ∀ (s : Shared) (H : Hp) (C : Addr) (cl : List (Str × Addr)) (code : Value) (fp : List Addr) (pn : List (Addr × Obj)), PG (gcx X s H (genEnv scope cl C code builtinsNs X.env) fp pn) (.Name x px) g)
    (he : ∀ (s : Shared) (H : Hp) (C : Addr) (cl : List (Str × Addr)) (code : Value) (fp : List Addr) (pn : List (Addr × Obj)), Room k (gcx X s H (genEnv scope cl C code builtinsNs X.env) fp pn).A → PE (gcx X s H (genEnv scope cl C code builtinsNs X.env) fp pn) elt te)
    (hs : ∀ v, genFold iter X.env v = pure v := by intro _; rfl)
    (hst : starEach [.GeneratorExp elt [⟨.Name x px, iter, [], 0⟩] scope gpos] X.env = (false, eval (.GeneratorExp elt [⟨.Name x px, iter, [], 0⟩] scope gpos) X.env) :: starEach [] X.env := by rfl) :
    PE X (.Call (.Name "all" p) [.GeneratorExp elt [⟨.Name x px, iter, [], 0⟩] scope gpos] [] pos) (tGen P wi g te (own.map (·.2)) false) := by
  refine ⟨fun pins s σ H Q I h => ?_⟩
  refine wpAny_Call_Name_kw (ld_blt I hgl hm hb ?_)
  refine PyProof.Rows.callWith_builtin1 ?_ hst (by rfl)
  rw [hst]
  show wpAny _ _ (spliced ((false, eval (.GeneratorExp elt [⟨.Name x px, iter, [], 0⟩] scope gpos) X.env) :: backTo pos (starEach [] X.env))) _ _ s
  refine Calls.spliced_cons (gen_core hr TB hcode hcalm hN hco hcell hdot ok hi hg he hs I h fun a gn go nm qn kk gs s5 Xg fp tn W σg ep ew hgo hpn ha hl hgs hbb hgoes hfin => ?_)
  refine Calls.spliced_nil ?_
  refine call_function_tree F.kind_all F.plain_all F.entry_all (F.args_all1 _) ?_
  unfold Builtin.«all»
  refine wpAny_bind (m := oneArg "all" _) (wpAny_pure ?_)
  refine wpAny_bind (wpAny_pyIter_gen (g := gn) ⟨go, nm, qn, ha, by rw [hgo], by rw [hgo], by rw [hgo]⟩ ?_)
  refine wpAny_pure ⟨plainId_quiet F.plain_all_loop _, ?_⟩
  have z := all_loop (A := X.A) (a := a) (g := gn) (go := go) (nm := nm) (qn := qn) (Xg := Xg) (fp := fp) (tn := tn) (W := W) (σg := σg) (Q := Q) hr.hd (by show X.A.in1.depth < _; exact hr.depth) hgo hpn kk gs s5 ha hl hgs hbb hgoes
  rw [ep, ew] at z
  refine codeAny_mono z fun r s' hd => ?_
  obtain ⟨b, σ', H', rfl, I', q'⟩ := hd
  exact hfin s' σ' H' b I' q'
theorem pe_anyG {c P : Addr} {elt iter : Expr} {x : Str} {px p pos gpos : Pos} {scope : Scope} {own : List (Str × Nat)} {wi : TI} {g : TG} {te : TE} {k : Nat}
    (hr : Room (k + 3) X.A) (hgl : Gl X "any") (hm : X.mg "any" = none) (hb : bootBuiltins "any" = some (.builtin "any")) (TB : TabB X.base X.mg c P) (hcode : X.env.code = .ref c) (hcalm : X.calm = true) (hN : X.N.Nodup) (hco : scope.isCoroutine = false) (hcell : ∀ y ∈ scope.names, y.2 ≠ .cell) (hdot : scope.names.lookup (".0" : Str) = some NameKind.local)
    (ok : BlkOk X.N X.env.scope scope own) (hi : PI X (.Name x px) iter wi)
    (hg : ∀ (s : Shared) (H : Hp) (C : Addr) (cl : List (Str × Addr)) (code : Value) (fp : List Addr) (pn : List (Addr × Obj)), PG (gcx X s H (genEnv scope cl C code builtinsNs X.env) fp pn) (.Name x px) g)
    (he : ∀ (s : Shared) (H : Hp) (C : Addr) (cl : List (Str × Addr)) (code : Value) (fp : List Addr) (pn : List (Addr × Obj)), Room k (gcx X s H (genEnv scope cl C code builtinsNs X.env) fp pn).A → PE (gcx X s H (genEnv scope cl C code builtinsNs X.env) fp pn) elt te)
    (hs : ∀ v, genFold iter X.env v = pure v := by intro _; rfl)
    (hst : starEach [.GeneratorExp elt [⟨.Name x px, iter, [], 0⟩] scope gpos] X.env = (false, eval (.GeneratorExp elt [⟨.Name x px, iter, [], 0⟩] scope gpos) X.env) :: starEach [] X.env := by rfl) :
    PE X (.Call (.Name "any" p) [.GeneratorExp elt [⟨.Name x px, iter, [], 0⟩] scope gpos] [] pos) (tGen P wi g te (own.map (·.2)) true) := by
  refine ⟨fun pins s σ H Q I h => ?_⟩
  refine wpAny_Call_Name_kw (ld_blt I hgl hm hb ?_)
  refine PyProof.Rows.callWith_builtin1 ?_ hst (by rfl)
  rw [hst]
  show wpAny _ _ (spliced ((false, eval (.GeneratorExp elt [⟨.Name x px, iter, [], 0⟩] scope gpos) X.env) :: backTo pos (starEach [] X.env))) _ _ s
  refine Calls.spliced_cons (gen_core hr TB hcode hcalm hN hco hcell hdot ok hi hg he hs I h fun a gn go nm qn kk gs s5 Xg fp tn W σg ep ew hgo hpn ha hl hgs hbb hgoes hfin => ?_)
  refine Calls.spliced_nil ?_
  refine call_function_tree F.kind_any F.plain_any F.entry_any (F.args_any1 _) ?_
  unfold Builtin.«any»
  refine wpAny_bind (m := oneArg "any" _) (wpAny_pure ?_)
  refine wpAny_bind (wpAny_pyIter_gen (g := gn) ⟨go, nm, qn, ha, by rw [hgo], by rw [hgo], by rw [hgo]⟩ ?_)
  refine wpAny_pure ⟨plainId_quiet F.plain_any_loop _, ?_⟩
  have z := any_loop (A := X.A) (a := a) (g := gn) (go := go) (nm := nm) (qn := qn) (Xg := Xg) (fp := fp) (tn := tn) (W := W) (σg := σg) (Q := Q) hr.hd (by show X.A.in1.depth < _; exact hr.depth) hgo hpn kk gs s5 ha hl hgs hbb hgoes
  rw [ep, ew] at z
  refine codeAny_mono z fun r s' hd => ?_
  obtain ⟨b, σ', H', rfl, I', q'⟩ := hd
  exact hfin s' σ' H' b I' q'
end
end GA
namespace DN
open PySem PySem.Spec PyProof.Rows L2
/-- the masks that come -/
def MaskG (m : Nat) : Prop := m = 7 ∨ m = 31 ∨ m = 127 ∨ m = 511 ∨ m = 2047
/-- every hash has its seat: the first place of its way that was free -/
structure TabG (t : SetTable) (hs : List Int) : Prop where
  ris : Ris t.place.toList
  dm : t.dummies = #[]
  sz : t.place.size = hs.length
  mok : MaskG t.mask
  seat : ∀ (i : Nat) (h : Int), hs[i]? = some h → ∃ K, t.place.toList[i]? = some (way t.mask h K) ∧ ∀ k, k < K → way t.mask h k ∈ t.place.toList
section
variable {t : SetTable} {hs : List Int}
theorem TabG.len (T : TabG t hs) : t.place.toList.length = hs.length := by rw [Array.length_toList]; exact T.sz
end
end DN
namespace DN
open PySem PySem.Spec PyProof.Rows L2
abbrev NK := NestedKey
mutual
/-- nothing in it is a text -/
def dry : NK → Bool
  | .none => true
  | .num _ => true
  | .text _ => false
  | .tup ks => dryL ks
def dryL : List NK → Bool
  | [] => true
  | k :: ks => dry k && dryL ks
end
section
variable {P : Program} {w : World}
def NoCls (P : Program) (w : World) (n : Nat) (s : Shared) (v : Value) : Prop := ∀ (A : Around) (E : Value → Shared → Prop) (Q : Bool → Shared → Prop), Q false s → wpAny (model P w) A (ofAClassStatement n v) Q E s
def ByVal (P : Program) (w : World) (n : Nat) (s : Shared) (v : Value) : Prop := ∀ (A : Around) (E : Value → Shared → Prop) (Q : Bool → Shared → Prop), Q true s → wpAny (model P w) A (hashByValue n v) Q E s
theorem NoCls.tup {n : Nat} {s : Shared} {b : Addr} {o : Obj} {vs : Array Value} {m : Nat} (e1 : s.heap.get? b = some o) (e2 : o.cls = .type "tuple") (e3 : o.data = .seq vs m) (all : ∀ v ∈ vs.toList, NoCls P w n s v) : NoCls P w (n + 1) s (.ref b) := by
  intro A E Q fin
  have ty : s.TypeIs (.ref b) "tuple" := ⟨o, e1, e2⟩
  unfold ofAClassStatement
  refine wpAny_bind (wpAny_typeOf ty ?_)
  dsimp only
  simp only [show (("tuple" : String) == "tuple") = true from by decide, if_true, Bool.not_true, Bool.false_eq_true, if_false]
  try refine wpAny_bind (wpAny_pure ?_)
  try simp only [Bool.not_true, Bool.false_eq_true, if_false]
  show wpAny _ _ (seqItems? (.ref b) >>= _) _ _ s
  refine wpAny_bind (wpAny_seqItems e1 e3 ?_)
  dsimp only
  refine wpAny_bind ?_
  show wpAny _ _ (forIn vs _ _) _ _ s
  rw [← Array.forIn_toList]
  refine wpAny_forIn_list _ (fun left r t => (r.1 = none ∧ t = s) ∧ ∀ v ∈ left, NoCls P w n s v) _ ?_ ?_ _ _ ⟨⟨rfl, rfl⟩, all⟩
  · intro v left r t q
    obtain ⟨⟨q1, rfl⟩, q2⟩ := q
    refine wpAny_bind (q2 v List.mem_cons_self _ _ _ ?_)
    simp only [Bool.false_eq_true, if_false]
    exact wpAny_pure ⟨⟨rfl, rfl⟩, fun u hu => q2 u (List.mem_cons_of_mem _ hu)⟩
  · intro r t q
    obtain ⟨r1, r2⟩ := r
    obtain ⟨⟨q1, rfl⟩, _⟩ := q
    have q1 : r1 = none := q1
    subst q1
    exact wpAny_pure fin
theorem ByVal.tup {n : Nat} {s : Shared} {b : Addr} {o : Obj} {vs : Array Value} {m : Nat} (e1 : s.heap.get? b = some o) (e2 : o.cls = .type "tuple") (e3 : o.data = .seq vs m) (all : ∀ v ∈ vs.toList, ByVal P w n s v) : ByVal P w (n + 1) s (.ref b) := by
  intro A E Q fin
  have ty : s.TypeIs (.ref b) "tuple" := ⟨o, e1, e2⟩
  unfold hashByValue
  refine wpAny_bind (wpAny_specialOf ty F.slot_tuple_hash.lookup ?_)
  show wpAny _ _ (seqItems? (.ref b) >>= _) _ _ s
  refine wpAny_bind (wpAny_seqItems e1 e3 ?_)
  refine wpAny_bind ?_
  show wpAny _ _ (forIn vs _ _) _ _ s
  rw [← Array.forIn_toList]
  refine wpAny_forIn_list _ (fun left r t => (r.1 = none ∧ t = s) ∧ ∀ v ∈ left, ByVal P w n s v) _ ?_ ?_ _ _ ⟨⟨rfl, rfl⟩, all⟩
  · intro v left r t q
    obtain ⟨⟨q1, rfl⟩, q2⟩ := q
    refine wpAny_bind (q2 v List.mem_cons_self _ _ _ ?_)
    simp only [Bool.not_true, Bool.false_eq_true, if_false]
    exact wpAny_pure ⟨⟨rfl, rfl⟩, fun u hu => q2 u (List.mem_cons_of_mem _ hu)⟩
  · intro r t q
    obtain ⟨r1, r2⟩ := r
    obtain ⟨⟨q1, rfl⟩, _⟩ := q
    have q1 : r1 = none := q1
    subst q1
    exact wpAny_pure fin
/-- the tuple at b is the key k -/
structure Kat (h : Heap) (k : NK) (b : Addr) : Prop where
  is : NestedIs h k (.ref b)
  low : k.depth ≤ 8
  dry : dry k = true
theorem Kat.kind {h : Heap} {k : NK} {b : Addr} (x : Kat h k b) : (nestedKind P w).is h k b := ⟨x.is, x.low⟩
theorem Kat.inj {h : Heap} {k l : NK} {b : Addr} (x : Kat h k b) (y : Kat h l b) : k = l := NestedIs.inj _ _ _ x.is y.is
theorem Kat.move {h h' : Heap} {k : NK} {b : Addr} (x : Kat h k b) (hk : ∀ c o vs n, h.get? c = some o → o.data = .seq vs n → h'.get? c = some o) : Kat h' k b := ⟨NestedIs.at hk _ _ x.is, x.low, x.dry⟩
variable {A : Around} {E : Value → Shared → Prop} {s : Shared}
end
end DN
namespace DN
open PySem PySem.Spec PyProof.Rows L2
abbrev Ent := Addr × NK
def rowE (w : World) (e : Ent) : Int × Value := (e.2.hash w, Value.ref e.1)
def hsE (w : World) (L : List Ent) : List Int := L.map fun e => e.2.hash w
/-- the object of a set of keys; fo: whether its order follows the text -/
structure SetAt (w : World) (fo : Bool) (h : Heap) (a : Addr) (L : List Ent) (es : Array (Int × Value)) (ep : Nat) (t : SetTable) : Prop where
  obj : ∃ o, h.get? a = some o ∧ o.ExactSet ∧ o.data = .set es ep t
  rows : es.toList = L.map (rowE w)
  tab : TabG t (hsE w L)
  once : (L.map (·.2)).Nodup
  plain : t.plain = true
  led : fo = true ∨ t.led = true
  gap : L.length * 5 < t.mask * 3
structure SetIn (w : World) (fo : Bool) (h : Heap) (a : Addr) (L : List Ent) (es : Array (Int × Value)) (ep : Nat) (t : SetTable) : Prop extends SetAt w fo h a L es ep t where
  keys : ∀ e ∈ L, Kat h e.2 e.1
section
variable {P : Program} {w : World} {A : Around} {E : Value → Shared → Prop} {s : Shared} {fo : Bool} {a : Addr} {L : List Ent} {es : Array (Int × Value)} {ep : Nat} {t : SetTable}
theorem SetAt.size {h : Heap} (T : SetAt w fo h a L es ep t) : es.size = L.length := by
  rw [← Array.length_toList, T.rows, List.length_map]
theorem SetAt.row {h : Heap} (T : SetAt w fo h a L es ep t) {i : Nat} {e : Ent} (q : L[i]? = some e) : es[i]? = some (e.2.hash w, Value.ref e.1) := by
  rw [← Array.getElem?_toList, T.rows, List.getElem?_map, q]
  rfl
end
end DN
namespace DN
open PySem PySem.Spec PyProof.Rows L2
section
variable {P : Program} {w : World} {A : Around} {E : Value → Shared → Prop} {s : Shared} {fo : Bool} {a : Addr} {L : List Ent} {es : Array (Int × Value)} {ep : Nat} {t : SetTable}
theorem SetIn.ty (T : SetIn w fo s.heap a L es ep t) : s.TypeIs (.ref a) "set" := by
  obtain ⟨o, o1, o2, _⟩ := T.obj
  exact ⟨o, o1, o2.1⟩
theorem SetIn.bare (T : SetIn w fo s.heap a L es ep t) : ∃ o, s.heap.get? a = some o ∧ o.dict = none := by
  obtain ⟨o, o1, o2, _⟩ := T.obj
  exact ⟨o, o1, o2.2.1⟩
end
mutual
def dh : NK → Int
  | .none => reduceHash 0xFCA86420
  | .num i => hashInt i
  | .text _ => 0
  | .tup ks => reduceHash (Builtin.Tuple.tupleHashOf (dhL ks))
def dhL : List NK → List Int
  | [] => []
  | k :: ks => dh k :: dhL ks
end
mutual
theorem dh_eq (w : World) : ∀ k : NK, dry k = true → k.hash w = dh k
  | .none, _ => by simp only [NestedKey.hash, dh]
  | .num i, _ => by simp only [NestedKey.hash, dh]
  | .text _, z => by simp [dry] at z
  | .tup ks, z => by
    simp only [dry] at z
    simp only [NestedKey.hash, dh, dhL_eq w ks z]
theorem dhL_eq (w : World) : ∀ ks : List NK, dryL ks = true → NestedKey.hashes w ks = dhL ks
  | [], _ => by simp only [NestedKey.hashes, dhL]
  | k :: ks, z => by
    simp only [dryL, Bool.and_eq_true] at z
    simp only [NestedKey.hashes, dhL, dh_eq w k z.1, dhL_eq w ks z.2]
end
/-- the object alone, whatever the world -/
def SetD (fo : Bool) (a : Addr) (L : List Ent) (h : Heap) : Prop := ∃ (es : Array (Int × Value)) (ep : Nat) (t : SetTable), (∃ o, h.get? a = some o ∧ o.ExactSet ∧ o.data = .set es ep t) ∧
  es.toList = L.map (fun e => (dh e.2, Value.ref e.1)) ∧ TabG t (L.map fun e => dh e.2) ∧ (L.map (·.2)).Nodup ∧ t.plain = true ∧ (fo = true ∨ t.led = true) ∧ L.length * 5 < t.mask * 3
def SetO (fo : Bool) (a : Addr) (L : List Ent) : HO := .ext (SetD fo a L)
theorem SetIn.d {w : World} {fo : Bool} {h : Heap} {a : Addr} {L : List Ent} {es : Array (Int × Value)} {ep : Nat} {t : SetTable} (T : SetIn w fo h a L es ep t) : SetD fo a L h := by
  have e : ∀ x ∈ L, x.2.hash w = dh x.2 := fun x m => dh_eq w x.2 (T.keys x m).dry
  refine ⟨es, ep, t, T.obj, ?_, ?_, T.once, T.plain, T.led, T.gap⟩
  · rw [T.rows]
    exact List.map_congr_left fun x m => by rw [rowE, e x m]
  · have z := T.tab
    rw [hsE, List.map_congr_left e] at z
    exact z
theorem SetD.ok {P : Program} {w : World} {H : Hp} {h : Heap} {fo : Bool} {a : Addr} {L : List Ent} (T : SetD fo a L h) : ObjOk P w H h a (SetO fo a L) := by
  have ⟨es, ep, t, ⟨o, o1, o2⟩, _⟩ := T
  refine ⟨T, ⟨o, o1⟩, fun h1 h2 T1 k => ?_⟩
  have ⟨es, ep, t, ⟨o, o1, o2⟩, z⟩ := T1
  exact ⟨es, ep, t, ⟨o, k o o1, o2⟩, z⟩
mutual
/-- the value v is the key k -/
def KV (K : PySem.W.Frag) (H : Hp) : NK → V → Prop
  | .none, v => v = .non
  | .num i, v => v = .int i
  | .text x, v => v = .str x
  | .tup ks, v => ∃ a vs, v = .ref a ∧ SqT K H a vs ∧ KVs K H ks vs
def KVs (K : PySem.W.Frag) (H : Hp) : List NK → List V → Prop
  | [], vs => vs = []
  | k :: ks, vs => ∃ v r, vs = v :: r ∧ KV K H k v ∧ KVs K H ks r
end
section
variable {X : Cx} {pins : List (Addr × Obj)} {σ : L2.St} {H : Hp} {s : Shared}
/-- what a set asks of a member -/
structure Mem (K : PySem.W.Frag) (H : Hp) (k : NK) (b : Addr) : Prop where
  is : KV K H k (.ref b)
  low : k.depth ≤ 8
  dry : dry k = true
/-- what a dict asks of a key -/
structure MemT (K : PySem.W.Frag) (H : Hp) (k : NK) (b : Addr) : Prop where
  is : KV K H k (.ref b)
  low : k.depth ≤ 8
theorem Mem.t {K : PySem.W.Frag} {H : Hp} {k : NK} {b : Addr} (m : Mem K H k b) : MemT K H k b := ⟨m.is, m.low⟩
end
end DN
namespace DN
open PySem PySem.Spec PyProof.Rows L2
/-- what the set has when the first n of the list are in it -/
structure Part (M : List Ent) (n : Nat) (L : List Ent) : Prop where
  old : ∀ e ∈ L, e ∈ M.take n
  all : ∀ e ∈ M.take n, e.2 ∈ L.map (·.2)
  few : L.length ≤ n
theorem Part.next {M L L' : List Ent} {n : Nat} {x : Ent} (g : Part M n L) (h : M[n]? = some x) (c1 : x.2 ∈ L.map (·.2) → L' = L) (c2 : x.2 ∉ L.map (·.2) → L'.Perm (x :: L)) : Part M (n + 1) L' := by
  have tk : M.take (n + 1) = M.take n ++ [x] := by rw [List.take_add_one, h]; rfl
  by_cases c : x.2 ∈ L.map (·.2)
  · rw [c1 c]
    refine ⟨fun e m => ?_, fun e m => ?_, Nat.le_succ_of_le g.few⟩
    · rw [tk]
      exact List.mem_append_left _ (g.old e m)
    · rw [tk] at m
      rcases List.mem_append.mp m with m | m
      · exact g.all e m
      · rw [List.mem_singleton.mp m]
        exact c
  · have pm := c2 c
    refine ⟨fun e m => ?_, fun e m => ?_, by rw [pm.length_eq]; exact Nat.succ_le_succ g.few⟩
    · rw [tk]
      rcases List.mem_cons.mp (pm.mem_iff.mp m) with rfl | m
      · exact List.mem_append_right _ (List.mem_singleton.mpr rfl)
      · exact List.mem_append_left _ (g.old e m)
    · rw [(pm.map (·.2)).mem_iff, List.map_cons]
      rw [tk] at m
      rcases List.mem_append.mp m with m | m
      · exact List.mem_cons_of_mem _ (g.all e m)
      · rw [List.mem_singleton.mp m]
        exact List.mem_cons_self
section
variable {P : Program} {w : World} {A : Around} {E : Value → Shared → Prop} {s : Shared} {fo : Bool}
theorem Kat.kept {h h' : Heap} {k : NK} {b : Addr} (x : Kat h k b) (hk : ∀ c o, h.get? c = some o → h'.get? c = some o) : Kat h' k b := x.move fun c o _ _ z _ => hk c o z
theorem SetIn.kept {h h' : Heap} {a : Addr} {L : List Ent} {es : Array (Int × Value)} {ep : Nat} {t : SetTable} (T : SetIn w fo h a L es ep t) (ha : ∀ o, h.get? a = some o → h'.get? a = some o) (hk : ∀ e ∈ L, Kat h' e.2 e.1) : SetIn w fo h' a L es ep t := by
  obtain ⟨o, o1, o2⟩ := T.obj
  exact ⟨⟨⟨o, ha o o1, o2⟩, T.rows, T.tab, T.once, T.plain, T.led, T.gap⟩, hk⟩
end
end DN
namespace DN
open PySem PySem.Spec PySem.W PyProof.Rows L2
abbrev DEnt := NK × Addr × V
/-- the hash of a key in the world at hand -/
abbrev hw (w : World) : NK → Int := fun k => k.hash w
def rowD (hf : NK → Int) (x : NK × Addr × Value) : DictEntry := ⟨hf x.1, .ref x.2.1, x.2.2⟩
abbrev DRel : List DEnt → List (NK × Addr × Value) → Prop := Paired fun p x => p.1 = x.1 ∧ p.2.1 = x.2.1 ∧ RelV p.2.2 x.2.2
def DictD (hf : NK → Int) (a : Addr) (L : List DEnt) (h : Heap) : Prop := (a == sysModules) = false ∧ ∃ (o : Obj) (es : Array DictEntry) (ep : Nat) (xs : List (NK × Addr × Value)), h.get? a = some o ∧ o.ExactDict ∧ o.data = .dict es ep ∧
  es.toList = xs.map (rowD hf) ∧ (xs.map (·.1)).Nodup ∧ DRel L xs
def DictO (hf : NK → Int) (a : Addr) (L : List DEnt) : HO := .ext (DictD hf a L)
theorem DictD.ok {P : Program} {w : World} {H : Hp} {h : Heap} {hf : NK → Int} {a : Addr} {L : List DEnt} (T : DictD hf a L h) : ObjOk P w H h a (DictO hf a L) := by
  have ⟨z0, o, es, ep, xs, o1, z⟩ := T
  refine ⟨T, ⟨o, o1⟩, fun h1 h2 T1 k => ?_⟩
  have ⟨y0, o', es', ep', xs', o1', z'⟩ := T1
  exact ⟨y0, o', es', ep', xs', k o' o1', z'⟩
theorem DRel.keys : ∀ {L : List DEnt} {xs : List (NK × Addr × Value)}, DRel L xs → L.map (·.1) = xs.map (·.1)
  | _, _, .nil => rfl
  | _, _, .cons h t => by rw [List.map_cons, List.map_cons, h.1, DRel.keys t]
theorem DRel.mem : ∀ {L : List DEnt} {xs : List (NK × Addr × Value)}, DRel L xs → ∀ x ∈ xs, ∃ p ∈ L, p.1 = x.1 ∧ p.2.1 = x.2.1
  | _, _, .nil, x, m => by cases m
  | p :: L, y :: xs, .cons h t, x, m => by
    rcases List.mem_cons.mp m with rfl | m
    · exact ⟨p, List.mem_cons_self, h.1, h.2.1⟩
    · obtain ⟨q, q1, q2⟩ := DRel.mem t x m
      exact ⟨q, List.mem_cons_of_mem _ q1, q2⟩
/-- the value at a key -/
def atE (L : List DEnt) (k : NK) : Option V := (L.find? fun p => decide (p.1 = k)).map (·.2.2)
theorem DRel.at : ∀ {L : List DEnt} {xs : List (NK × Addr × Value)} (_ : DRel L xs) (k : NK), (atE L k = none ∧ atKey xs k = none) ∨ ∃ v p, atE L k = some v ∧ atKey xs k = some p ∧ RelV v p.2
  | _, _, .nil, k => .inl ⟨rfl, rfl⟩
  | p :: L, x :: xs, .cons h t, k => by
    by_cases e : p.1 = k
    · refine .inr ⟨p.2.2, x.2, ?_, ?_, h.2.2⟩
      · simp [atE, e]
      · simp [atKey, ← h.1, e]
    · rcases DRel.at t k with ⟨z1, z2⟩ | ⟨v, q, z1, z2, z3⟩
      · exact .inl ⟨by simpa [atE, e] using z1, by simpa [atKey, ← h.1, e] using z2⟩
      · exact .inr ⟨v, q, by simpa [atE, e] using z1, by simpa [atKey, ← h.1, e] using z2, z3⟩
theorem DRel.over {k : NK} {v : V} {u : Value} (r : RelV v u) : ∀ {L : List DEnt} {xs : List (NK × Addr × Value)}, DRel L xs → DRel (L.map (fun p => if p.1 = k then (p.1, p.2.1, v) else p)) (xs.map (putAt k u))
  | _, _, .nil => .nil
  | p :: L, x :: xs, .cons h t => by
    refine .cons ?_ (DRel.over r t)
    unfold putAt
    by_cases e : p.1 = k
    · dsimp only
      rw [if_pos e]
      rw [if_pos (by rw [← h.1]; exact e)]
      exact ⟨h.1, h.2.1, r⟩
    · dsimp only
      rw [if_neg e]
      rw [if_neg (by rw [← h.1]; exact e)]
      exact h
section
variable {P : Program} {w : World} {A : Around} {E : Value → Shared → Prop} {s : Shared} {a : Addr} {L : List DEnt}
theorem DictD.of {h : Heap} {xs : List (NK × Addr × Value)} (lo : (a == sysModules) = false) (T : h.DictOfH (nestedKind P w) a xs) (r : DRel L xs) : DictD (hw w) a L h := by
  obtain ⟨o, es, ep, o1, o2, o3, o4, o5, o6⟩ := T
  exact ⟨lo, o, es, ep, xs, o1, o2, o3, o4, o6, r⟩
theorem DictD.ty {hf : NK → Int} (T : DictD hf a L s.heap) : s.TypeIs (.ref a) "dict" := by
  obtain ⟨z0, o, es, ep, xs, o1, o2, _⟩ := T
  exact ⟨o, o1, o2.1⟩
end
end DN
namespace DL
open PySem PySem.Spec PyProof.Rows L2
inductive D where
  | non | bl (b : Bool) | int (i : Int) | str (x : Str) | tup (xs : List D) | ref (n : Nat) | ins (C : Addr) (ns : List Str) (vs : List D) | scr (ns : List Int) | ty (n : String) | cls (C : Addr) | exc (a p : Addr) (d : D) | dct (hf : DN.NK → Int) (ks : List DN.NK) (ds : List D)
inductive Cell where
  | lst (xs : List D) | dic (kvs : List (Key × D)) | set (ks : List DN.NK) | map (kvs : List (DN.NK × D)) | obj (C : Addr) (ns : List Str) (vs : List D)
abbrev GS := List Cell
abbrev Sl := List (Option D)
/-- the first field of an instance that is written again -/
def movesF (fs : List (Str × V)) : Bool := match fs with
  | [] => false
  | p :: _ => decide (p.1 = ("tail" : Str))
/-- fields of an instance that nobody writes -/
def Still (ns : List Str) : Prop := ns ≠ [] ∧ ns.head? ≠ some ("tail" : Str)
theorem Still.fix {ns : List Str} {vs : List V} {fs : List (Str × V)} (h : Still ns) (l : ns.length = vs.length) : movesF (ns.zip vs ++ fs) = false := by
  cases ns with
  | nil => exact absurd rfl h.1
  | cons n ns => cases vs with
    | nil => cases l
    | cons v vs =>
      show decide (n = _) = false
      exact decide_eq_false fun e => h.2 (by rw [e]; rfl)
/-- names of fields that instances may get -/
def FLD : List Str := ["tail", "rows", "taken", "program", "observer", "known", "steps", "tuples", "numbers", "members", "found", "observers", "holder", "texts", "nodes", "met", "ways", "targets"]
/-- a list that nobody writes: locked, or of the written part -/
def FzL (K : PySem.W.Frag) (H : Hp) (a : Addr) (xs : List V) : Prop :=
  (∃ o, H a = some (.frz o (.lst xs))) ∨ ∃ (o : Obj) (its : Array Value) (n : Nat), K.lookup a = some o ∧ o.cls = .type "list" ∧ o.dict = none ∧ o.data = .seq its n ∧ its.size ≤ sizeLine ∧ Vals xs its.toList
theorem FzL.sql {K : PySem.W.Frag} {H : Hp} {a : Addr} {xs : List V} (h : FzL K H a xs) : SqL K H a xs := by
  rcases h with h | h
  · exact .inl (.inr h)
  · exact .inr h
section
variable (K : PySem.W.Frag) (ρ : List Addr) (H : Hp)
mutual
def Is : D → V → Prop
  | .non, v => v = .non
  | .bl b, v => v = .bl b
  | .int i, v => v = .int i
  | .str x, v => v = .str x
  | .tup ds, v => ∃ a vs, v = .ref a ∧ SqT K H a vs ∧ IsL ds vs
  | .ref n, v => ∃ a, v = .ref a ∧ ρ[n]? = some a
  | .ins C ns ds, v => ∃ a dx vs fs, v = .ref a ∧ H a = some (.ins C dx (ns.zip vs ++ fs)) ∧ (ns.length = vs.length ∧ Still ns ∧ ∀ p ∈ fs, p.1 ∈ FLD) ∧ IsL ds vs
  | .scr ns, v => ∃ a, v = .ref a ∧ FzL K H a (ns.map V.int)
  | .ty n, v => v = .ty n
  | .cls c, v => v = .ref c
  | .exc a p d, v => v = .ref a ∧ ∃ u, H p = some (.xd [(("value" : Str), u)]) ∧ Is d u
  | .dct hf ks ds, v => ∃ a ob L vs, v = .ref a ∧ H a = some (.frz ob (DN.DictO hf a L)) ∧ (L.map (·.1) = ks ∧ (∀ e ∈ L, DN.MemT K H e.1 e.2.1) ∧ L.map (·.2.2) = vs) ∧ IsL ds vs
def IsL : List D → List V → Prop
  | [], vs => vs = []
  | d :: ds, vs => ∃ v r, vs = v :: r ∧ Is d v ∧ IsL ds r
end
def IsK : List (Key × D) → List (Key × V) → Prop := Paired fun p q => p.1 = q.1 ∧ Is K ρ H p.2 q.2
def IsN : List (DN.NK × D) → List DN.DEnt → Prop := Paired fun p e => p.1 = e.1 ∧ DN.MemT K H e.1 e.2.1 ∧ Is K ρ H p.2 e.2.2
/-- what the world tells: the order of sets, the hashes of keys -/
structure Fo where
  b : Bool
  h : DN.NK → Int
def CellIs (fo : Fo) (a : Addr) : Cell → HO → Prop
  | .lst ds, o => ∃ vs, o = .lst vs ∧ IsL K ρ H ds vs
  | .dic kds, o => ∃ kvs, o = .dK kvs ∧ IsK K ρ H kds kvs
  | .map kvs, o => ∃ L, o = DN.DictO fo.h a L ∧ IsN K ρ H kvs L
  | .set ks, o => ∃ L, o = DN.SetO fo.b a L ∧ (∀ e ∈ L, DN.Mem K H e.2 e.1) ∧ (L.map (·.2)).Perm ks
  | .obj C ns ds, o => ∃ dx vs fs, o = .ins C dx (ns.zip vs ++ fs) ∧ (ns.length = vs.length ∧ ns.head? = some ("tail" : Str) ∧ (∀ p ∈ fs, p.1 ∈ FLD) ∧ ns.length + fs.length < 1000) ∧ IsL K ρ H ds vs
end
def isCell : HO → Bool
  | .lst _ => true
  | .dK _ => true
  | .ext _ => true
  | .ins _ _ fs => movesF fs
  | _ => false
theorem CellIs.cell {K : PySem.W.Frag} {ρ : List Addr} {H : Hp} {fo : Fo} {a : Addr} {c : Cell} {o : HO} (h : CellIs K ρ H fo a c o) : isCell o = true := by
  cases c with
  | lst ds => obtain ⟨_, rfl, _⟩ := h; rfl
  | dic ds => obtain ⟨_, rfl, _⟩ := h; rfl
  | set ks => obtain ⟨_, rfl, _⟩ := h; rfl
  | map ks => obtain ⟨_, rfl, _⟩ := h; rfl
  | obj C ns ds =>
    obtain ⟨dx, vs, fs, rfl, ⟨l, hd, _⟩, _⟩ := h
    cases ns with
    | nil => cases hd
    | cons n ns => cases vs with
      | nil => cases l
      | cons v vs => exact decide_eq_true (Option.some.inj hd)
/-- whether the world's sets follow the text -/
abbrev fw (w : World) : Fo := ⟨w.params.followText "set-order", DN.hw w⟩
structure Ct where
  K : PySem.W.Frag
  Ts : List Addr
  fo : Fo
structure Rel (C : Ct) (ρ : List Addr) (G : GS) (H : Hp) : Prop where
  len : ρ.length = G.length
  nd : ρ.Nodup
  cell : ∀ (i : Nat) (c : Cell) (a : Addr), G[i]? = some c → ρ[i]? = some a → ∃ o, H a = some o ∧ CellIs C.K ρ H C.fo a c o
  tab : ∀ P ∈ C.Ts, GxR.TabG H P
/-- what is tracked and no cell stays -/
structure Ext (ρ : List Addr) (H H' : Hp) : Prop where
  keep : ∀ a o, H a = some o → a ∉ ρ → (∀ ps, o ≠ .tbl ps) → H' a = some o
  tbl : ∀ a ps, H a = some (.tbl ps) → ∃ ps', H' a = some (.tbl ps')
theorem Ext.refl (ρ : List Addr) (H : Hp) : Ext ρ H H := ⟨fun _ _ e _ _ => e, fun _ ps e => ⟨ps, e⟩⟩
structure Step (C : Ct) (ρ : List Addr) (H : Hp) (ρ' : List Addr) (G' : GS) (H' : Hp) : Prop where
  pre : ρ <+: ρ'
  ext : Ext ρ H H'
  rel : Rel C ρ' G' H'
  fresh : ∀ a ∈ ρ', a ∉ ρ → H a = none
section
variable {C : Ct} {ρ ρ1 ρ2 ρ' : List Addr} {G G1 G2 G' : GS} {H H1 H2 H' : Hp}
theorem Rel.there (R : Rel C ρ G H) {a : Addr} (h : a ∈ ρ) : ∃ o, H a = some o ∧ isCell o = true := by
  obtain ⟨i, hi, e⟩ := List.getElem_of_mem h
  have hg : i < G.length := by rw [← R.len]; exact hi
  obtain ⟨o, ho, hc⟩ := R.cell i _ a (List.getElem?_eq_getElem hg) (by rw [List.getElem?_eq_getElem hi, e])
  exact ⟨o, ho, hc.cell⟩
theorem Rel.out (R : Rel C ρ G H) {a : Addr} {o : HO} (h : H a = some o) (ho : isCell o = false) : a ∉ ρ := fun z => by
  obtain ⟨o', e, q⟩ := R.there z
  rw [h] at e
  cases e
  rw [ho] at q
  cases q
theorem Step.refl (R : Rel C ρ G H) : Step C ρ H ρ G H := ⟨List.prefix_refl _, Ext.refl _ _, R, fun a h n => absurd h n⟩
theorem Step.trans (s : Step C ρ H ρ1 G1 H1) (t : Step C ρ1 H1 ρ2 G2 H2) : Step C ρ H ρ2 G2 H2 := by
  refine ⟨s.pre.trans t.pre, ⟨fun a o e n nt => ?_, fun a ps e => ?_⟩, t.rel, fun a h n => ?_⟩
  · have e1 := s.ext.keep a o e n nt
    refine t.ext.keep a o e1 (fun z => ?_) nt
    have := s.fresh a z n
    rw [e] at this
    cases this
  · obtain ⟨ps1, e1⟩ := s.ext.tbl a ps e
    exact t.ext.tbl a ps1 e1
  · by_cases h1 : a ∈ ρ1
    · exact s.fresh a h1 n
    · have z := t.fresh a h h1
      cases e : H a with
      | none => rfl
      | some o =>
        exfalso
        by_cases nt : ∃ ps, o = .tbl ps
        · obtain ⟨ps, rfl⟩ := nt
          obtain ⟨ps1, e1⟩ := s.ext.tbl a ps e
          rw [z] at e1; cases e1
        · rw [s.ext.keep a o e n fun ps q => nt ⟨ps, q⟩] at z
          cases z
/-- what is no cell and no table stays -/
structure TExt (H H' : Hp) : Prop where
  keep : ∀ a o, H a = some o → isCell o = false → (∀ ps, o ≠ .tbl ps) → H' a = some o
theorem Ext.text (R : Rel C ρ G H) (x : Ext ρ H H1) : TExt H H1 := ⟨fun a o h ho ht => x.keep a o h (R.out h ho) ht⟩
theorem TExt.sqt {K : PySem.W.Frag} (s : TExt H H1) {a : Addr} {vs : List V} (h : SqT K H a vs) : SqT K H1 a vs := by
  rcases h with (h | ⟨o, h⟩) | h
  · exact .inl (.inl (s.keep _ _ h rfl fun ps q => by cases q))
  · exact .inl (.inr ⟨o, s.keep _ _ h rfl fun ps q => by cases q⟩)
  · exact .inr h
theorem Step.sqt {K : PySem.W.Frag} (R : Rel C ρ G H) (s : Step C ρ H ρ1 G1 H1) {a : Addr} {vs : List V} (h : SqT K H a vs) : SqT K H1 a vs := (s.ext.text R).sqt h
theorem TExt.fzl {K : PySem.W.Frag} (s : TExt H H1) {a : Addr} {vs : List V} (h : FzL K H a vs) : FzL K H1 a vs := by
  rcases h with ⟨o, h1⟩ | h1
  · exact .inl ⟨o, s.keep _ _ h1 rfl fun ps q => by cases q⟩
  · exact .inr h1
theorem Ext.fzl {K : PySem.W.Frag} (R : Rel C ρ G H) (s : Ext ρ H H1) {a : Addr} {vs : List V} (h : FzL K H a vs) : FzL K H1 a vs := (s.text R).fzl h
theorem ix_pre {ρ ρ' : List Addr} (p : ρ <+: ρ') {n : Nat} {a : Addr} (h : ρ[n]? = some a) : ρ'[n]? = some a := by
  obtain ⟨t, rfl⟩ := p
  have hl := (List.getElem?_eq_some_iff.mp h).1
  rw [List.getElem?_append_left hl]
  exact h
mutual
theorem kv_mono {K : PySem.W.Frag} (s : TExt H H1) : ∀ (k : DN.NK) (v : V), DN.KV K H k v → DN.KV K H1 k v
  | .none, v, h => by simpa only [DN.KV] using h
  | .num i, v, h => by simpa only [DN.KV] using h
  | .text x, v, h => by simpa only [DN.KV] using h
  | .tup ks, v, h => by
    simp only [DN.KV] at h ⊢
    obtain ⟨a, vs, e, h1, h2⟩ := h
    exact ⟨a, vs, e, s.sqt h1, kvs_mono s ks vs h2⟩
theorem kvs_mono {K : PySem.W.Frag} (s : TExt H H1) : ∀ (ks : List DN.NK) (vs : List V), DN.KVs K H ks vs → DN.KVs K H1 ks vs
  | [], vs, h => by simpa only [DN.KVs] using h
  | k :: ks, vs, h => by
    simp only [DN.KVs] at h ⊢
    obtain ⟨v, r, e, h1, h2⟩ := h
    exact ⟨v, r, e, kv_mono s k v h1, kvs_mono s ks r h2⟩
end
theorem memt_mono {K : PySem.W.Frag} (s : TExt H H1) {k : DN.NK} {b : Addr} (m : DN.MemT K H k b) : DN.MemT K H1 k b := ⟨kv_mono s k _ m.is, m.low⟩
mutual
theorem Is.mono {K : PySem.W.Frag} (p : ρ <+: ρ1) (s : TExt H H1) : ∀ (d : D) (v : V), Is K ρ H d v → Is K ρ1 H1 d v
  | .non, v, h => by simpa only [Is] using h
  | .bl b, v, h => by simpa only [Is] using h
  | .int i, v, h => by simpa only [Is] using h
  | .str x, v, h => by simpa only [Is] using h
  | .tup ds, v, h => by
    simp only [Is] at h ⊢
    obtain ⟨a, vs, e, h1, h2⟩ := h
    exact ⟨a, vs, e, s.sqt h1, IsL.mono p s ds vs h2⟩
  | .ref n, v, h => by
    simp only [Is] at h ⊢
    obtain ⟨a, e, h1⟩ := h
    exact ⟨a, e, ix_pre p h1⟩
  | .ins c ns ds, v, h => by
    simp only [Is] at h ⊢
    obtain ⟨a, dx, vs, fs, e, h1, h2, h3⟩ := h
    exact ⟨a, dx, vs, fs, e, s.keep _ _ h1 (h2.2.1.fix h2.1) (fun ps q => by cases q), h2, IsL.mono p s ds vs h3⟩
  | .scr ns, v, h => by
    simp only [Is] at h ⊢
    obtain ⟨a, e, h1⟩ := h
    exact ⟨a, e, s.fzl h1⟩
  | .ty n, v, h => by simpa only [Is] using h
  | .cls c, v, h => by simpa only [Is] using h
  | .exc a q d, v, h => by
    simp only [Is] at h ⊢
    obtain ⟨e, u, h1, h2⟩ := h
    exact ⟨e, u, s.keep _ _ h1 rfl (fun ps z => by cases z), Is.mono p s d u h2⟩
  | .dct hf ks ds, v, h => by
    simp only [Is] at h ⊢
    obtain ⟨a, ob, L, vs, e, h1, ⟨h2, h3, h4⟩, h5⟩ := h
    exact ⟨a, ob, L, vs, e, s.keep _ _ h1 rfl (fun ps z => by cases z), ⟨h2, fun x m => memt_mono s (h3 x m), h4⟩, IsL.mono p s ds vs h5⟩
theorem IsL.mono {K : PySem.W.Frag} (p : ρ <+: ρ1) (s : TExt H H1) : ∀ (ds : List D) (vs : List V), IsL K ρ H ds vs → IsL K ρ1 H1 ds vs
  | [], vs, h => by simpa only [IsL] using h
  | d :: ds, vs, h => by
    simp only [IsL] at h ⊢
    obtain ⟨v, r, e, h1, h2⟩ := h
    exact ⟨v, r, e, Is.mono p s d v h1, IsL.mono p s ds r h2⟩
end
theorem Is.step {K : PySem.W.Frag} (R : Rel C ρ G H) (s : Step C ρ H ρ1 G1 H1) {d : D} {v : V} (h : Is K ρ H d v) : Is K ρ1 H1 d v := h.mono s.pre (s.ext.text R)
theorem IsL.step {K : PySem.W.Frag} (R : Rel C ρ G H) (s : Step C ρ H ρ1 G1 H1) {ds : List D} {vs : List V} (h : IsL K ρ H ds vs) : IsL K ρ1 H1 ds vs := h.mono s.pre (s.ext.text R)
theorem IsK.mono {K : PySem.W.Frag} (p : ρ <+: ρ1) (s : TExt H H1) : ∀ {ds : List (Key × D)} {vs : List (Key × V)}, IsK K ρ H ds vs → IsK K ρ1 H1 ds vs
  | _, _, .nil => .nil
  | _, _, .cons h t => .cons ⟨h.1, h.2.mono p s⟩ (IsK.mono p s t)
theorem mem_mono {K : PySem.W.Frag} (s : TExt H H1) {k : DN.NK} {b : Addr} (m : DN.Mem K H k b) : DN.Mem K H1 k b := ⟨kv_mono s k _ m.is, m.low, m.dry⟩
theorem IsN.mono {K : PySem.W.Frag} (p : ρ <+: ρ1) (s : TExt H H1) : ∀ {ds : List (DN.NK × D)} {L : List DN.DEnt}, IsN K ρ H ds L → IsN K ρ1 H1 ds L
  | _, _, .nil => .nil
  | _, _, .cons h t => .cons ⟨h.1, memt_mono s h.2.1, Is.mono p s _ _ h.2.2⟩ (IsN.mono p s t)
theorem CellIs.mono {K : PySem.W.Frag} (p : ρ <+: ρ1) (s : TExt H H1) {fo : Fo} {a : Addr} {c : Cell} {o : HO} (h : CellIs K ρ H fo a c o) : CellIs K ρ1 H1 fo a c o := by
  cases c with
  | set ks =>
    obtain ⟨L, e, h1, h2⟩ := h
    exact ⟨L, e, fun x m => mem_mono s (h1 x m), h2⟩
  | map ks => obtain ⟨L, e, h⟩ := h; exact ⟨L, e, IsN.mono p s h⟩
  | lst ds => obtain ⟨vs, e, h⟩ := h; exact ⟨vs, e, h.mono p s⟩
  | dic ds => obtain ⟨vs, e, h⟩ := h; exact ⟨vs, e, IsK.mono p s h⟩
  | obj C ns ds => obtain ⟨dx, vs, fs, e, h2, h⟩ := h; exact ⟨dx, vs, fs, e, h2, h.mono p s⟩
theorem IsL.len {K : PySem.W.Frag} {ρ : List Addr} {H : Hp} : ∀ {ds : List D} {vs : List V}, IsL K ρ H ds vs → ds.length = vs.length
  | [], vs, h => by simp only [IsL] at h; subst h; rfl
  | d :: ds, vs, h => by
    simp only [IsL] at h
    obtain ⟨v, r, rfl, _, h2⟩ := h
    rw [List.length_cons, List.length_cons, h2.len]
theorem IsL.get {K : PySem.W.Frag} {ρ : List Addr} {H : Hp} : ∀ {ds : List D} {vs : List V} {i : Nat} {d : D}, IsL K ρ H ds vs → ds[i]? = some d → ∃ v, vs[i]? = some v ∧ Is K ρ H d v
  | [], vs, i, d, h, e => by simp at e
  | d0 :: ds, vs, 0, d, h, e => by
    simp only [IsL] at h
    obtain ⟨v, r, rfl, h1, _⟩ := h
    have e : d0 = d := by simpa using e
    subst e
    exact ⟨v, rfl, h1⟩
  | d0 :: ds, vs, i + 1, d, h, e => by
    simp only [IsL] at h
    obtain ⟨v, r, rfl, _, h2⟩ := h
    obtain ⟨w, e1, e2⟩ := h2.get (i := i) (d := d) (by simpa using e)
    exact ⟨w, by simpa using e1, e2⟩
theorem IsL.cons {K : PySem.W.Frag} {ρ : List Addr} {H : Hp} {d : D} {v : V} {ds : List D} {vs : List V} (h : Is K ρ H d v) (t : IsL K ρ H ds vs) : IsL K ρ H (d :: ds) (v :: vs) := by
  simp only [IsL]
  exact ⟨v, vs, rfl, h, t⟩
theorem IsL.nil {K : PySem.W.Frag} {ρ : List Addr} {H : Hp} : IsL K ρ H [] [] := by simp only [IsL]
theorem IsL.app {K : PySem.W.Frag} {ρ : List Addr} {H : Hp} : ∀ {ds es : List D} {vs ws : List V}, IsL K ρ H ds vs → IsL K ρ H es ws → IsL K ρ H (ds ++ es) (vs ++ ws)
  | [], es, vs, ws, h, t => by simp only [IsL] at h; subst h; exact t
  | d :: ds, es, vs, ws, h, t => by
    simp only [IsL] at h
    obtain ⟨v, r, rfl, h1, h2⟩ := h
    exact .cons h1 (h2.app t)
theorem IsL.set {K : PySem.W.Frag} {ρ : List Addr} {H : Hp} {d : D} {v : V} (h : Is K ρ H d v) : ∀ {ds : List D} {vs : List V} {i : Nat}, IsL K ρ H ds vs → IsL K ρ H (ds.set i d) (vs.set i v)
  | [], vs, i, h => by simp only [IsL] at h; subst h; exact .nil
  | d0 :: ds, vs, 0, t => by
    simp only [IsL] at t
    obtain ⟨w, r, rfl, h1, h2⟩ := t
    exact .cons h h2
  | d0 :: ds, vs, i + 1, t => by
    simp only [IsL] at t
    obtain ⟨w, r, rfl, h1, h2⟩ := t
    exact .cons h1 (IsL.set h h2)
theorem IsL.take {K : PySem.W.Frag} {ρ : List Addr} {H : Hp} : ∀ {ds : List D} {vs : List V} (n : Nat), IsL K ρ H ds vs → IsL K ρ H (ds.take n) (vs.take n)
  | _, _, 0, _ => .nil
  | [], vs, n + 1, h => by simp only [IsL] at h; subst h; exact .nil
  | d :: ds, vs, n + 1, h => by
    simp only [IsL] at h
    obtain ⟨v, r, rfl, h1, h2⟩ := h
    exact .cons h1 (h2.take n)
theorem IsL.drop {K : PySem.W.Frag} {ρ : List Addr} {H : Hp} : ∀ {ds : List D} {vs : List V} (n : Nat), IsL K ρ H ds vs → IsL K ρ H (ds.drop n) (vs.drop n)
  | _, _, 0, h => h
  | [], vs, n + 1, h => by simp only [IsL] at h; subst h; exact .nil
  | d :: ds, vs, n + 1, h => by
    simp only [IsL] at h
    obtain ⟨v, r, rfl, h1, h2⟩ := h
    exact h2.drop n
theorem IsL.erase {K : PySem.W.Frag} {ρ : List Addr} {H : Hp} : ∀ {ds : List D} {vs : List V} (n : Nat), IsL K ρ H ds vs → IsL K ρ H (ds.eraseIdx n) (vs.eraseIdx n)
  | [], vs, n, h => by simp only [IsL] at h; subst h; exact .nil
  | d :: ds, vs, 0, h => by
    simp only [IsL] at h
    obtain ⟨v, r, rfl, h1, h2⟩ := h
    exact h2
  | d :: ds, vs, n + 1, h => by
    simp only [IsL] at h
    obtain ⟨v, r, rfl, h1, h2⟩ := h
    exact .cons h1 (h2.erase n)
/-- a new object that is no cell of ours -/
theorem Step.lay (R : Rel C ρ G H) {p : Addr} {o : HO} (hp : H p = none) : Step C ρ H ρ G (upd H p o) := by
  have x : Ext ρ H (upd H p o) := ⟨fun a u e _ _ => by rw [upd_ne (ne_of_none e hp)]; exact e, fun a ps e => ⟨ps, by rw [upd_ne (ne_of_none e hp)]; exact e⟩⟩
  refine ⟨List.prefix_refl _, x, ⟨R.len, R.nd, fun i c a h1 h2 => ?_, fun P hP => ?_⟩, fun a h n => absurd h n⟩
  · obtain ⟨u, e, q⟩ := R.cell i c a h1 h2
    exact ⟨u, by rw [upd_ne (ne_of_none e hp)]; exact e, q.mono (List.prefix_refl _) (x.text R)⟩
  · obtain ⟨ps, e, t⟩ := R.tab P hP
    exact ⟨ps, by rw [upd_ne (ne_of_none e hp)]; exact e, t⟩
/-- a new cell -/
theorem Step.alloc (R : Rel C ρ G H) {p : Addr} {o : HO} {c : Cell} (hp : H p = none) (hc : CellIs C.K ρ H C.fo p c o) : Step C ρ H (ρ ++ [p]) (G ++ [c]) (upd H p o) := by
  have hn : p ∉ ρ := fun z => by
    obtain ⟨u, e, _⟩ := R.there z
    rw [hp] at e; cases e
  have x : Ext ρ H (upd H p o) := ⟨fun a u e _ _ => by rw [upd_ne (ne_of_none e hp)]; exact e, fun a ps e => ⟨ps, by rw [upd_ne (ne_of_none e hp)]; exact e⟩⟩
  have pre : ρ <+: ρ ++ [p] := List.prefix_append _ _
  refine ⟨pre, x, ⟨?_, ?_, fun i d a h1 h2 => ?_, fun P hP => ?_⟩, fun a h n => ?_⟩
  · rw [List.length_append, List.length_append, R.len]; rfl
  · rw [List.nodup_append]
    refine ⟨R.nd, (by simp), fun a ha b hb e => ?_⟩
    rw [List.mem_singleton.mp hb] at e
    subst e
    exact hn ha
  · by_cases hi : i < G.length
    · rw [List.getElem?_append_left hi] at h1
      rw [List.getElem?_append_left (by rw [R.len]; exact hi)] at h2
      obtain ⟨u, e, q⟩ := R.cell i d a h1 h2
      exact ⟨u, by rw [upd_ne (ne_of_none e hp)]; exact e, q.mono pre (x.text R)⟩
    · have e : i = G.length := by
        have := (List.getElem?_eq_some_iff.mp h1).1
        rw [List.length_append, List.length_singleton] at this
        omega
      subst e
      rw [List.getElem?_append_right (Nat.le_refl _), Nat.sub_self] at h1
      rw [← R.len, List.getElem?_append_right (Nat.le_refl _), Nat.sub_self] at h2
      cases h1
      cases h2
      exact ⟨o, upd_same, hc.mono pre (x.text R)⟩
  · obtain ⟨ps, e, t⟩ := R.tab P hP
    exact ⟨ps, by rw [upd_ne (ne_of_none e hp)]; exact e, t⟩
  · rcases List.mem_append.mp h with h | h
    · exact absurd h n
    · rw [List.mem_singleton.mp h]; exact hp
theorem Rel.new_at (R : Rel C ρ G H) {p : Addr} {K : PySem.W.Frag} {H' : Hp} : Is K (ρ ++ [p]) H' (.ref G.length) (.ref p) := by
  simp only [Is]
  exact ⟨p, rfl, by rw [← R.len, List.getElem?_append_right (Nat.le_refl _), Nat.sub_self]; rfl⟩
/-- a cell changes -/
theorem Step.write (R : Rel C ρ G H) {n : Nat} {a : Addr} {o o0 : HO} {c : Cell} (ha : ρ[n]? = some a) (h0 : H a = some o0) (hc : CellIs C.K ρ H C.fo a c o) : Step C ρ H ρ (G.set n c) (upd H a o) := by
  have hm : a ∈ ρ := List.mem_of_getElem? ha
  have nt : ∀ ps, o0 ≠ .tbl ps := fun ps e => by
    obtain ⟨u, e1, q⟩ := R.there hm
    rw [h0, e] at e1; cases e1; cases q
  have x : Ext ρ H (upd H a o) := ⟨fun b u e n _ => by rw [upd_ne (fun z => n (by rw [z]; exact hm))]; exact e, fun b ps e => ⟨ps, by rw [upd_ne (fun z => nt ps (by rw [z, h0] at e; exact Option.some.inj e))]; exact e⟩⟩
  refine ⟨List.prefix_refl _, x, ⟨by rw [List.length_set]; exact R.len, R.nd, fun i d b h1 h2 => ?_, fun P hP => ?_⟩, fun a h n => absurd h n⟩
  · by_cases hi : n = i
    · subst hi
      rw [ha] at h2
      cases h2
      have hl := (List.getElem?_eq_some_iff.mp h1).1
      rw [List.length_set] at hl
      rw [List.getElem?_set_self hl] at h1
      cases h1
      exact ⟨o, upd_same, hc.mono (List.prefix_refl _) (x.text R)⟩
    · rw [List.getElem?_set_ne hi] at h1
      obtain ⟨u, e, q⟩ := R.cell i d b h1 h2
      have hb : b ≠ a := fun z => by
        subst z
        exact hi (nd_ix R.nd ha h2)
      exact ⟨u, by rw [upd_ne hb]; exact e, q.mono (List.prefix_refl _) (x.text R)⟩
  · obtain ⟨ps, e, t⟩ := R.tab P hP
    exact ⟨ps, by rw [upd_ne (fun z => nt ps (by rw [z, h0] at e; exact Option.some.inj e))]; exact e, t⟩
/-- a list that is no cell of ours grows -/
theorem Step.hidden (R : Rel C ρ G H) (st : Step C ρ H ρ1 G1 H1) {p : Addr} {vs ws : List V} (h0 : H p = none) (hn : p ∉ ρ1) (hp : H1 p = some (.lst vs)) : Step C ρ H ρ1 G1 (upd H1 p (.lst ws)) ∧ TExt H1 (upd H1 p (.lst ws)) := by
  have x : TExt H1 (upd H1 p (.lst ws)) := ⟨fun a o h ho ht => by
    rw [upd_ne]
    · exact h
    · intro e
      rw [e, hp] at h
      cases h
      cases ho⟩
  refine ⟨⟨st.pre, ⟨fun a o e n nt => ?_, fun a ps e => ?_⟩, ⟨st.rel.len, st.rel.nd, fun i c a h1 h2 => ?_, fun P hP => ?_⟩, st.fresh⟩, x⟩
  · rw [upd_ne (ne_of_none e h0)]
    exact st.ext.keep a o e n nt
  · rw [upd_ne (ne_of_none e h0)]
    exact st.ext.tbl a ps e
  · obtain ⟨o, e, q⟩ := st.rel.cell i c a h1 h2
    refine ⟨o, ?_, q.mono (List.prefix_refl _) x⟩
    rw [upd_ne]
    · exact e
    · intro z
      subst z
      exact hn (List.mem_of_getElem? h2)
  · obtain ⟨ps, e, t⟩ := st.rel.tab P hP
    refine ⟨ps, ?_, t⟩
    rw [upd_ne]
    · exact e
    · intro z
      rw [z, hp] at e
      cases e
/-- what is free was free -/
theorem Step.back (st : Step C ρ H ρ1 G1 H1) {p : Addr} (h : H1 p = none) : H p = none := by
  cases e : H p with
  | none => rfl
  | some o =>
    exfalso
    by_cases hp : p ∈ ρ
    · have hp1 : p ∈ ρ1 := st.pre.subset hp
      obtain ⟨o1, e1, _⟩ := st.rel.there hp1
      rw [h] at e1; cases e1
    · by_cases nt : ∃ ps, o = .tbl ps
      · obtain ⟨ps, rfl⟩ := nt
        obtain ⟨ps1, e1⟩ := st.ext.tbl p ps e
        rw [h] at e1; cases e1
      · rw [st.ext.keep p o e hp fun ps q => nt ⟨ps, q⟩] at h
        cases h
/-- what a reference tells -/
theorem Rel.lst (R : Rel C ρ G H) {n : Nat} {ds : List D} {v : V} (h : G[n]? = some (.lst ds)) (i : Is C.K ρ H (.ref n) v) : ∃ a vs, v = .ref a ∧ ρ[n]? = some a ∧ H a = some (.lst vs) ∧ IsL C.K ρ H ds vs := by
  simp only [Is] at i
  obtain ⟨a, rfl, ha⟩ := i
  obtain ⟨o, e, vs, rfl, q⟩ := R.cell n _ a h ha
  exact ⟨a, vs, rfl, ha, e, q⟩
theorem Rel.dic (R : Rel C ρ G H) {n : Nat} {ds : List (Key × D)} {v : V} (h : G[n]? = some (.dic ds)) (i : Is C.K ρ H (.ref n) v) : ∃ a vs, v = .ref a ∧ ρ[n]? = some a ∧ H a = some (.dK vs) ∧ IsK C.K ρ H ds vs := by
  simp only [Is] at i
  obtain ⟨a, rfl, ha⟩ := i
  obtain ⟨o, e, vs, rfl, q⟩ := R.cell n _ a h ha
  exact ⟨a, vs, rfl, ha, e, q⟩
structure Sls (K : PySem.W.Frag) (ρ : List Addr) (H : Hp) (σ : L2.St) (s : Sl) : Prop where
  len : σ.length = s.length
  at_ : ∀ (i : Nat) (d : D), s[i]? = some (some d) → ∃ v, σ[i]? = some (some v) ∧ Is K ρ H d v
theorem Sls.step {σ : L2.St} {s : Sl} (R : Rel C ρ G H) (st : Step C ρ H ρ1 G1 H1) (h : Sls C.K ρ H σ s) : Sls C.K ρ1 H1 σ s :=
  ⟨h.len, fun i d e => let ⟨v, e1, e2⟩ := h.at_ i d e; ⟨v, e1, Is.step R st e2⟩⟩
theorem Sls.set {K : PySem.W.Frag} {σ : L2.St} {s : Sl} {i : Nat} {d : D} {v : V} (h : Sls K ρ H σ s) (e : Is K ρ H d v) : Sls K ρ H (σ.set i (some v)) (s.set i (some d)) := by
  refine ⟨by rw [List.length_set, List.length_set]; exact h.len, fun j d' e' => ?_⟩
  by_cases hj : i = j
  · subst hj
    have hl : i < s.length := by
      have := (List.getElem?_eq_some_iff.mp e').1
      rwa [List.length_set] at this
    rw [List.getElem?_set_self hl] at e'
    cases e'
    exact ⟨v, List.getElem?_set_self (by rw [h.len]; exact hl), e⟩
  · rw [List.getElem?_set_ne hj] at e'
    obtain ⟨v', e1, e2⟩ := h.at_ j d' e'
    exact ⟨v', by rw [List.getElem?_set_ne hj]; exact e1, e2⟩
theorem Sls.unset {K : PySem.W.Frag} {σ : L2.St} {s : Sl} {i : Nat} (h : Sls K ρ H σ s) : Sls K ρ H (σ.set i none) (s.set i none) := by
  refine ⟨by rw [List.length_set, List.length_set]; exact h.len, fun j d' e' => ?_⟩
  by_cases hj : i = j
  · subst hj
    have hl : i < s.length := by
      have := (List.getElem?_eq_some_iff.mp e').1
      rwa [List.length_set] at this
    rw [List.getElem?_set_self hl] at e'
    cases e'
  · rw [List.getElem?_set_ne hj] at e'
    obtain ⟨v', e1, e2⟩ := h.at_ j d' e'
    exact ⟨v', by rw [List.getElem?_set_ne hj]; exact e1, e2⟩
inductive R (α : Type) where
  | bad | ok (a : α) (g : GS) | ex (c : Addr) (d : D) (g : GS)
abbrev M (α : Type) := GS → R α
def bnd {α β : Type} (m : M α) (k : α → M β) : M β := fun g => match m g with
  | .bad => .bad
  | .ok a g' => k a g'
  | .ex c d g' => .ex c d g'
def pur {α : Type} (a : α) : M α := fun g => .ok a g
def fail {α : Type} : M α := fun _ => .bad
inductive RS where
  | bad | nx (s : Sl) (g : GS) | rt (d : D) (g : GS) | bk (s : Sl) (g : GS) | ct (s : Sl) (g : GS) | ex (c : Addr) (d : D) (g : GS)
abbrev MS := Sl → GS → RS
/-- an exception as it is wished for -/
def ExOk (C : Ct) (ρ : List Addr) (H : Hp) (E : XK) (c : Addr) (d : D) (G' : GS) : Prop :=
  ∀ p v ρ' H', Step C ρ H ρ' G' H' → H' p = some (.xd [("value", v)]) → Is C.K ρ' H' d v → E (.ref c) (some p) H'
/-- what an outcome makes of a wish; Ok: how a value of α lies in the heap -/
def Run {α β : Type} (C : Ct) (ρ : List Addr) (H : Hp) (Ok : List Addr → Hp → α → β → Prop) (r : R α) (Q : β → Hp → Prop) (E : XK) : Prop := match r with
  | .bad => False
  | .ok d G' => ∀ v ρ' H', Step C ρ H ρ' G' H' → Ok ρ' H' d v → Q v H'
  | .ex c d G' => ExOk C ρ H E c d G'
abbrev okD (C : Ct) : List Addr → Hp → D → V → Prop := fun ρ H d v => Is C.K ρ H d v
abbrev okL (C : Ct) : List Addr → Hp → List D → List V → Prop := fun ρ H d v => IsL C.K ρ H d v
abbrev okB : List Addr → Hp → Bool → Bool → Prop := fun _ _ a b => a = b
abbrev okO : List Addr → Hp → Option Int → Option Int → Prop := fun _ _ a b => a = b
theorem ExOk.step {E : XK} {c : Addr} {d : D} (st : Step C ρ H ρ1 G1 H1) (h : ExOk C ρ H E c d G') : ExOk C ρ1 H1 E c d G' :=
  fun p v ρ' H' s' e i => h p v ρ' H' (st.trans s') e i
theorem Run.step {α β : Type} {Ok : List Addr → Hp → α → β → Prop} {r : R α} {Q : β → Hp → Prop} {E : XK} (st : Step C ρ H ρ1 G1 H1) (h : Run C ρ H Ok r Q E) : Run C ρ1 H1 Ok r Q E := by
  cases r with
  | bad => exact h
  | ok d G' => exact fun v ρ' H' s' i => h v ρ' H' (st.trans s') i
  | ex c d G' => exact ExOk.step st h
/-- the first of two -/
theorem Run.first {α β γ δ : Type} {Ok : List Addr → Hp → α → β → Prop} {Ok2 : List Addr → Hp → γ → δ → Prop} {m : M α} {k : α → M γ} {Q : δ → Hp → Prop} {Q1 : β → Hp → Prop} {E : XK} (h : Run C ρ H Ok2 (bnd m k G) Q E)
    (hk : ∀ a G1 v ρ1 H1, Step C ρ H ρ1 G1 H1 → Ok ρ1 H1 a v → Run C ρ1 H1 Ok2 (k a G1) Q E → Q1 v H1) : Run C ρ H Ok (m G) Q1 E := by
  unfold bnd at h
  cases e : m G with
  | bad => rw [e] at h; exact h
  | ok a G1 =>
    rw [e] at h
    exact fun v ρ1 H1 st i => hk a G1 v ρ1 H1 st i (Run.step st h)
  | ex c d G1 => rw [e] at h; exact h
structure DE (X : Cx) (Ts : List Addr) (E : XK) (e : Expr) (t : TE) (m : Sl → M D) : Prop where
  pe : PE X e t
  rf : ∀ ρ σ H s G Q, Rel ⟨X.K, Ts, fw X.w⟩ ρ G H → Sls X.K ρ H σ s → Run ⟨X.K, Ts, fw X.w⟩ ρ H (okD ⟨X.K, Ts, fw X.w⟩) (m s G) Q E → t σ H Q
structure DT (X : Cx) (Ts : List Addr) (E : XK) (e : Expr) (t : TT) (m : Sl → M Bool) : Prop where
  pe : PT X e t
  rf : ∀ ρ σ H s G Q, Rel ⟨X.K, Ts, fw X.w⟩ ρ G H → Sls X.K ρ H σ s → Run ⟨X.K, Ts, fw X.w⟩ ρ H okB (m s G) Q E → t σ H Q
structure DW (X : Cx) (Ts : List Addr) (E : XK) (e : Expr) (t : TT) (m : Sl → M Bool) : Prop where
  pe : PW X e t
  rf : ∀ ρ σ H s G Q, Rel ⟨X.K, Ts, fw X.w⟩ ρ G H → Sls X.K ρ H σ s → Run ⟨X.K, Ts, fw X.w⟩ ρ H okB (m s G) Q E → t σ H Q
structure DA (X : Cx) (Ts : List Addr) (E : XK) (es : List Expr) (t : TA) (m : Sl → M (List D)) : Prop where
  pe : PA X es t
  rf : ∀ ρ σ H s G Q, Rel ⟨X.K, Ts, fw X.w⟩ ρ G H → Sls X.K ρ H σ s → Run ⟨X.K, Ts, fw X.w⟩ ρ H (okL ⟨X.K, Ts, fw X.w⟩) (m s G) Q E → t σ H Q
structure DO (X : Cx) (Ts : List Addr) (E : XK) (e : Option Expr) (t : TO) (m : Sl → M (Option Int)) : Prop where
  pe : PO X e t
  rf : ∀ ρ σ H s G Q, Rel ⟨X.K, Ts, fw X.w⟩ ρ G H → Sls X.K ρ H σ s → Run ⟨X.K, Ts, fw X.w⟩ ρ H okO (m s G) Q E → t σ H Q
def RunS (C : Ct) (ρ : List Addr) (H : Hp) (r : RS) (Dn : Ends) (E : XK) : Prop := match r with
  | .bad => False
  | .nx s' G' => ∀ σ' ρ' H', Step C ρ H ρ' G' H' → Sls C.K ρ' H' σ' s' → Dn.nx σ' H'
  | .rt d G' => ∀ v ρ' H', Step C ρ H ρ' G' H' → Is C.K ρ' H' d v → Dn.rt v H'
  | .bk s' G' => ∀ σ' ρ' H', Step C ρ H ρ' G' H' → Sls C.K ρ' H' σ' s' → Dn.bk σ' H'
  | .ct s' G' => ∀ σ' ρ' H', Step C ρ H ρ' G' H' → Sls C.K ρ' H' σ' s' → Dn.ct σ' H'
  | .ex c d G' => ExOk C ρ H E c d G'
end
end DL
namespace DL
open PySem PySem.Spec PyProof.Rows L2
open Classical
noncomputable section
def sget (s : Sl) (i : Nat) : M D := fun g => match s[i]? with
  | some (some d) => .ok d g
  | _ => .bad
section
variable {X : Cx} {Ts : List Addr} {E : XK} {a b c e : Expr} {ta tb tc te : TE} {ma mb mc me : Sl → M D} {pos : Pos} {C : Ct}
theorem Run.ret {α β : Type} {ρ : List Addr} {G : GS} {H : Hp} {Ok : List Addr → Hp → α → β → Prop} {d : α} {v : β} {Q : β → Hp → Prop} (R : Rel C ρ G H) (h : Run C ρ H Ok (.ok d G) Q E) (i : Ok ρ H d v) : Q v H := h v ρ H (Step.refl R) i
theorem de_var {i : Nat} {x : Str} (pe : PE X (.Name x pos) (tVar i)) : DE X Ts E (.Name x pos) (tVar i) (fun s => sget s i) := by
  refine ⟨pe, fun ρ σ H s G Q R S h => ?_⟩
  unfold sget at h
  split at h
  · rename_i d e
    obtain ⟨v, e1, e2⟩ := S.at_ i d e
    exact ⟨v, e1, Run.ret (Ok := okD ⟨X.K, Ts, fw X.w⟩) R h e2⟩
  · exact h.elim
theorem de_c {t : TE} {v : V} {d : D} (pe : PE X e t) (ht : t = tC v) (hd : ∀ ρ H, Is X.K ρ H d v) : DE X Ts E e t (fun _ => pur d) := by
  subst ht
  exact ⟨pe, fun ρ σ H s G Q R S h => Run.ret (Ok := okD ⟨X.K, Ts, fw X.w⟩) R h (hd ρ H)⟩
theorem de_int {i j pos} : DE X Ts E (.Constant (.int i) j pos) (tC (.int i)) (fun _ => pur (.int i)) := de_c pe_int rfl fun _ _ => by simp only [Is]
theorem de_bl {b j pos} : DE X Ts E (.Constant (.bool b) j pos) (tC (.bl b)) (fun _ => pur (.bl b)) := de_c pe_bl rfl fun _ _ => by simp only [Is]
theorem de_non {j pos} : DE X Ts E (.Constant .none j pos) (tC .non) (fun _ => pur .non) := de_c pe_non rfl fun _ _ => by simp only [Is]
theorem de_str {x j pos} : DE X Ts E (.Constant (.str x) j pos) (tC (.str x)) (fun _ => pur (.str x)) := de_c pe_str rfl fun _ _ => by simp only [Is]
def OpD (C : Ct) (r : R2) (o : D → D → M D) : Prop := ∀ ρ G H x y u v Q E, Rel C ρ G H → Is C.K ρ H x u → Is C.K ρ H y v → Run C ρ H (okD C) (o x y G) Q E → r u v H Q
theorem rf_op {r : R2} {o : D → D → M D} (hd : OpD ⟨X.K, Ts, fw X.w⟩ r o) (ha : DE X Ts E a ta ma) (hb : DE X Ts E b tb mb) :
    ∀ ρ σ H s G Q, Rel ⟨X.K, Ts, fw X.w⟩ ρ G H → Sls X.K ρ H σ s → Run ⟨X.K, Ts, fw X.w⟩ ρ H (okD ⟨X.K, Ts, fw X.w⟩) (bnd (ma s) (fun x => bnd (mb s) fun y => o x y) G) Q E → tOp r ta tb σ H Q := by
  intro ρ σ H s G Q R S h
  refine ha.rf ρ σ H s G _ R S (Run.first h fun x G1 u ρ1 H1 st i h1 => ?_)
  refine hb.rf ρ1 σ H1 s G1 _ st.rel (S.step R st) (Run.first h1 fun y G2 v ρ2 H2 st2 j h2 => ?_)
  exact hd ρ2 G2 H2 x y u v Q E st2.rel (Is.step st.rel st2 i) j h2
theorem de_op {op : Operator} {r : R2} {o : D → D → M D} (ho : OpR X (binaryOp op) r) (hd : OpD ⟨X.K, Ts, fw X.w⟩ r o) (ha : DE X Ts E a ta ma) (hb : DE X Ts E b tb mb) :
    DE X Ts E (.BinOp a op b pos) (tOp r ta tb) (fun s => bnd (ma s) fun x => bnd (mb s) fun y => o x y) := ⟨pe_op ho ha.pe hb.pe, rf_op hd ha hb⟩
theorem de_cmp {op : CmpOp} {r : R2} {o : D → D → M D} (ho : OpR X (compareOp op) r) (hd : OpD ⟨X.K, Ts, fw X.w⟩ r o) (ha : DE X Ts E a ta ma) (hb : DE X Ts E b tb mb) (hm : behindInMarks op b = false) :
    DE X Ts E (.Compare a [op] [b] pos) (tOp r ta tb) (fun s => bnd (ma s) fun x => bnd (mb s) fun y => o x y) := ⟨pe_cmpR ho ha.pe hb.pe hm, rf_op hd ha hb⟩
theorem OpD.or {r r' : R2} {o o' : D → D → M D} {c : D → D → GS → Bool} (h : OpD C r o) (h' : OpD C r' o') : OpD C (fun x y H Q => r x y H Q ∨ r' x y H Q) (fun x y g => if c x y g then o x y g else o' x y g) := by
  intro ρ G H x y u v Q E R i j z
  have z : Run C ρ H (okD C) (if c x y G then o x y G else o' x y G) Q E := z
  split at z
  · exact .inl (h ρ G H x y u v Q E R i j z)
  · exact .inr (h' ρ G H x y u v Q E R i j z)
def LIM : Nat := 1000000
theorem lim_ok {n : Nat} (h : n ≤ LIM) : n ≤ sizeLine := Nat.le_trans h (by decide)
theorem lim_lt {n : Nat} (h : n < LIM) : n < sizeLine := Nat.lt_of_lt_of_le h (by decide)
def iop (f : Int → Int → D) (x y : D) : M D := match x, y with
  | .int i, .int j => pur (f i j)
  | _, _ => fail
def iopC (c : Int → Int → Bool) (f : Int → Int → D) (x y : D) : M D := match x, y with
  | .int i, .int j => fun g => if c i j then .ok (f i j) g else .bad
  | _, _ => fail
theorem is_int {K : PySem.W.Frag} {ρ : List Addr} {H : Hp} {i : Int} {v : V} (h : Is K ρ H (.int i) v) : v = .int i := by simpa only [Is] using h
theorem is_str {K : PySem.W.Frag} {ρ : List Addr} {H : Hp} {i : Str} {v : V} (h : Is K ρ H (.str i) v) : v = .str i := by simpa only [Is] using h
theorem is_bl {K : PySem.W.Frag} {ρ : List Addr} {H : Hp} {i : Bool} {v : V} (h : Is K ρ H (.bl i) v) : v = .bl i := by simpa only [Is] using h
theorem is_non {K : PySem.W.Frag} {ρ : List Addr} {H : Hp} {v : V} (h : Is K ρ H .non v) : v = .non := by simpa only [Is] using h
theorem opd_i0 {f : Int → Int → D} {g : Int → Int → V} (hfg : ∀ ρ H i j, Is C.K ρ H (f i j) (g i j)) : OpD C (rI0 g) (iop f) := by
  intro ρ G H x y u v Q E R i j h
  unfold iop at h
  split at h
  · have e1 := is_int i
    have e2 := is_int j
    exact ⟨_, _, e1, e2, Run.ret (Ok := okD C) R h (hfg _ _ _ _)⟩
  · exact h.elim
theorem opd_iC {c : Int → Int → Bool} {P : Int → Int → Prop} {f : Int → Int → D} {g : Int → Int → V} (hP : ∀ i j, c i j = true → P i j) (hfg : ∀ ρ H i j, Is C.K ρ H (f i j) (g i j)) : OpD C (rI P g) (iopC c f) := by
  intro ρ G H x y u v Q E R i j h
  unfold iopC at h
  split at h
  · have e1 := is_int i
    have e2 := is_int j
    split at h
    · rename_i hc
      exact ⟨_, _, e1, e2, hP _ _ hc, Run.ret (Ok := okD C) R h (hfg _ _ _ _)⟩
    · exact h.elim
  · exact h.elim
theorem isInt {K : PySem.W.Frag} {ρ : List Addr} {H : Hp} {i : Int} : Is K ρ H (.int i) (.int i) := by simp only [Is]
theorem isBl {K : PySem.W.Frag} {ρ : List Addr} {H : Hp} {i : Bool} : Is K ρ H (.bl i) (.bl i) := by simp only [Is]
theorem isStr {K : PySem.W.Frag} {ρ : List Addr} {H : Hp} {i : Str} : Is K ρ H (.str i) (.str i) := by simp only [Is]
theorem isNon {K : PySem.W.Frag} {ρ : List Addr} {H : Hp} : Is K ρ H .non .non := by simp only [Is]
def subI : D → D → M D := iop fun i j => .int (i - j)
def mulI : D → D → M D := iopC (fun i j => (decide (-(2 ^ 64) < i) && decide (i < 2 ^ 64)) || (decide (-(2 ^ 64) < j) && decide (j < 2 ^ 64))) fun i j => .int (i * j)
def modI : D → D → M D := iopC (fun _ j => decide (0 < j)) fun i j => .int (i % j)
def divI : D → D → M D := iopC (fun _ j => decide (0 < j) && decide (j < 1073741824)) fun i j => .int (i / j)
def ltI : D → D → M D := iop fun i j => .bl (decide (i < j))
def leI : D → D → M D := iop fun i j => .bl (decide (i ≤ j))
def gtI : D → D → M D := iop fun i j => .bl (decide (j < i))
def geI : D → D → M D := iop fun i j => .bl (decide (j ≤ i))
theorem opd_subI : OpD C (rI0 fun i j => .int (i - j)) subI := opd_i0 fun _ _ _ _ => isInt
theorem opd_mulI : OpD C (rI CMul fun i j => .int (i * j)) mulI := opd_iC (fun i j h => by
  simp only [Bool.or_eq_true, Bool.and_eq_true, decide_eq_true_eq] at h
  exact h) fun _ _ _ _ => isInt
theorem opd_modI : OpD C (rI (fun _ j => 0 < j) fun i j => .int (i % j)) modI := opd_iC (fun i j h => of_decide_eq_true h) fun _ _ _ _ => isInt
theorem opd_divI : OpD C (rI CDiv fun i j => .int (i / j)) divI := opd_iC (fun i j h => by
  simp only [Bool.and_eq_true, decide_eq_true_eq] at h
  exact h) fun _ _ _ _ => isInt
theorem opd_ltI : OpD C (rI0 fun i j => .bl (decide (i < j))) ltI := opd_i0 fun _ _ _ _ => isBl
theorem opd_leI : OpD C (rI0 fun i j => .bl (decide (i ≤ j))) leI := opd_i0 fun _ _ _ _ => isBl
theorem opd_gtI : OpD C (rI0 fun i j => .bl (decide (j < i))) gtI := opd_i0 fun _ _ _ _ => isBl
theorem opd_geI : OpD C (rI0 fun i j => .bl (decide (j ≤ i))) geI := opd_i0 fun _ _ _ _ => isBl
def addS (x y : D) : M D := match x, y with
  | .str i, .str j => fun g => if i.length + j.length ≤ LIM then .ok (.str (i ++ j)) g else .bad
  | _, _ => fail
theorem opd_addS : OpD C (fun x y H Q => ∃ i j, x = .str i ∧ y = .str j ∧ i.length + j.length ≤ sizeLine ∧ Q (.str (i ++ j)) H) addS := by
  intro ρ G H x y u v Q E R i j h
  unfold addS at h
  split at h
  · have e1 := is_str i
    have e2 := is_str j
    split at h
    · rename_i hc
      exact ⟨_, _, e1, e2, lim_ok hc, Run.ret (Ok := okD C) R h isStr⟩
    · exact h.elim
  · exact h.elim
theorem is_tup {K : PySem.W.Frag} {ρ : List Addr} {H : Hp} {ds : List D} {v : V} (h : Is K ρ H (.tup ds) v) : ∃ a vs, v = .ref a ∧ SqT K H a vs ∧ IsL K ρ H ds vs := by simpa only [Is] using h
theorem isTup {K : PySem.W.Frag} {ρ : List Addr} {H : Hp} {ds : List D} {a : Addr} {vs : List V} (h : SqT K H a vs) (i : IsL K ρ H ds vs) : Is K ρ H (.tup ds) (.ref a) := by
  simp only [Is]
  exact ⟨a, vs, rfl, h, i⟩
/-- a new tuple -/
theorem Run.newT {ρ : List Addr} {G : GS} {H : Hp} {ds : List D} {vs : List V} {Q : VK} (R : Rel C ρ G H) (h : Run C ρ H (okD C) (.ok (.tup ds) G) Q E) (i : IsL C.K ρ H ds vs) : ∀ p, H p = none → Q (.ref p) (upd H p (.tup vs)) := fun p hp =>
  let st := Step.lay R (o := .tup vs) hp
  h (.ref p) ρ _ st (isTup (SqT.of upd_same) (i.step R st))
/-- a new list -/
theorem Run.newL {ρ : List Addr} {G : GS} {H : Hp} {ds : List D} {vs : List V} {Q : VK} (R : Rel C ρ G H) (h : Run C ρ H (okD C) (.ok (.ref G.length) (G ++ [.lst ds])) Q E) (i : IsL C.K ρ H ds vs) : ∀ p, H p = none → Q (.ref p) (upd H p (.lst vs)) := fun p hp =>
  h (.ref p) _ _ (Step.alloc R (c := .lst ds) hp ⟨vs, rfl, i⟩) R.new_at
def addT (x y : D) : M D := match x, y with
  | .tup xs, .tup ys => fun g => if xs.length + ys.length ≤ LIM then .ok (.tup (xs ++ ys)) g else .bad
  | _, _ => fail
theorem IsL.nil_iff {K : PySem.W.Frag} {ρ : List Addr} {H : Hp} {ds : List D} {vs : List V} (h : IsL K ρ H ds vs) : vs = [] ↔ ds = [] := by
  have := h.len
  constructor
  · intro e
    rw [e] at this
    exact List.length_eq_zero_iff.mp this
  · intro e
    rw [e] at this
    exact List.length_eq_zero_iff.mp this.symm
theorem opd_addT : OpD C (rCatA C.K) addT := by
  intro ρ G H x y u v Q E R i j h
  unfold addT at h
  split at h
  · rename_i xs ys
    obtain ⟨a, vs, rfl, ha, hx⟩ := is_tup i
    obtain ⟨b, ws, rfl, hb, hy⟩ := is_tup j
    split at h
    · rename_i hc
      refine ⟨a, b, vs, ws, rfl, rfl, ha, hb, by rw [← hx.len, ← hy.len]; exact lim_ok hc, fun e => ?_, fun _ e => ?_, fun _ _ => Run.newT R h (hx.app hy)⟩
      · have e' := hx.nil_iff.mp e
        subst e'
        exact Run.ret (Ok := okD C) R h (isTup hb hy)
      · have e' := hy.nil_iff.mp e
        subst e'
        rw [List.append_nil] at h
        exact Run.ret (Ok := okD C) R h (isTup ha hx)
    · exact h.elim
  · exact h.elim
def addL (x y : D) : M D := match x, y with
  | .ref a, .ref b => fun g => match g[a]?, g[b]? with
    | some (.lst xs), some (.lst ys) => if xs.length + ys.length ≤ LIM then .ok (.ref g.length) (g ++ [.lst (xs ++ ys)]) else .bad
    | _, _ => .bad
  | _, _ => fail
theorem opd_addL : OpD C rCat addL := by
  intro ρ G H x y u v Q E R i j h
  unfold addL at h
  split at h
  · split at h
    · rename_i xs ys e1 e2
      obtain ⟨a, vs, rfl, _, ha, hx⟩ := R.lst e1 i
      obtain ⟨b, ws, rfl, _, hb, hy⟩ := R.lst e2 j
      split at h
      · rename_i hc
        exact ⟨a, b, vs, ws, rfl, rfl, ha, hb, by rw [← hx.len, ← hy.len]; exact lim_ok hc, Run.newL R h (hx.app hy)⟩
      · exact h.elim
    · exact h.elim
  · exact h.elim
/-- + of two whatever they are -/
def addD (x y : D) : M D := match x, y with
  | .int i, .int j => pur (.int (i + j))
  | .str _, .str _ => addS x y
  | .tup _, .tup _ => addT x y
  | .ref _, .ref _ => addL x y
  | _, _ => fail
abbrev rAddA (K : PySem.W.Frag) : R2 := fun x y H Q => (rI0 fun i j => .int (i + j)) x y H Q ∨ (∃ i j, x = .str i ∧ y = .str j ∧ i.length + j.length ≤ sizeLine ∧ Q (.str (i ++ j)) H) ∨ rCatA K x y H Q ∨ rCat x y H Q
theorem op_addA : OpR X (binaryOp .Add) (rAddA X.K) := op_add.or (op_add_str.or (op_catA.or op_cat))
theorem opd_addD : OpD C (rAddA C.K) addD := by
  intro ρ G H x y u v Q E R i j h
  unfold addD at h
  split at h
  · exact .inl ⟨_, _, is_int i, is_int j, Run.ret (Ok := okD C) R h isInt⟩
  · exact .inr (.inl (opd_addS ρ G H _ _ u v Q E R i j h))
  · exact .inr (.inr (.inl (opd_addT ρ G H _ _ u v Q E R i j h)))
  · exact .inr (.inr (.inr (opd_addL ρ G H _ _ u v Q E R i j h)))
  · exact h.elim
mutual
def pyD : D → Option PyData
  | .non => some .none
  | .bl b => some (.bool b)
  | .int i => some (.int i)
  | .str x => some (.str x)
  | .tup ds => (pyL ds).map .tuple
  | .ref _ => none
  | .ins _ _ _ => none
  | .scr _ => none
  | .ty _ => none
  | .cls _ => none
  | .exc _ _ _ => none
  | .dct _ _ _ => none
def pyL : List D → Option (List PyData)
  | [] => some []
  | d :: ds => match pyD d, pyL ds with
    | some p, some ps => some (p :: ps)
    | _, _ => none
end
mutual
theorem dp_of {K : PySem.W.Frag} {ρ : List Addr} {H : Hp} : ∀ (d : D) (v : V) (p : PyData), pyD d = some p → Is K ρ H d v → Dp K H v p
  | .non, v, p, e, h => by simp only [pyD] at e; cases e; rw [is_non h]; exact .non
  | .bl b, v, p, e, h => by simp only [pyD] at e; cases e; rw [is_bl h]; exact .bl b
  | .int i, v, p, e, h => by simp only [pyD] at e; cases e; rw [is_int h]; exact .int i
  | .str x, v, p, e, h => by simp only [pyD] at e; cases e; rw [is_str h]; exact .str x
  | .tup ds, v, p, e, h => by
    simp only [pyD] at e
    obtain ⟨a, vs, rfl, ha, hl⟩ := is_tup h
    cases q : pyL ds with
    | none => rw [q] at e; cases e
    | some ps =>
      rw [q] at e
      cases e
      exact .tup ha (dpl_of ds vs ps q hl)
  | .ref n, v, p, e, h => by simp only [pyD] at e; cases e
  | .ins _ _ _, v, p, e, h => by simp only [pyD] at e; cases e
  | .scr _, v, p, e, h => by simp only [pyD] at e; cases e
  | .ty _, v, p, e, h => by simp only [pyD] at e; cases e
  | .cls _, v, p, e, h => by simp only [pyD] at e; cases e
  | .exc _ _ _, v, p, e, h => by simp only [pyD] at e; cases e
  | .dct _ _ _, v, p, e, h => by simp only [pyD] at e; cases e
theorem dpl_of {K : PySem.W.Frag} {ρ : List Addr} {H : Hp} : ∀ (ds : List D) (vs : List V) (ps : List PyData), pyL ds = some ps → IsL K ρ H ds vs → DpAll K H vs ps
  | [], vs, ps, e, h => by
    simp only [pyL] at e
    cases e
    simp only [IsL] at h
    subst h
    exact .nil
  | d :: ds, vs, ps, e, h => by
    simp only [pyL] at e
    simp only [IsL] at h
    obtain ⟨v, r, rfl, h1, h2⟩ := h
    cases q1 : pyD d with
    | none => rw [q1] at e; cases e
    | some p =>
      cases q2 : pyL ds with
      | none => rw [q1, q2] at e; cases e
      | some ps' =>
        rw [q1, q2] at e
        cases e
        exact .cons (dp_of d v p q1 h1) (dpl_of ds r ps' q2 h2)
end
/-- with lists -/
def pyG1 (g : GS) (d : D) : Option PyData := match d with
  | .ref n => match g[n]? with
    | some (.lst ds) => (pyL ds).map .list
    | _ => none
  | d => pyD d
theorem dpg1_of {ρ : List Addr} {G : GS} {H : Hp} (R : Rel C ρ G H) {d : D} {v : V} {p : PyData} (e : pyG1 G d = some p) (h : Is C.K ρ H d v) : Dp C.K H v p := by
  unfold pyG1 at e
  split at e
  · split at e
    · rename_i ds e1
      obtain ⟨a, vs, rfl, _, ha, hl⟩ := R.lst e1 h
      cases q : pyL ds with
      | none => rw [q] at e; cases e
      | some ps =>
        rw [q] at e
        cases e
        exact .lst (SqL.of ha) (dpl_of ds vs ps q hl)
    · cases e
  · exact dp_of _ v p e h
def pyGs (g : GS) : List D → Option (List PyData)
  | [] => some []
  | d :: r => match pyG1 g d, pyGs g r with
    | some p, some ps => some (p :: ps)
    | _, _ => none
/-- tuples may hold lists -/
def pyG (g : GS) (d : D) : Option PyData := match d with
  | .tup ds => match pyD (.tup ds) with
    | some p => some p
    | none => (pyGs g ds).map .tuple
  | d => pyG1 g d
theorem dpgs_of {ρ : List Addr} {G : GS} {H : Hp} (R : Rel C ρ G H) : ∀ (ds : List D) (vs : List V) (ps : List PyData), pyGs G ds = some ps → IsL C.K ρ H ds vs → DpAll C.K H vs ps
  | [], vs, ps, e, h => by
    cases e
    simp only [IsL] at h
    subst h
    exact .nil
  | d :: ds, vs, ps, e, h => by
    simp only [pyGs] at e
    simp only [IsL] at h
    obtain ⟨v, r, rfl, h1, h2⟩ := h
    cases q1 : pyG1 G d with
    | none => rw [q1] at e; cases e
    | some p =>
      cases q2 : pyGs G ds with
      | none => rw [q1, q2] at e; cases e
      | some ps' =>
        rw [q1, q2] at e
        cases e
        exact .cons (dpg1_of R q1 h1) (dpgs_of R ds r ps' q2 h2)
theorem dpg_of {ρ : List Addr} {G : GS} {H : Hp} (R : Rel C ρ G H) {d : D} {v : V} {p : PyData} (e : pyG G d = some p) (h : Is C.K ρ H d v) : Dp C.K H v p := by
  unfold pyG at e
  split at e
  · rename_i ds
    split at e
    · rename_i p' e1
      cases e
      exact dp_of _ v p e1 h
    · cases q : pyGs G ds with
      | none => rw [q] at e; cases e
      | some ps =>
        rw [q] at e
        cases e
        obtain ⟨a, vs, rfl, ha, hl⟩ := is_tup h
        exact .tup ha (dpgs_of R ds vs ps q hl)
  · exact dpg1_of R e h
def eqM (x y : D) (g : GS) : Option Bool := match pyG g x, pyG g y with
  | some p, some q => if SeqAt.shaped p && SeqAt.shaped q then some (PyData.eqv p q) else none
  | _, _ => none
def eqD (x y : D) : M D := fun g => match eqM x y g with
  | some b => .ok (.bl b) g
  | none => .bad
def neD (x y : D) : M D := fun g => match eqM x y g with
  | some b => .ok (.bl (!b)) g
  | none => .bad
theorem eqM_some {x y : D} {g : GS} {b : Bool} (h : eqM x y g = some b) : ∃ p q, pyG g x = some p ∧ pyG g y = some q ∧ SeqAt.shaped p = true ∧ SeqAt.shaped q = true ∧ b = PyData.eqv p q := by
  unfold eqM at h
  split at h
  · rename_i p q e1 e2
    by_cases hc : (SeqAt.shaped p && SeqAt.shaped q) = true
    · rw [if_pos hc] at h
      rw [Bool.and_eq_true] at hc
      exact ⟨p, q, e1, e2, hc.1, hc.2, (Option.some.inj h).symm⟩
    · rw [if_neg hc] at h
      cases h
  · cases h
theorem opd_eqD : OpD C (rEqD C.K) eqD := by
  intro ρ G H x y u v Q E R i j h
  unfold eqD at h
  cases e : eqM x y G with
  | none => rw [e] at h; exact h.elim
  | some b =>
    rw [e] at h
    obtain ⟨p, q, e1, e2, s1, s2, rfl⟩ := eqM_some e
    exact ⟨p, q, dpg_of R e1 i, dpg_of R e2 j, s1, s2, Run.ret (Ok := okD C) R h isBl⟩
theorem opd_neD : OpD C (rNeD C.K) neD := by
  intro ρ G H x y u v Q E R i j h
  unfold neD at h
  cases e : eqM x y G with
  | none => rw [e] at h; exact h.elim
  | some b =>
    rw [e] at h
    obtain ⟨p, q, e1, e2, s1, s2, rfl⟩ := eqM_some e
    exact ⟨p, q, dpg_of R e1 i, dpg_of R e2 j, s1, s2, Run.ret (Ok := okD C) R h isBl⟩
/-- is None -/
def isNonB : D → Bool
  | .non => true
  | _ => false
def isNoneD (neg : Bool) (x y : D) : M D := match y with
  | .non => pur (.bl (isNonB x != neg))
  | _ => fail
theorem is_nonV {K : PySem.W.Frag} {ρ : List Addr} {H : Hp} {d : D} {v : V} (h : Is K ρ H d v) : decide (v = .non) = isNonB d := by
  cases d with
  | non => rw [is_non h]; rfl
  | bl b => rw [is_bl h]; rfl
  | int b => rw [is_int h]; rfl
  | str b => rw [is_str h]; rfl
  | tup ds => obtain ⟨a, vs, rfl, _⟩ := is_tup h; rfl
  | ref n => simp only [Is] at h; obtain ⟨a, rfl, _⟩ := h; rfl
  | ins c ns ds => simp only [Is] at h; obtain ⟨a, _, _, _, rfl, _⟩ := h; rfl
  | scr ns => simp only [Is] at h; obtain ⟨a, rfl, _⟩ := h; rfl
  | ty n => simp only [Is] at h; subst h; rfl
  | cls n => simp only [Is] at h; subst h; rfl
  | exc a p d => simp only [Is] at h; obtain ⟨rfl, _⟩ := h; rfl
  | dct hf ks ds => simp only [Is] at h; obtain ⟨a, _, _, _, rfl, _⟩ := h; rfl
theorem opd_isN : OpD C (fun x y H Q => y = .non ∧ Q (.bl (decide (x = .non))) H) (isNoneD false) := by
  intro ρ G H x y u v Q E R i j h
  unfold isNoneD at h
  split at h
  · refine ⟨is_non j, ?_⟩
    rw [is_nonV i]
    refine Run.ret (Ok := okD C) R h ?_
    rw [Bool.bne_false]
    exact isBl
  · exact h.elim
theorem opd_notN : OpD C (fun x y H Q => y = .non ∧ Q (.bl (!decide (x = .non))) H) (isNoneD true) := by
  intro ρ G H x y u v Q E R i j h
  unfold isNoneD at h
  split at h
  · refine ⟨is_non j, ?_⟩
    rw [is_nonV i]
    refine Run.ret (Ok := okD C) R h ?_
    rw [Bool.bne_true]
    exact isBl
  · exact h.elim
end
end
end DL
namespace DL
open PySem PySem.Spec PyProof.Rows L2
open Classical
noncomputable section
variable {X : Cx} {Ts : List Addr} {E : XK} {a b c e : Expr} {ta tb tc te : TE} {ma mb mc me : Sl → M D} {pos : Pos} {C : Ct} {es : List Expr} {t u : TT} {mt mu : Sl → M Bool}
def asB (d : D) : M Bool := match d with
  | .bl b => pur b
  | _ => fail
theorem Run.map {α β γ δ : Type} {ρ : List Addr} {G : GS} {H : Hp} {Ok : List Addr → Hp → α → β → Prop} {Ok2 : List Addr → Hp → γ → δ → Prop} {m : M α} {k : α → M γ} {Q : δ → Hp → Prop} {Q1 : β → Hp → Prop} (R : Rel C ρ G H) (h : Run C ρ H Ok2 (bnd m k G) Q E)
    (hk : ∀ a G1 v ρ1 H1, Rel C ρ1 G1 H1 → Ok ρ1 H1 a v → Run C ρ1 H1 Ok2 (k a G1) Q E → Q1 v H1) : Run C ρ H Ok (m G) Q1 E :=
  Run.first h fun a G1 v ρ1 H1 st i h1 => hk a G1 v ρ1 H1 st.rel i h1
theorem run_asB {ρ : List Addr} {G : GS} {H : Hp} {d : D} {v : V} {Q : Bool → Hp → Prop} (R : Rel C ρ G H) (i : Is C.K ρ H d v) (h : Run C ρ H okB (asB d G) Q E) : ∃ k, v = .bl k ∧ Q k H := by
  unfold asB at h
  split at h
  · exact ⟨_, is_bl i, Run.ret (Ok := okB) R h rfl⟩
  · exact h.elim
/-- a comparison as a test -/
theorem dt_cmp {op : CmpOp} {r : R2} {o : D → D → M D} (ho : OpR X (compareOp op) r) (hd : OpD ⟨X.K, Ts, fw X.w⟩ r o) (ha : DE X Ts E a ta ma) (hb : DE X Ts E b tb mb) (hm : behindInMarks op b = false) :
    DT X Ts E (.Compare a [op] [b] pos) (tTest (tOp r ta tb)) (fun s => bnd (bnd (ma s) fun x => bnd (mb s) fun y => o x y) asB) := by
  refine ⟨pt_cmpR ho ha.pe hb.pe hm, fun ρ σ H s G Q R S h => ?_⟩
  refine rf_op hd ha hb ρ σ H s G _ R S (Run.map R h fun d G1 v ρ1 H1 R1 i h1 => run_asB R1 i h1)
def truM (d : D) : M Bool := fun g => match d with
  | .non => .ok false g
  | .bl b => .ok b g
  | .int i => .ok (i != 0) g
  | .str x => if x.length ≤ LIM then .ok ((x.length : Int) != 0) g else .bad
  | .tup ds => .ok (!ds.isEmpty) g
  | .ref n => match g[n]? with
    | some (.lst ds) => .ok (!ds.isEmpty) g
    | some (.dic ds) => .ok (!ds.isEmpty) g
    | _ => .bad
  | .ins _ _ _ => .bad
  | .scr ns => .ok (!ns.isEmpty) g
  | .ty _ => .bad
  | .cls _ => .bad
  | .exc _ _ _ => .bad
  | .dct _ _ _ => .bad
theorem empty_of {α β : Type} {xs : List α} {ys : List β} (h : xs.length = ys.length) : xs.isEmpty = ys.isEmpty := by
  cases xs <;> cases ys <;> first | rfl | simp at h
theorem IsK.len {K : PySem.W.Frag} {ρ : List Addr} {H : Hp} {ds : List (Key × D)} {vs : List (Key × V)} (h : IsK K ρ H ds vs) : ds.length = vs.length := Paired.length h
theorem run_tru {ρ : List Addr} {G : GS} {H : Hp} {d : D} {v : V} {Q : Bool → Hp → Prop} (R : Rel C ρ G H) (i : Is C.K ρ H d v) (h : Run C ρ H okB (truM d G) Q E) : ∃ k, TruV C.K v H k ∧ Q k H := by
  unfold truM at h
  cases d with
  | non => rw [is_non i]; exact ⟨false, rfl, Run.ret (Ok := okB) R h rfl⟩
  | bl b => rw [is_bl i]; exact ⟨b, rfl, Run.ret (Ok := okB) R h rfl⟩
  | int b => rw [is_int i]; exact ⟨_, rfl, Run.ret (Ok := okB) R h rfl⟩
  | str x =>
    rw [is_str i]
    dsimp only at h
    split at h
    · rename_i hc
      exact ⟨_, ⟨lim_ok hc, rfl⟩, Run.ret (Ok := okB) R h rfl⟩
    · exact h.elim
  | tup ds =>
    obtain ⟨p, vs, rfl, hp, hl⟩ := is_tup i
    exact ⟨_, .inr (.inl ⟨vs, hp, by rw [empty_of hl.len]⟩), Run.ret (Ok := okB) R h rfl⟩
  | ref n =>
    dsimp only at h
    split at h
    · rename_i ds e1
      obtain ⟨p, vs, rfl, _, hp, hl⟩ := R.lst e1 i
      exact ⟨_, .inl ⟨vs, SqL.of hp, by rw [empty_of hl.len]⟩, Run.ret (Ok := okB) R h rfl⟩
    · rename_i ds e1
      obtain ⟨p, vs, rfl, _, hp, hl⟩ := R.dic e1 i
      exact ⟨_, .inr (.inr ⟨vs, hp, by rw [empty_of hl.len]⟩), Run.ret (Ok := okB) R h rfl⟩
    · exact h.elim
  | ins _ _ _ => exact h.elim
  | scr ns =>
    simp only [Is] at i
    obtain ⟨p, rfl, hp⟩ := i
    exact ⟨_, .inl ⟨_, hp.sql, by cases ns <;> rfl⟩, Run.ret (Ok := okB) R h rfl⟩
  | ty _ => exact h.elim
  | cls _ => exact h.elim
  | exc _ _ _ => exact h.elim
  | dct _ _ _ => exact h.elim
theorem dt_tru (ha : DE X Ts E a ta ma) (he : ∀ whole, isTrue a X.env whole = (do let v ← whole; standAt a.pos; holding [v] (truthy v)) := by intro _; rfl) :
    DT X Ts E a (fun σ H Q => ta σ H fun x H' => ∃ k, TruV X.K x H' k ∧ Q k H') (fun s => bnd (ma s) truM) := by
  refine ⟨pt_truth ha.pe he, fun ρ σ H s G Q R S h => ?_⟩
  exact ha.rf ρ σ H s G _ R S (Run.map R h fun d G1 v ρ1 H1 R1 i h1 => run_tru (C := ⟨X.K, Ts, fw X.w⟩) R1 i h1)
theorem dt_not (ha : DT X Ts E a t mt) : DT X Ts E (.UnaryOp .Not a pos) (tNot t) (fun s => bnd (mt s) fun b => pur (!b)) := by
  refine ⟨pt_not ha.pe, fun ρ σ H s G Q R S h => ?_⟩
  exact ha.rf ρ σ H s G _ R S (Run.map R h fun d G1 v ρ1 H1 R1 i h1 => by
    have i : d = v := i
    subst i
    exact Run.ret (Ok := okB) R1 h1 rfl)
theorem DW.dt (h : DW X Ts E e t mt) : DT X Ts E e t mt := ⟨h.pe.pt, h.rf⟩
theorem dw_and1 (ha : DT X Ts E a t mt) : DW X Ts E (.BoolOp .And [a] pos) t mt := ⟨pw_and1 ha.pe, ha.rf⟩
theorem dw_or1 (ha : DT X Ts E a t mt) : DW X Ts E (.BoolOp .Or [a] pos) t mt := ⟨pw_or1 ha.pe, ha.rf⟩
theorem dw_and {rest : List Expr} (ha : DT X Ts E a t mt) (hb : DW X Ts E (.BoolOp .And (b :: rest) pos) u mu) : DW X Ts E (.BoolOp .And (a :: b :: rest) pos) (tAnd t u) (fun s => bnd (mt s) fun x => if x then mu s else pur false) := by
  refine ⟨pw_and ha.pe hb.pe, fun ρ σ H s G Q R S h => ?_⟩
  refine ha.rf ρ σ H s G _ R S (Run.first h fun d G1 v ρ1 H1 st i h1 => ?_)
  have i : d = v := i
  subst i
  cases d with
  | true => exact hb.rf ρ1 σ H1 s G1 Q st.rel (S.step R st) h1
  | false => exact Run.ret (Ok := okB) st.rel h1 rfl
theorem dw_or {rest : List Expr} (ha : DT X Ts E a t mt) (hb : DW X Ts E (.BoolOp .Or (b :: rest) pos) u mu) : DW X Ts E (.BoolOp .Or (a :: b :: rest) pos) (tOr t u) (fun s => bnd (mt s) fun x => if x then pur true else mu s) := by
  refine ⟨pw_or ha.pe hb.pe, fun ρ σ H s G Q R S h => ?_⟩
  refine ha.rf ρ σ H s G _ R S (Run.first h fun d G1 v ρ1 H1 st i h1 => ?_)
  have i : d = v := i
  subst i
  cases d with
  | true => exact Run.ret (Ok := okB) st.rel h1 rfl
  | false => exact hb.rf ρ1 σ H1 s G1 Q st.rel (S.step R st) h1
/-- as values: all but the last truth values -/
theorem de_one {op} (ha : DE X Ts E a ta ma) : DE X Ts E (.BoolOp op [a] pos) ta ma := ⟨pe_one ha.pe, ha.rf⟩
theorem de_and {rest : List Expr} (ha : DE X Ts E a ta ma) (hb : DE X Ts E (.BoolOp .And (b :: rest) pos) tb mb) : DE X Ts E (.BoolOp .And (a :: b :: rest) pos) (tAndV ta tb) (fun s => bnd (ma s) fun d => bnd (asB d) fun x => if x then mb s else pur (.bl false)) := by
  refine ⟨pe_and ha.pe hb.pe, fun ρ σ H s G Q R S h => ?_⟩
  refine ha.rf ρ σ H s G _ R S (Run.first h fun d G1 v ρ1 H1 st i h1 => ?_)
  unfold asB at h1
  cases d with
  | bl k =>
    refine ⟨k, is_bl i, ?_⟩
    cases k with
    | true => exact hb.rf ρ1 σ H1 s G1 Q st.rel (S.step R st) h1
    | false => exact Run.ret (Ok := okD ⟨X.K, Ts, fw X.w⟩) st.rel h1 isBl
  | _ => exact h1.elim
theorem de_or {rest : List Expr} (ha : DE X Ts E a ta ma) (hb : DE X Ts E (.BoolOp .Or (b :: rest) pos) tb mb) : DE X Ts E (.BoolOp .Or (a :: b :: rest) pos) (tOrV ta tb) (fun s => bnd (ma s) fun d => bnd (asB d) fun x => if x then pur (.bl true) else mb s) := by
  refine ⟨pe_or ha.pe hb.pe, fun ρ σ H s G Q R S h => ?_⟩
  refine ha.rf ρ σ H s G _ R S (Run.first h fun d G1 v ρ1 H1 st i h1 => ?_)
  unfold asB at h1
  cases d with
  | bl k =>
    refine ⟨k, is_bl i, ?_⟩
    cases k with
    | true => exact Run.ret (Ok := okD ⟨X.K, Ts, fw X.w⟩) st.rel h1 isBl
    | false => exact hb.rf ρ1 σ H1 s G1 Q st.rel (S.step R st) h1
  | _ => exact h1.elim
theorem de_if (hc : DT X Ts E c t mt) (ha : DE X Ts E a ta ma) (hb : DE X Ts E b tb mb) : DE X Ts E (.IfExp c a b pos) (tIf t ta tb) (fun s => bnd (mt s) fun x => if x then ma s else mb s) := by
  refine ⟨pe_ifExp hc.pe ha.pe hb.pe, fun ρ σ H s G Q R S h => ?_⟩
  refine hc.rf ρ σ H s G _ R S (Run.first h fun d G1 v ρ1 H1 st i h1 => ?_)
  have i : d = v := i
  subst i
  cases d with
  | true => exact ha.rf ρ1 σ H1 s G1 Q st.rel (S.step R st) h1
  | false => exact hb.rf ρ1 σ H1 s G1 Q st.rel (S.step R st) h1
/-- a op1 b op2 c -/
theorem rf_chain {r r' : R2} {o o' : D → D → M D} (hd : OpD ⟨X.K, Ts, fw X.w⟩ r o) (hd' : OpD ⟨X.K, Ts, fw X.w⟩ r' o') (ha : DE X Ts E a ta ma) (hb : DE X Ts E b tb mb) (hc : DE X Ts E c tc mc) :
    ∀ ρ σ H s G Q, Rel ⟨X.K, Ts, fw X.w⟩ ρ G H → Sls X.K ρ H σ s → Run ⟨X.K, Ts, fw X.w⟩ ρ H (okD ⟨X.K, Ts, fw X.w⟩) (bnd (ma s) (fun x => bnd (mb s) fun y => bnd (o x y) fun d => bnd (asB d) fun k => if k then bnd (mc s) (fun z => o' y z) else pur (.bl false)) G) Q E → tChain r r' ta tb tc σ H Q := by
  intro ρ σ H s G Q R S h
  refine ha.rf ρ σ H s G _ R S (Run.first h fun x G1 u ρ1 H1 st i h1 => ?_)
  refine hb.rf ρ1 σ H1 s G1 _ st.rel (S.step R st) (Run.first h1 fun y G2 v ρ2 H2 st2 j h2 => ?_)
  refine hd ρ2 G2 H2 x y u v _ E st2.rel (Is.step st.rel st2 i) j (Run.first h2 fun d G3 w ρ3 H3 st3 l h3 => ?_)
  unfold asB at h3
  cases d with
  | bl k =>
    refine ⟨k, is_bl l, ?_⟩
    cases k with
    | true =>
      rw [if_pos rfl]
      refine hc.rf ρ3 σ H3 s G3 _ st3.rel (((S.step R st).step st.rel st2).step st2.rel st3) (Run.first h3 fun z G4 w4 ρ4 H4 st4 l4 h4 => ?_)
      exact hd' ρ4 G4 H4 y z v w4 Q E st4.rel (Is.step st3.rel st4 (Is.step st2.rel st3 j)) l4 h4
    | false =>
      rw [if_neg Bool.false_ne_true]
      exact Run.ret (Ok := okD ⟨X.K, Ts, fw X.w⟩) st3.rel h3 isBl
  | _ => exact h3.elim
theorem de_chain {op op' : CmpOp} {r r' : R2} {o o' : D → D → M D} (ho : OpR X (compareOp op) r) (ho' : OpR X (compareOp op') r') (hd : OpD ⟨X.K, Ts, fw X.w⟩ r o) (hd' : OpD ⟨X.K, Ts, fw X.w⟩ r' o') (ha : DE X Ts E a ta ma) (hb : DE X Ts E b tb mb) (hc : DE X Ts E c tc mc)
    (hm : lastMarks [op, op'] [b, c] = false := by with_unfolding_all rfl) : DE X Ts E (.Compare a [op, op'] [b, c] pos) (tChain r r' ta tb tc) (fun s => bnd (ma s) fun x => bnd (mb s) fun y => bnd (o x y) fun d => bnd (asB d) fun k => if k then bnd (mc s) (fun z => o' y z) else pur (.bl false)) :=
  ⟨pe_chain ho ho' ha.pe hb.pe hc.pe hm, rf_chain hd hd' ha hb hc⟩
theorem da_nil : DA X Ts E [] tNil (fun _ => pur []) := ⟨pa_nil, fun ρ σ H s G Q R S h => Run.ret (Ok := okL ⟨X.K, Ts, fw X.w⟩) R h .nil⟩
variable {tr : TA} {mr : Sl → M (List D)}
theorem da_cons (ha : DE X Ts E e te me) (hr : DA X Ts E es tr mr) (hs : starEach (e :: es) X.env = (false, eval e X.env) :: starEach es X.env := by rfl) : DA X Ts E (e :: es) (tCons te tr) (fun s => bnd (me s) fun x => bnd (mr s) fun r => pur (x :: r)) := by
  refine ⟨pa_cons ha.pe hr.pe hs, fun ρ σ H s G Q R S h => ?_⟩
  refine ha.rf ρ σ H s G _ R S (Run.first h fun x G1 u ρ1 H1 st i h1 => ?_)
  refine hr.rf ρ1 σ H1 s G1 _ st.rel (S.step R st) (Run.first h1 fun y G2 v ρ2 H2 st2 j h2 => ?_)
  exact Run.ret (Ok := okL ⟨X.K, Ts, fw X.w⟩) st2.rel h2 (.cons (Is.step st.rel st2 i) j)
def mkT (ds : List D) : M D := fun g => if ds.length ≤ LIM then .ok (.tup ds) g else .bad
def mkL (ds : List D) : M D := fun g => if ds.length ≤ LIM then .ok (.ref g.length) (g ++ [.lst ds]) else .bad
theorem de_tup {k : Nat} (ha : DA X Ts E es tr mr) : DE X Ts E (.Tuple es k pos) (tTup tr) (fun s => bnd (mr s) mkT) := by
  refine ⟨pe_tup ha.pe, fun ρ σ H s G Q R S h => ?_⟩
  refine ha.rf ρ σ H s G _ R S (Run.map R h fun ds G1 vs ρ1 H1 R1 i h1 => ?_)
  have i : IsL X.K ρ1 H1 ds vs := i
  unfold mkT at h1
  split at h1
  · rename_i hc
    exact ⟨by rw [← i.len]; exact lim_ok hc, Run.newT (C := ⟨X.K, Ts, fw X.w⟩) R1 h1 i⟩
  · exact h1.elim
theorem de_lst (ha : DA X Ts E es tr mr) : DE X Ts E (.List es pos) (tLst tr) (fun s => bnd (mr s) mkL) := by
  refine ⟨pe_lst ha.pe, fun ρ σ H s G Q R S h => ?_⟩
  refine ha.rf ρ σ H s G _ R S (Run.map R h fun ds G1 vs ρ1 H1 R1 i h1 => ?_)
  have i : IsL X.K ρ1 H1 ds vs := i
  unfold mkL at h1
  split at h1
  · rename_i hc
    exact ⟨by rw [← i.len]; exact lim_ok hc, Run.newL (C := ⟨X.K, Ts, fw X.w⟩) R1 h1 i⟩
  · exact h1.elim
theorem IsL.atI {K : PySem.W.Frag} {ρ : List Addr} {H : Hp} {ds : List D} {vs : List V} {i : Int} {d : D} (h : IsL K ρ H ds vs) (e : L2.atI ds i = some d) : ∃ v, L2.atI vs i = some v ∧ Is K ρ H d v := by
  unfold L2.atI at e ⊢
  rw [← h.len]
  cases q : ixN ds.length i with
  | none => rw [q] at e; cases e
  | some j =>
    rw [q] at e
    exact h.get (i := j) e
def ixD (x y : D) : M D := fun g => match x, y with
  | .tup ds, .int i => match atI ds i with
    | some d => .ok d g
    | none => .bad
  | .ref n, .int i => match g[n]? with
    | some (.lst ds) => match atI ds i with
      | some d => .ok d g
      | none => .bad
    | _ => .bad
  | .str z, .int i => if z.length ≤ LIM then match atI z.cps.toList i with
      | some k => .ok (.str ⟨#[k]⟩) g
      | none => .bad
    else .bad
  | _, _ => .bad
theorem opd_ix : OpD C (rIx C.K) ixD := by
  intro ρ G H x y u v Q E R i j h
  unfold ixD at h
  split at h
  · rename_i ds k
    obtain ⟨p, vs, rfl, hp, hl⟩ := is_tup i
    split at h
    · rename_i d e
      obtain ⟨w, e1, e2⟩ := hl.atI e
      exact .inr (.inl ⟨p, vs, k, w, rfl, is_int j, hp, e1, Run.ret (Ok := okD C) R h e2⟩)
    · exact h.elim
  · rename_i n k
    split at h
    · rename_i ds e0
      obtain ⟨p, vs, rfl, _, hp, hl⟩ := R.lst e0 i
      split at h
      · rename_i d e
        obtain ⟨w, e1, e2⟩ := hl.atI e
        exact .inl ⟨p, vs, k, w, rfl, is_int j, SqL.of hp, e1, Run.ret (Ok := okD C) R h e2⟩
      · exact h.elim
    · exact h.elim
  · rename_i z k
    split at h
    · rename_i hc
      split at h
      · rename_i q e
        exact .inr (.inr ⟨z, k, q, is_str i, is_int j, lim_ok hc, e, Run.ret (Ok := okD C) R h isStr⟩)
      · exact h.elim
    · exact h.elim
  · exact h.elim
theorem de_ix (ha : DE X Ts E a ta ma) (hb : DE X Ts E b tb mb) (hs : PlainIx b) : DE X Ts E (.Subscript a b pos) (tOp (rIx X.K) ta tb) (fun s => bnd (ma s) fun x => bnd (mb s) fun y => ixD x y) :=
  ⟨pe_ix ix_seq ha.pe hb.pe hs, rf_op (opd_ix (C := ⟨X.K, Ts, fw X.w⟩)) ha hb⟩
theorem do_none : DO X Ts E none tNoPart (fun _ => pur none) := ⟨po_none, fun ρ σ H s G Q R S h => Run.ret (Ok := okO) R h rfl⟩
def asI (d : D) : M (Option Int) := match d with
  | .int i => pur (some i)
  | _ => fail
theorem do_some (he : DE X Ts E e te me) : DO X Ts E (some e) (tPart te) (fun s => bnd (me s) asI) := by
  refine ⟨po_some he.pe, fun ρ σ H s G Q R S h => ?_⟩
  refine he.rf ρ σ H s G _ R S (Run.map R h fun d G1 v ρ1 H1 R1 i h1 => ?_)
  unfold asI at h1
  split at h1
  · exact ⟨_, is_int i, Run.ret (Ok := okO) R1 h1 rfl⟩
  · exact h1.elim
def cutD {α : Type} (xs : List α) (lo hi : Option Int) : List α := (xs.drop (HT.sIx xs.length 0 lo)).take (HT.sIx xs.length xs.length hi - HT.sIx xs.length 0 lo)
theorem IsL.cut {K : PySem.W.Frag} {ρ : List Addr} {H : Hp} {ds : List D} {vs : List V} {lo hi : Option Int} (h : IsL K ρ H ds vs) : IsL K ρ H (cutD ds lo hi) (cutV vs lo hi) := by
  unfold cutD cutV
  rw [← h.len]
  exact (h.drop _).take _
theorem cut_whole {α : Type} {xs : List α} {lo hi : Option Int} (h : HT.sIx xs.length 0 lo = 0 ∧ HT.sIx xs.length xs.length hi = xs.length) : cutD xs lo hi = xs := by
  unfold cutD
  rw [h.1, h.2]
  simp
def slD (x : D) (lo hi : Option Int) : M D := fun g => match x with
  | .tup ds => .ok (.tup (cutD ds lo hi)) g
  | .ref n => match g[n]? with
    | some (.lst ds) => .ok (.ref g.length) (g ++ [.lst (cutD ds lo hi)])
    | _ => .bad
  | _ => .bad
abbrev rSlAll (K : PySem.W.Frag) : V → Option Int → Option Int → Hp → VK → Prop := fun x lo hi H Q => rSlA K x lo hi H Q ∨ rSlL K x lo hi H Q
theorem rf_sl {ρ : List Addr} {G : GS} {H : Hp} {x : D} {v : V} {lo hi : Option Int} {Q : VK} (R : Rel C ρ G H) (i : Is C.K ρ H x v) (h : Run C ρ H (okD C) (slD x lo hi G) Q E) : rSlAll C.K v lo hi H Q := by
  unfold slD at h
  split at h
  · rename_i ds
    obtain ⟨p, vs, rfl, hp, hl⟩ := is_tup i
    refine .inl ⟨p, vs, rfl, hp, fun w => ?_, fun _ => Run.newT R h hl.cut⟩
    rw [← hl.len] at w
    rw [cut_whole w] at h
    exact Run.ret (Ok := okD C) R h (isTup hp hl)
  · split at h
    · rename_i ds e0
      obtain ⟨p, vs, rfl, _, hp, hl⟩ := R.lst e0 i
      exact .inr ⟨p, vs, rfl, SqL.of hp, Run.newL R h hl.cut⟩
    · exact h.elim
  · exact h.elim
variable {tl th : TO} {ml mh : Sl → M (Option Int)} {lo hi : Option Expr} {p2 : Pos}
theorem de_sl (he : DE X Ts E e te me) (hl : DO X Ts E lo tl ml) (hh : DO X Ts E hi th mh) : DE X Ts E (.Subscript e (.Slice lo hi none p2) pos) (tSl (rSlAll X.K) te tl th) (fun s => bnd (me s) fun x => bnd (ml s) fun l => bnd (mh s) fun u => slD x l u) := by
  refine ⟨pe_slice (sl_tupA.or sl_list) he.pe hl.pe hh.pe, fun ρ σ H s G Q R S h => ?_⟩
  refine he.rf ρ σ H s G _ R S (Run.first h fun x G1 u ρ1 H1 st i h1 => ?_)
  refine hl.rf ρ1 σ H1 s G1 _ st.rel (S.step R st) (Run.first h1 fun l G2 l' ρ2 H2 st2 j h2 => ?_)
  have j : l = l' := j
  subst j
  refine hh.rf ρ2 σ H2 s G2 _ st2.rel ((S.step R st).step st.rel st2) (Run.first h2 fun l2 G3 l2' ρ3 H3 st3 j3 h3 => ?_)
  have j3 : l2 = l2' := j3
  subst j3
  exact rf_sl (C := ⟨X.K, Ts, fw X.w⟩) st3.rel (Is.step st2.rel st3 (Is.step st.rel st2 i)) h3
end
end DL
namespace DL
open PySem PySem.Spec PyProof.Rows L2
open Classical
noncomputable section
variable {X : Cx} {Ts : List Addr} {E : XK} {a b c e : Expr} {ta tb tc te : TE} {ma mb mc me : Sl → M D} {pos : Pos} {C : Ct} {es : List Expr} {t u : TT} {mt mu : Sl → M Bool} {tr : TA} {mr : Sl → M (List D)}
structure Itm where
  items : List D
  watch : Option (Nat × List D)
def Itm.ok (w : Itm) (g : GS) : Prop := match w.watch with
  | none => True
  | some (n, ds) => g[n]? = some (.lst ds)
structure Walk (C : Ct) (w : Itm) (ρ0 : List Addr) (H0 : Hp) (J : It) : Prop where
  go : ∀ i ρ G H d, Step C ρ0 H0 ρ G H → w.ok G → w.items[i]? = some d → J.go i H
  yld : ∀ i ρ G H x H' d, Step C ρ0 H0 ρ G H → w.ok G → w.items[i]? = some d → J.yld i H x H' → Step C ρ H ρ G H' ∧ Is C.K ρ H' d x
  stop : ∀ ρ G H, Step C ρ0 H0 ρ G H → w.ok G → J.stop w.items.length H
abbrev okW (C : Ct) : List Addr → Hp → Itm → It → Prop := fun ρ H w J => Walk C w ρ H J
structure DI (X : Cx) (Ts : List Addr) (E : XK) (tg iter : Expr) (wi : TI) (m : Sl → M Itm) : Prop where
  pe : PI X tg iter wi
  rf : ∀ ρ σ H s G R, Rel ⟨X.K, Ts, fw X.w⟩ ρ G H → Sls X.K ρ H σ s → Run ⟨X.K, Ts, fw X.w⟩ ρ H (okW ⟨X.K, Ts, fw X.w⟩) (m s G) R E → wi σ H R
/-- a list or a tuple -/
def iSeq (K : PySem.W.Frag) (tl : TE) : TI := fun σ H R => tl σ H fun x H1 => ∃ p, x = .ref p ∧ ((∃ xs, SqL K H1 p xs) ∧ R (Itl K p) H1 ∨ (∃ xs, SqT K H1 p xs) ∧ R (Itt K p) H1)
theorem pi_seq {tg l : Expr} {tl : TE} (hl : PE X l tl) : PI X tg l (iSeq X.K tl) := by
  refine ⟨fun pins s σ H R I h => thn (hl.run pins s σ H _ I h) fun v s1 ⟨x, H1, I1, r1, p, ex, q⟩ => ?_⟩
  subst ex
  cases (show v = Value.ref p from r1)
  rcases q with ⟨⟨xs, hq⟩, q⟩ | ⟨⟨xs, hq⟩, q⟩
  · obtain ⟨its, rv, pl, hz⟩ := I1.list hq
    exact wpAny_pyIter_list pl.isList ⟨s1.heap.objs.size, [s1.heap.objs.size], _, _, H1, rfl, I1.kept (t' := s1.toks) fun b o e => Heap.get?_push_of_some _ e, turn_list p _, ⟨_, Heap.get?_push_size _ rfl, rfl, rfl⟩, fun b hb => by
      rw [List.mem_singleton.mp hb]
      exact I1.fpOk (Nat.le_refl _) (I1.hok.fresh (Nat.le_refl _)), q⟩
  · obtain ⟨its, rv, pl, hz⟩ := I1.tuple hq
    exact wpAny_pyIter_tuple (show s1.heap.IsTuple p its.toArray from pl) ⟨s1.heap.objs.size, [s1.heap.objs.size], _, _, H1, rfl, I1.kept (t' := s1.toks) fun b o e => Heap.get?_push_of_some _ e, turn_tuple p _, ⟨_, Heap.get?_push_size _ rfl, rfl, rfl⟩, fun b hb => by
      rw [List.mem_singleton.mp hb]
      exact I1.fpOk (Nat.le_refl _) (I1.hok.fresh (Nat.le_refl _)), q⟩
def seqW (d : D) : M Itm := fun g => match d with
  | .tup ds => .ok ⟨ds, none⟩ g
  | .scr ns => .ok ⟨ns.map D.int, none⟩ g
  | .ref n => match g[n]? with
    | some (.lst ds) => .ok ⟨ds, some (n, ds)⟩ g
    | _ => .bad
  | _ => .bad
theorem walk_tup {ρ : List Addr} {G : GS} {H : Hp} {p : Addr} {vs : List V} {ds : List D} (R : Rel C ρ G H) (hp : SqT C.K H p vs) (hl : IsL C.K ρ H ds vs) : Walk C ⟨ds, none⟩ ρ H (Itt C.K p) := by
  refine ⟨fun i ρ1 G1 H1 d st ok hd => ?_, fun i ρ1 G1 H1 x H' d st ok hd y => ?_, fun ρ1 G1 H1 st ok => ?_⟩
  · obtain ⟨w, e1, _⟩ := hl.get hd
    exact ⟨vs, w, st.sqt R hp, e1⟩
  · obtain ⟨rfl, y⟩ := y
    obtain ⟨w, e1, e2⟩ := (hl.step R st).get hd
    have e3 := y vs (st.sqt R hp)
    rw [e1] at e3
    cases e3
    exact ⟨Step.refl st.rel, e2⟩
  · exact ⟨vs, st.sqt R hp, by rw [← hl.len]; exact Nat.le_refl _⟩
theorem ints_get {ns : List Int} {i : Nat} {d : D} (h : (ns.map D.int)[i]? = some d) : ∃ n, d = .int n ∧ (ns.map V.int)[i]? = some (.int n) := by
  rw [List.getElem?_map] at h
  cases e : ns[i]? with
  | none => rw [e] at h; cases h
  | some n =>
    rw [e] at h
    cases h
    exact ⟨n, rfl, by rw [List.getElem?_map, e]; rfl⟩
theorem walk_scr {ρ : List Addr} {G : GS} {H : Hp} {p : Addr} {ns : List Int} (R : Rel C ρ G H) (hp : FzL C.K H p (ns.map V.int)) : Walk C ⟨ns.map D.int, none⟩ ρ H (Itl C.K p) := by
  refine ⟨fun i ρ1 G1 H1 d st ok hd => ?_, fun i ρ1 G1 H1 x H' d st ok hd y => ?_, fun ρ1 G1 H1 st ok => ?_⟩
  · obtain ⟨n, rfl, e1⟩ := ints_get hd
    exact ⟨_, _, (st.ext.fzl R hp).sql, e1⟩
  · obtain ⟨rfl, y⟩ := y
    obtain ⟨n, rfl, e1⟩ := ints_get hd
    have e3 := y _ (st.ext.fzl R hp).sql
    rw [e1] at e3
    cases e3
    exact ⟨Step.refl st.rel, isInt⟩
  · refine ⟨_, (st.ext.fzl R hp).sql, ?_⟩
    show (ns.map V.int).length ≤ (ns.map D.int).length
    simp
theorem walk_lst {ρ : List Addr} {G : GS} {H : Hp} {p : Addr} {n : Nat} {ds : List D} (R : Rel C ρ G H) (hp : ρ[n]? = some p) : Walk C ⟨ds, some (n, ds)⟩ ρ H (Itl C.K p) := by
  have at_ : ∀ {ρ1 : List Addr} {G1 : GS} {H1 : Hp}, Step C ρ H ρ1 G1 H1 → (⟨ds, some (n, ds)⟩ : Itm).ok G1 → ∃ vs, H1 p = some (.lst vs) ∧ IsL C.K ρ1 H1 ds vs := fun {ρ1 G1 H1} st ok => by
    have i : Is C.K ρ1 H1 (.ref n) (.ref p) := by simp only [Is]; exact ⟨p, rfl, ix_pre st.pre hp⟩
    obtain ⟨q, vs, e, _, h1, h2⟩ := st.rel.lst ok i
    cases e
    exact ⟨vs, h1, h2⟩
  refine ⟨fun i ρ1 G1 H1 d st ok hd => ?_, fun i ρ1 G1 H1 x H' d st ok hd y => ?_, fun ρ1 G1 H1 st ok => ?_⟩
  · obtain ⟨vs, h1, h2⟩ := at_ st ok
    obtain ⟨w, e1, _⟩ := h2.get hd
    exact ⟨vs, w, SqL.of h1, e1⟩
  · obtain ⟨rfl, y⟩ := y
    obtain ⟨vs, h1, h2⟩ := at_ st ok
    obtain ⟨w, e1, e2⟩ := h2.get hd
    have e3 := y vs (SqL.of h1)
    rw [e1] at e3
    cases e3
    exact ⟨Step.refl st.rel, e2⟩
  · obtain ⟨vs, h1, h2⟩ := at_ st ok
    exact ⟨vs, SqL.of h1, by rw [← h2.len]; exact Nat.le_refl _⟩
theorem di_seq {tg : Expr} (he : DE X Ts E e te me) : DI X Ts E tg e (iSeq X.K te) (fun s => bnd (me s) seqW) := by
  refine ⟨pi_seq he.pe, fun ρ σ H s G Rk R S h => ?_⟩
  refine he.rf ρ σ H s G _ R S (Run.map R h fun d G1 v ρ1 H1 R1 i h1 => ?_)
  unfold seqW at h1
  cases d with
  | tup ds =>
    obtain ⟨p, vs, rfl, hp, hl⟩ := is_tup i
    exact ⟨p, rfl, .inr ⟨⟨vs, hp⟩, Run.ret (Ok := okW ⟨X.K, Ts, fw X.w⟩) R1 h1 (walk_tup (C := ⟨X.K, Ts, fw X.w⟩) R1 hp hl)⟩⟩
  | scr ns =>
    simp only [Is] at i
    obtain ⟨p, rfl, hp⟩ := i
    exact ⟨p, rfl, .inl ⟨⟨_, hp.sql⟩, Run.ret (Ok := okW ⟨X.K, Ts, fw X.w⟩) R1 h1 (walk_scr (C := ⟨X.K, Ts, fw X.w⟩) R1 hp)⟩⟩
  | ref n =>
    dsimp only at h1
    split at h1
    · rename_i ds e1
      obtain ⟨p, vs, rfl, hn, hp, hl⟩ := R1.lst e1 i
      exact ⟨p, rfl, .inl ⟨⟨vs, SqL.of hp⟩, Run.ret (Ok := okW ⟨X.K, Ts, fw X.w⟩) R1 h1 (walk_lst (C := ⟨X.K, Ts, fw X.w⟩) R1 hn)⟩⟩
    · exact h1.elim
  | _ => exact h1.elim
/-- range -/
def rngItems (lo hi : Int) : List D := (List.range (hi - lo).toNat).map fun i => .int (lo + (i : Nat))
theorem walk_rng {ρ : List Addr} {G : GS} {H : Hp} {lo hi : Int} (R : Rel C ρ G H) : Walk C ⟨rngItems lo hi, none⟩ ρ H (Itr lo (hi - lo).toNat) := by
  have get : ∀ {i : Nat} {d : D}, (rngItems lo hi)[i]? = some d → i < (hi - lo).toNat ∧ d = .int (lo + (i : Nat)) := fun {i d} h => by
    unfold rngItems at h
    rw [List.getElem?_map] at h
    by_cases hi' : i < (hi - lo).toNat
    · rw [List.getElem?_range hi'] at h
      cases h
      exact ⟨hi', rfl⟩
    · rw [List.getElem?_eq_none (by simpa using hi')] at h
      cases h
  refine ⟨fun i ρ1 G1 H1 d st ok hd => (get hd).1, fun i ρ1 G1 H1 x H' d st ok hd y => ?_, fun ρ1 G1 H1 st ok => ?_⟩
  · obtain ⟨rfl, rfl⟩ := y
    rw [(get hd).2]
    exact ⟨Step.refl st.rel, isInt⟩
  · show (hi - lo).toNat ≤ (rngItems lo hi).length
    unfold rngItems
    simp
def rngW (ds : List D) : M Itm := fun g => match ds with
  | [.int j] => if -(2 ^ 62) ≤ j ∧ j < 2 ^ 62 then .ok ⟨rngItems 0 j, none⟩ g else .bad
  | [.int i, .int j] => if (-(2 ^ 62) ≤ i ∧ i < 2 ^ 62) ∧ (-(2 ^ 62) ≤ j ∧ j < 2 ^ 62) then .ok ⟨rngItems i j, none⟩ g else .bad
  | _ => .bad
theorem isl_one {K : PySem.W.Frag} {ρ : List Addr} {H : Hp} {d : D} {vs : List V} (h : IsL K ρ H [d] vs) : ∃ v, vs = [v] ∧ Is K ρ H d v := by
  simp only [IsL] at h
  obtain ⟨v, r, rfl, h1, rfl⟩ := h
  exact ⟨v, rfl, h1⟩
theorem isl_two {K : PySem.W.Frag} {ρ : List Addr} {H : Hp} {d d2 : D} {vs : List V} (h : IsL K ρ H [d, d2] vs) : ∃ v w, vs = [v, w] ∧ Is K ρ H d v ∧ Is K ρ H d2 w := by
  simp only [IsL] at h
  obtain ⟨v, r, rfl, h1, w, r2, rfl, h2, rfl⟩ := h
  exact ⟨v, w, rfl, h1, h2⟩
theorem di_range1 {tg : Expr} {p pos : Pos} (hg : Gl X "range") (hm : X.mg "range" = none) (ha : DA X Ts E [a] tr mr) (hs : starEach [a] X.env = [(false, eval a X.env)] := by rfl) : DI X Ts E tg (.Call (.Name "range" p) [a] [] pos) (iRng1 tr) (fun s => bnd (mr s) fun ds => match ds with | [d] => rngW [d] | _ => fail) := by
  refine ⟨pi_range1 hg hm ha.pe hs, fun ρ σ H s G Rk R S h => ?_⟩
  refine ha.rf ρ σ H s G _ R S (Run.map R h fun ds G1 vs ρ1 H1 R1 i h1 => ?_)
  split at h1
  · rename_i d
    unfold rngW at h1
    split at h1
    · rename_i j heq
      cases heq
      obtain ⟨v, rfl, i2⟩ := isl_one i
      split at h1
      · rename_i hc
        have q := Run.ret (Ok := okW ⟨X.K, Ts, fw X.w⟩) R1 h1 (walk_rng (C := ⟨X.K, Ts, fw X.w⟩) R1)
        rw [Int.sub_zero] at q
        exact ⟨j, by rw [is_int i2], hc.1, hc.2, q⟩
      · exact h1.elim
    · rename_i heq
      cases heq
    · exact h1.elim
  · exact h1.elim
/-- a target: what it makes of the slots; own: the slots that it stores -/
abbrev okG (C : Ct) (own : List Nat) (σ : L2.St) : List Addr → Hp → Sl → L2.St → Prop := fun ρ' H' s' σ' => Sls C.K ρ' H' σ' s' ∧ σ'.length = σ.length ∧ ∀ i, i ∉ own → σ'[i]? = σ[i]?
structure DG (X : Cx) (Ts : List Addr) (E : XK) (tg : Expr) (g : TG) (mg : D → Sl → M Sl) (own : List Nat) : Prop where
  pe : PG X tg g
  rf : ∀ ρ σ H s G d v (Q : L2.St → Hp → Prop), Rel ⟨X.K, Ts, fw X.w⟩ ρ G H → Sls X.K ρ H σ s → Is X.K ρ H d v → Run ⟨X.K, Ts, fw X.w⟩ ρ H (okG ⟨X.K, Ts, fw X.w⟩ own σ) (mg d s G) Q E → g v σ H Q
def tgN (i : Nat) (d : D) (s : Sl) : M Sl := pur (s.set i (some d))
theorem dg_name {i : Nat} {x : Str} (pe : PG X (.Name x pos) (gName i)) : DG X Ts E (.Name x pos) (gName i) (tgN i) [i] := by
  refine ⟨pe, fun ρ σ H s G d v Q R S i' h => ?_⟩
  exact h (σ.set i (some v)) ρ H (Step.refl R) ⟨S.set i', List.length_set, fun j hj => by
    rw [List.getElem?_set_ne]
    intro e
    subst e
    exact hj (List.mem_singleton.mpr rfl)⟩
/-- a, b = .. -/
def tgT2 (i j : Nat) (d : D) (s : Sl) : M Sl := match d with
  | .tup [x, y] => pur ((s.set i (some x)).set j (some y))
  | _ => fail
def tgT3 (i j k : Nat) (d : D) (s : Sl) : M Sl := match d with
  | .tup [x, y, z] => pur (((s.set i (some x)).set j (some y)).set k (some z))
  | _ => fail
theorem set_out {α : Type} {l : List α} {i j : Nat} {x : α} {own : List Nat} (hi : i ∈ own) (hj : j ∉ own) : (l.set i x)[j]? = l[j]? := by
  rw [List.getElem?_set_ne]
  intro e
  subst e
  exact hj hi
theorem dg_tup2 {i j k : Nat} {x y : Expr} (pe : PG X (.Tuple [x, y] k pos) (gTup X.K 2 (gCons (gName i) (gCons (gName j) gNil)))) : DG X Ts E (.Tuple [x, y] k pos) (gTup X.K 2 (gCons (gName i) (gCons (gName j) gNil))) (tgT2 i j) [i, j] := by
  refine ⟨pe, fun ρ σ H s G d v Q R S i' h => ?_⟩
  unfold tgT2 at h
  split at h
  · rename_i d d1 d2
    obtain ⟨p, vs, rfl, hp, hl⟩ := is_tup i'
    obtain ⟨v1, v2, rfl, h1, h2⟩ := isl_two hl
    refine ⟨p, _, rfl, hp, rfl, v1, [v2], rfl, v2, [], rfl, rfl, ?_⟩
    refine h _ ρ H (Step.refl R) ⟨(S.set h1).set h2, by simp, fun n hn => ?_⟩
    rw [set_out (List.mem_cons_of_mem _ List.mem_cons_self) hn, set_out List.mem_cons_self hn]
  · exact h.elim
theorem isl_three {K : PySem.W.Frag} {ρ : List Addr} {H : Hp} {d d2 d3 : D} {vs : List V} (h : IsL K ρ H [d, d2, d3] vs) : ∃ v w u, vs = [v, w, u] ∧ Is K ρ H d v ∧ Is K ρ H d2 w ∧ Is K ρ H d3 u := by
  simp only [IsL] at h
  obtain ⟨v, r, rfl, h1, w, r2, rfl, h2, u, r3, rfl, h3, rfl⟩ := h
  exact ⟨v, w, u, rfl, h1, h2, h3⟩
theorem dg_tup3 {i j l k : Nat} {x y z : Expr} (pe : PG X (.Tuple [x, y, z] k pos) (gTup X.K 3 (gCons (gName i) (gCons (gName j) (gCons (gName l) gNil))))) : DG X Ts E (.Tuple [x, y, z] k pos) (gTup X.K 3 (gCons (gName i) (gCons (gName j) (gCons (gName l) gNil)))) (tgT3 i j l) [i, j, l] := by
  refine ⟨pe, fun ρ σ H s G d v Q R S i' h => ?_⟩
  unfold tgT3 at h
  split at h
  · rename_i d d1 d2 d3
    obtain ⟨p, vs, rfl, hp, hl⟩ := is_tup i'
    obtain ⟨v1, v2, v3, rfl, h1, h2, h3⟩ := isl_three hl
    refine ⟨p, _, rfl, hp, rfl, v1, [v2, v3], rfl, v2, [v3], rfl, v3, [], rfl, rfl, ?_⟩
    refine h _ ρ H (Step.refl R) ⟨((S.set h1).set h2).set h3, by simp, fun n hn => ?_⟩
    rw [set_out (by simp) hn, set_out (by simp) hn, set_out List.mem_cons_self hn]
  · exact h.elim
def wipeD (s : Sl) : List Nat → Sl
  | [] => s
  | v :: vs => (wipeD s vs).set v none
theorem Sls.wipe {K : PySem.W.Frag} {ρ : List Addr} {H : Hp} {σ : L2.St} {s : Sl} (S : Sls K ρ H σ s) : ∀ vs : List Nat, Sls K ρ H (L2.wipe σ vs) (wipeD s vs)
  | [] => S
  | v :: vs => (S.wipe vs).unset
theorem wipe_in {σ : L2.St} : ∀ {vs : List Nat} {i : Nat}, i ∈ vs → i < σ.length → (L2.wipe σ vs)[i]? = some none
  | v :: vs, i, hi, hl => by
    show ((L2.wipe σ vs).set v none)[i]? = some none
    by_cases e : v = i
    · subst e
      rw [List.getElem?_set_self (by rw [L2.wipe_length]; exact hl)]
    · rw [List.getElem?_set_ne e]
      exact wipe_in ((List.mem_cons.mp hi).resolve_left fun z => e z.symm) hl
theorem wipe_eq {σ τ : L2.St} {vs : List Nat} (hl : τ.length = σ.length) (h : ∀ i, i ∉ vs → τ[i]? = (L2.wipe σ vs)[i]?) : L2.wipe τ vs = L2.wipe σ vs := by
  apply List.ext_getElem?
  intro i
  by_cases hi : i ∈ vs
  · by_cases hb : i < σ.length
    · rw [wipe_in hi hb, wipe_in hi (by rw [hl]; exact hb)]
    · rw [List.getElem?_eq_none (by rw [L2.wipe_length, hl]; omega), List.getElem?_eq_none (by rw [L2.wipe_length]; omega)]
  · rw [L2.wipe_out hi]
    exact h i hi
/-- the elements of a comprehension, one after the other -/
def compM (w : Itm) (tg : D → Sl → M Sl) (cond : Sl → M Bool) (elt : Sl → M D) (s : Sl) : List D → M (List D)
  | [] => fun g => if w.ok g then .ok [] g else .bad
  | x :: xs => fun g => if w.ok g then match tg x s g with
      | .ok s1 g1 => match cond s1 g1 with
        | .ok true g2 => match elt s1 g2 with
          | .ok d g3 => match compM w tg cond elt s xs g3 with
            | .ok r g4 => .ok (d :: r) g4
            | .bad => .bad
            | .ex _ _ _ => .bad
          | _ => .bad
        | .ok false g2 => compM w tg cond elt s xs g2
        | _ => .bad
      | _ => .bad
    else .bad
/-- a clause's tests -/
structure DTs (X : Cx) (Ts : List Addr) (ifs : List Expr) (t : TT) (m : Sl → M Bool) : Prop where
  pe : PTs X ifs t
  rf : ∀ ρ σ H s G Q, Rel ⟨X.K, Ts, fw X.w⟩ ρ G H → Sls X.K ρ H σ s → Run ⟨X.K, Ts, fw X.w⟩ ρ H okB (m s G) Q E0 → t σ H Q
theorem dts_nil : DTs X Ts [] tYes (fun _ => pur true) := ⟨pts_nil, fun ρ σ H s G Q R S h => Run.ret (Ok := okB) R h rfl⟩
theorem dts_one (h : DT X Ts E0 c t mt) : DTs X Ts [c] t mt := ⟨pts_one h.pe, h.rf⟩
theorem compM_noex (w : Itm) (tg : D → Sl → M Sl) (cond : Sl → M Bool) (elt : Sl → M D) (s : Sl) : ∀ (xs : List D) (g : GS) (c : Addr) (d : D) (g' : GS), compM w tg cond elt s xs g ≠ .ex c d g'
  | [], g, c, d, g' => by
    unfold compM
    split <;> intro h <;> cases h
  | x :: xs, g, c, d, g' => by
    unfold compM
    split
    · split
      · split
        · split
          · split
            · intro h; cases h
            · intro h; cases h
            · intro h; cases h
          · intro h; cases h
        · exact compM_noex w tg cond elt s xs _ c d g'
        · intro h; cases h
      · intro h; cases h
    · intro h; cases h
/-- a comprehension's reading, the list at hand told by what is done with it -/
theorem rf_comp {wi : TI} {g : TG} {tt : TT} {te : TE} {vs : List Nat} {mi : Sl → M Itm} {tgm : D → Sl → M Sl} {mcond : Sl → M Bool} {melt : Sl → M D} {tg iter : Expr}
    (hi : DI X Ts E tg iter wi mi) (hg : ∀ ρ σ H s G d v (Q : L2.St → Hp → Prop), Rel ⟨X.K, Ts, fw X.w⟩ ρ G H → Sls X.K ρ H σ s → Is X.K ρ H d v → Run ⟨X.K, Ts, fw X.w⟩ ρ H (okG ⟨X.K, Ts, fw X.w⟩ vs σ) (tgm d s G) Q E0 → g v σ H Q)
    (ht : ∀ ρ σ H s G Q, Rel ⟨X.K, Ts, fw X.w⟩ ρ G H → Sls X.K ρ H σ s → Run ⟨X.K, Ts, fw X.w⟩ ρ H okB (mcond s G) Q E0 → tt σ H Q)
    (he : ∀ ρ σ H s G Q, Rel ⟨X.K, Ts, fw X.w⟩ ρ G H → Sls X.K ρ H σ s → Run ⟨X.K, Ts, fw X.w⟩ ρ H (okD ⟨X.K, Ts, fw X.w⟩) (melt s G) Q E0 → te σ H Q)
    {ρ : List Addr} {σ : L2.St} {H : Hp} {s : Sl} {G : GS} {Q : VK} (R : Rel ⟨X.K, Ts, fw X.w⟩ ρ G H) (S : Sls X.K ρ H σ s)
    (h : Run ⟨X.K, Ts, fw X.w⟩ ρ H (fun ρ' H' ds D => H D = none ∧ ∃ vs, H' D = some (.lst vs) ∧ D ∉ ρ' ∧ IsL X.K ρ' H' ds vs) (bnd (mi s) (fun w => bnd (compM w tgm mcond melt (wipeD s vs) w.items) fun ds => if ds.length ≤ LIM then pur ds else fail) G) (fun D H' => Q (.ref D) H') E) : tLc wi g tt te vs σ H Q := by
  refine hi.rf ρ σ H s G _ R S (Run.first h fun w G1 J ρ1 H1 st1 wk h1 => ?_)
  intro Dl hD
  have wk : Walk ⟨X.K, Ts, fw X.w⟩ w ρ1 H1 J := wk
  -- from turn i on, with acc so far
  let Word : Nat → Hp → Prop := fun i H' => ∃ ρ' G' acc vacc, Step ⟨X.K, Ts, fw X.w⟩ ρ1 H1 ρ' G' H' ∧ Dl ∉ ρ' ∧ H' Dl = some (.lst vacc) ∧ IsL X.K ρ' H' acc vacc ∧ i ≤ w.items.length ∧
    ∃ r G'', compM w tgm mcond melt (wipeD s vs) (w.items.drop i) G' = .ok r G'' ∧ (acc ++ r).length ≤ LIM ∧ ∀ ρ2 H2 vs2, Step ⟨X.K, Ts, fw X.w⟩ ρ1 H1 ρ2 G'' H2 → Dl ∉ ρ2 → H2 Dl = some (.lst vs2) → IsL X.K ρ2 H2 (acc ++ r) vs2 → Q (.ref Dl) H2
  have hDn : Dl ∉ ρ1 := fun z => by
    obtain ⟨o, e, _⟩ := st1.rel.there z
    rw [hD] at e; cases e
  have hstep : ∀ {ρ' : List Addr} {G' : GS} {H' H2 : Hp} {ρ2 : List Addr} {G2 : GS} {vacc : List V}, Step ⟨X.K, Ts, fw X.w⟩ ρ' H' ρ2 G2 H2 → Dl ∉ ρ' → H' Dl = some (.lst vacc) → H2 Dl = some (.lst vacc) ∧ Dl ∉ ρ2 := fun {ρ' G' H' H2 ρ2 G2 vacc} st hn e => by
    refine ⟨st.ext.keep Dl _ e hn (fun ps z => nomatch z), fun z => ?_⟩
    have := st.fresh Dl z hn
    rw [e] at this; cases this
  refine ⟨fun i m H' => m = w.items.length - i ∧ Word i H', ⟨w.items.length, by simp, ?_⟩, ?_⟩
  · -- the start
    have st2 : Step ⟨X.K, Ts, fw X.w⟩ ρ1 H1 ρ1 G1 (upd H1 Dl (.lst [])) := Step.lay st1.rel hD
    unfold bnd at h1
    cases e : compM w tgm mcond melt (wipeD s vs) w.items G1 with
    | bad => rw [e] at h1; exact h1.elim
    | ex c d g => exact absurd e (compM_noex _ _ _ _ _ _ _ _ _ _)
    | ok r G'' =>
      rw [e] at h1
      dsimp only at h1
      split at h1
      · rename_i hc
        refine ⟨ρ1, G1, [], [], st2, hDn, upd_same, .nil, Nat.zero_le _, r, G'', e, hc, fun ρ2 H2 vs2 st3 hn e2 i2 => ?_⟩
        exact h1 Dl ρ2 H2 st3 ⟨st1.back hD, vs2, e2, hn, i2⟩
      · exact h1.elim
  · rintro i m H' ⟨rfl, ρ', G', acc, vacc, st, hn, eD, hacc, hile, r, G'', er, hlen, fin⟩
    by_cases hi : i < w.items.length
    · have hd : w.items.drop i = w.items[i] :: w.items.drop (i + 1) := List.drop_eq_getElem_cons hi
      have hx : w.items[i]? = some w.items[i] := List.getElem?_eq_getElem hi
      rw [hd] at er
      unfold compM at er
      split at er
      · rename_i hok
        refine .inr ⟨wk.go i ρ' G' H' _ st hok hx, fun H2 => Word (i + 1) H2, fun H2 w2 => ⟨w.items.length - (i + 1), by omega, rfl, w2⟩, fun x H2 hy => ?_⟩
        obtain ⟨st2, hx2⟩ := wk.yld i ρ' G' H' x H2 _ st hok hx hy
        have S2 : Sls X.K ρ' H2 (L2.wipe σ vs) (wipeD s vs) := ((((S.step R st1).step st1.rel st).step st.rel st2).wipe vs)
        have st2' := st.trans st2
        obtain ⟨eD2, hn2⟩ := hstep (G' := G') st2 hn eD
        have hacc2 : IsL X.K ρ' H2 acc vacc := IsL.step st.rel st2 hacc
        refine hg ρ' (L2.wipe σ vs) H2 (wipeD s vs) G' _ x _ st2.rel S2 hx2 ?_
        cases e1 : tgm w.items[i] (wipeD s vs) G' with
        | bad => rw [e1] at er; cases er
        | ex _ _ _ => rw [e1] at er; cases er
        | ok s1 g1 =>
          rw [e1] at er
          intro σ3 ρ3 H3 st3 ⟨S3, hl3, hσ3⟩
          have hl3 : σ3.length = σ.length := by rw [hl3, L2.wipe_length]
          refine ⟨wipe_eq hl3 hσ3, ?_⟩
          obtain ⟨eD3, hn3⟩ := hstep (G' := G') st3 hn2 eD2
          have hacc3 : IsL X.K ρ3 H3 acc vacc := IsL.step st2.rel st3 hacc2
          refine ht ρ3 σ3 H3 s1 g1 _ st3.rel S3 ?_
          dsimp only at er
          cases e2 : mcond s1 g1 with
          | bad => rw [e2] at er; cases er
          | ex _ _ _ => rw [e2] at er; cases er
          | ok bb g2 =>
            rw [e2] at er
            intro b' ρ4 H4 st4 eb
            have eb : bb = b' := eb
            subst eb
            obtain ⟨eD4, hn4⟩ := hstep (G' := g1) st4 hn3 eD3
            have hacc4 : IsL X.K ρ4 H4 acc vacc := IsL.step st3.rel st4 hacc3
            have st04 := (st2'.trans st3).trans st4
            cases bb with
            | false =>
              rw [if_neg Bool.false_ne_true]
              exact ⟨ρ4, g2, acc, vacc, st04, hn4, eD4, hacc4, hi, r, G'', er, hlen, fin⟩
            | true =>
              rw [if_pos rfl]
              dsimp only at er
              refine he ρ4 σ3 H4 s1 g2 _ st4.rel (S3.step st3.rel st4) ?_
              cases e3 : melt s1 g2 with
              | bad => rw [e3] at er; cases er
              | ex _ _ _ => rw [e3] at er; cases er
              | ok d g3 =>
                rw [e3] at er
                intro y ρ5 H5 st5 iy
                have iy : Is X.K ρ5 H5 d y := iy
                obtain ⟨eD5, hn5⟩ := hstep (G' := g2) st5 hn4 eD4
                have hacc5 : IsL X.K ρ5 H5 acc vacc := IsL.step st4.rel st5 hacc4
                dsimp only at er
                cases e4 : compM w tgm mcond melt (wipeD s vs) (List.drop (i + 1) w.items) g3 with
                | bad => rw [e4] at er; cases er
                | ex _ _ _ => rw [e4] at er; cases er
                | ok r' g4 =>
                  rw [e4] at er
                  cases er
                  have hlim : acc.length < LIM := by
                    rw [List.length_append, List.length_cons] at hlen
                    omega
                  refine ⟨vacc, eD5, by rw [← hacc5.len]; exact lim_lt hlim, ?_⟩
                  obtain ⟨st6, x6⟩ := Step.hidden (ws := vacc ++ [y]) st1.rel (st04.trans st5) hD hn5 eD5
                  refine ⟨ρ5, g3, acc ++ [d], vacc ++ [y], st6, hn5, upd_same, (hacc5.app (.cons iy .nil)).mono (List.prefix_refl _) x6, hi, r', _, e4, ?_, ?_⟩
                  · rw [List.append_assoc]
                    exact hlen
                  · rw [List.append_assoc]
                    exact fin
      · cases er
    · have e : i = w.items.length := by omega
      subst e
      rw [List.drop_length] at er
      unfold compM at er
      split at er
      · rename_i hok
        cases er
        rw [List.append_nil] at fin
        exact .inl ⟨wk.stop ρ' G' H' st hok, fin ρ' H' vacc st hn eD hacc⟩
      · cases er
def compD (mi : Sl → M Itm) (tgm : D → Sl → M Sl) (mcond : Sl → M Bool) (melt : Sl → M D) (vs : List Nat) (s : Sl) : M (List D) := bnd (mi s) fun w => bnd (compM w tgm mcond melt (wipeD s vs) w.items) fun ds => if ds.length ≤ LIM then pur ds else fail
def newL (ds : List D) : M D := fun g => .ok (.ref g.length) (g ++ [.lst ds])
/-- the hidden list comes to light -/
theorem Step.adopt {ρ ρ1 : List Addr} {G1 : GS} {H H1 : Hp} (st : Step C ρ H ρ1 G1 H1) {p : Addr} {vs : List V} {ds : List D} (h0 : H p = none) (hn : p ∉ ρ1) (hp : H1 p = some (.lst vs)) (i : IsL C.K ρ1 H1 ds vs) : Step C ρ H (ρ1 ++ [p]) (G1 ++ [.lst ds]) H1 := by
  have pre : ρ1 <+: ρ1 ++ [p] := List.prefix_append _ _
  have x : TExt H1 H1 := ⟨fun _ _ e _ _ => e⟩
  refine ⟨st.pre.trans pre, st.ext, ⟨?_, ?_, fun j d a h1 h2 => ?_, st.rel.tab⟩, fun a h n => ?_⟩
  · rw [List.length_append, List.length_append, st.rel.len]; rfl
  · rw [List.nodup_append]
    refine ⟨st.rel.nd, by simp, fun a ha b hb e => ?_⟩
    rw [List.mem_singleton.mp hb] at e
    subst e
    exact hn ha
  · by_cases hi : j < G1.length
    · rw [List.getElem?_append_left hi] at h1
      rw [List.getElem?_append_left (by rw [st.rel.len]; exact hi)] at h2
      obtain ⟨u, e, q⟩ := st.rel.cell j d a h1 h2
      exact ⟨u, e, q.mono pre x⟩
    · have e : j = G1.length := by
        have := (List.getElem?_eq_some_iff.mp h1).1
        rw [List.length_append, List.length_singleton] at this
        omega
      subst e
      rw [List.getElem?_append_right (Nat.le_refl _), Nat.sub_self] at h1
      rw [← st.rel.len, List.getElem?_append_right (Nat.le_refl _), Nat.sub_self] at h2
      cases h1
      cases h2
      exact ⟨_, hp, vs, rfl, i.mono pre x⟩
  · rcases List.mem_append.mp h with h | h
    · exact st.fresh a h n
    · rw [List.mem_singleton.mp h]; exact h0
theorem new_ref {ρ1 : List Addr} {G1 : GS} {H1 : Hp} {p : Addr} {K : PySem.W.Frag} (R : Rel C ρ1 G1 H1) : Is K (ρ1 ++ [p]) H1 (.ref G1.length) (.ref p) := R.new_at
/-- to a list -/
theorem run_newL {ρ : List Addr} {G : GS} {H : Hp} {m : M (List D)} {Q : VK} (h : Run C ρ H (okD C) (bnd m newL G) Q E) : Run C ρ H (fun ρ' H' ds D => H D = none ∧ ∃ vs, H' D = some (.lst vs) ∧ D ∉ ρ' ∧ IsL C.K ρ' H' ds vs) (m G) (fun D H' => Q (.ref D) H') E := by
  unfold bnd at h
  cases e : m G with
  | bad => rw [e] at h; exact h
  | ex c d g => rw [e] at h; exact h
  | ok ds g =>
    rw [e] at h
    intro Dl ρ' H' st ⟨h0, vs, e1, hn, i⟩
    exact h (.ref Dl) _ H' (st.adopt h0 hn e1 i) (new_ref st.rel)
end
end DL
namespace DL
open PySem PySem.Spec PyProof.Rows L2
open Classical
noncomputable section
variable {X : Cx} {Ts : List Addr} {E : XK} {a b c e : Expr} {ta tb tc te : TE} {ma mb mc me : Sl → M D} {pos : Pos} {C : Ct} {es : List Expr} {t u : TT} {mt mu : Sl → M Bool} {tr : TA} {mr : Sl → M (List D)}
theorem de_lc {elt tg iter : Expr} {ifs : List Expr} {scope : Scope} {own : List (Str × Nat)} {wi : TI} {g : TG} {tt : TT} {te : TE} {mi : Sl → M Itm} {tgm : D → Sl → M Sl} {mcond : Sl → M Bool} {melt : Sl → M D} {vs : List Nat} (hc : X.calm = true) (hN : X.N.Nodup) (hi : DI X Ts E tg iter wi mi) (ok : BlkOk X.N X.env.scope scope own)
    (hvs : own.map (·.2) = vs)
    (hg : ∀ (s : Shared) (H : Hp) (C : Addr) (cl : List (Str × Addr)) (fp : List Addr), DG (X.blk s H scope (compEnvC scope cl C X.env) fp) Ts E0 tg g tgm vs)
    (ht : ∀ (s : Shared) (H : Hp) (C : Addr) (cl : List (Str × Addr)) (fp : List Addr), DTs (X.blk s H scope (compEnvC scope cl C X.env) fp) Ts ifs tt mcond)
    (he : ∀ (s : Shared) (H : Hp) (C : Addr) (cl : List (Str × Addr)) (fp : List Addr), DE (X.blk s H scope (compEnvC scope cl C X.env) fp) Ts E0 elt te melt) (hs : ∀ x, foldedSetIterable iter X.env x = pure x := by intro _; rfl) :
    DE X Ts E (.ListComp elt [⟨tg, iter, ifs, 0⟩] scope pos) (tLc wi g tt te (own.map (·.2))) (fun s => bnd (compD mi tgm mcond melt vs s) newL) := by
  subst hvs
  refine ⟨pe_lc hc hN hi.pe ok (fun s H C cl fp => (hg s H C cl fp).pe) (fun s H C cl fp => (ht s H C cl fp).pe) (fun s H C cl fp => (he s H C cl fp).pe) hs, fun ρ σ H s G Q R S h => ?_⟩
  exact rf_comp hi (hg {} (fun _ => none) 0 [] []).rf (ht {} (fun _ => none) 0 [] []).rf (he {} (fun _ => none) 0 [] []).rf R S (run_newL (C := ⟨X.K, Ts, fw X.w⟩) h)
def CallD (C : Ct) (r : List V → Hp → VK → Prop) (o : List D → M D) : Prop := ∀ ρ G H ds vs Q E, Rel C ρ G H → IsL C.K ρ H ds vs → Run C ρ H (okD C) (o ds G) Q E → r vs H Q
theorem de_callB {id : String} {r : List V → Hp → VK → Prop} {o : List D → M D} {x : Str} {p pos : Pos} (hc : CallR X (.builtin id) r) (hd : CallD ⟨X.K, Ts, fw X.w⟩ r o) (hg : Gl X x) (hm : X.mg x = none) (hv : bootBuiltins x = some (.builtin id)) (ha : DA X Ts E (e :: es) tr mr)
    (hn : x ≠ "__name__" := by decide) (hdb : (x == ("__debug__" : Str)) = false := by decide)
    (he : starEach (e :: es) X.env = (false, eval e X.env) :: starEach es X.env := by rfl) (hpl : (backTo pos (starEach es X.env)).any (·.1) = false := by rfl) : DE X Ts E (.Call (.Name x p) (e :: es) [] pos) (tCB r tr) (fun s => bnd (mr s) o) := by
  refine ⟨pe_callB hc hg hm hv ha.pe hn hdb he hpl, fun ρ σ H s G Q R S h => ?_⟩
  exact ha.rf ρ σ H s G _ R S (Run.map R h fun ds G1 vs ρ1 H1 R1 i h1 => hd ρ1 G1 H1 ds vs Q E R1 i h1)
theorem de_callTy {T : String} {r : List V → Hp → VK → Prop} {o : List D → M D} {x : Str} {p pos : Pos} (hc : CallR X (.type T) r) (hd : CallD ⟨X.K, Ts, fw X.w⟩ r o) (hg : Gl X x) (hm : X.mg x = none) (hv : bootBuiltins x = some (.type T)) (ha : DA X Ts E (e :: es) tr mr)
    (hn : x ≠ "__name__" := by decide) (hdb : (x == ("__debug__" : Str)) = false := by decide)
    (he : starEach (e :: es) X.env = (false, eval e X.env) :: starEach es X.env := by rfl) (hpl : (backTo pos (starEach es X.env)).any (·.1) = false := by rfl) : DE X Ts E (.Call (.Name x p) (e :: es) [] pos) (tCB r tr) (fun s => bnd (mr s) o) := by
  refine ⟨pe_callTy hc hg hm hv ha.pe hn hdb he hpl, fun ρ σ H s G Q R S h => ?_⟩
  exact ha.rf ρ σ H s G _ R S (Run.map R h fun ds G1 vs ρ1 H1 R1 i h1 => hd ρ1 G1 H1 ds vs Q E R1 i h1)
/-- len of a list or a tuple -/
def lenD (ds : List D) : M D := fun g => match ds with
  | [.tup xs] => .ok (.int xs.length) g
  | [.scr ns] => .ok (.int ns.length) g
  | [.ref n] => match g[n]? with
    | some (.lst xs) => .ok (.int xs.length) g
    | _ => .bad
  | _ => .bad
theorem calld_len : CallD C (fun xs H Q => ∃ p ys, xs = [.ref p] ∧ (SqL C.K H p ys ∨ SqT C.K H p ys) ∧ Q (.int ys.length) H) lenD := by
  intro ρ G H ds vs Q E R i h
  unfold lenD at h
  split at h
  · obtain ⟨v, rfl, i2⟩ := isl_one i
    obtain ⟨p, ws, rfl, hp, hl⟩ := is_tup i2
    exact ⟨p, ws, rfl, .inr hp, by rw [← hl.len]; exact Run.ret (Ok := okD C) R h isInt⟩
  · obtain ⟨v, rfl, i2⟩ := isl_one i
    simp only [Is] at i2
    obtain ⟨p, rfl, hp⟩ := i2
    exact ⟨p, _, rfl, .inl hp.sql, by rw [List.length_map]; exact Run.ret (Ok := okD C) R h isInt⟩
  · obtain ⟨v, rfl, i2⟩ := isl_one i
    split at h
    · rename_i e1
      obtain ⟨p, ws, rfl, _, hp, hl⟩ := R.lst e1 i2
      exact ⟨p, ws, rfl, .inl (SqL.of hp), by rw [← hl.len]; exact Run.ret (Ok := okD C) R h isInt⟩
    · exact h.elim
  · exact h.elim
/-- int(n), int(b) -/
def intD (ds : List D) : M D := match ds with
  | [.int i] => pur (.int i)
  | [.bl b] => pur (.int (if b then 1 else 0))
  | _ => fail
theorem calld_int : CallD C (fun xs H Q => (∃ i, xs = [.int i] ∧ Q (.int i) H) ∨ ∃ k, xs = [.bl k] ∧ Q (.int (if k then 1 else 0)) H) intD := by
  intro ρ G H ds vs Q E R i h
  unfold intD at h
  split at h
  · obtain ⟨v, rfl, i2⟩ := isl_one i
    exact .inl ⟨_, by rw [is_int i2], Run.ret (Ok := okD C) R h isInt⟩
  · obtain ⟨v, rfl, i2⟩ := isl_one i
    exact .inr ⟨_, by rw [is_bl i2], Run.ret (Ok := okD C) R h isInt⟩
  · exact h.elim
/-- list(xs): a new one -/
def listD (ds : List D) : M D := fun g => match ds with
  | [.tup xs] => .ok (.ref g.length) (g ++ [.lst xs])
  | [.scr ns] => .ok (.ref g.length) (g ++ [.lst (ns.map D.int)])
  | [.ref n] => match g[n]? with
    | some (.lst xs) => .ok (.ref g.length) (g ++ [.lst xs])
    | _ => .bad
  | _ => .bad
theorem isl_ints {K : PySem.W.Frag} {ρ : List Addr} {H : Hp} : ∀ ns : List Int, IsL K ρ H (ns.map D.int) (ns.map V.int)
  | [] => .nil
  | n :: ns => .cons isInt (isl_ints ns)
theorem calld_list : CallD C (fun xs H Q => ∃ p ys, xs = [.ref p] ∧ (SqL C.K H p ys ∨ SqT C.K H p ys) ∧ ∀ l, H l = none → Q (.ref l) (upd H l (.lst ys))) listD := by
  intro ρ G H ds vs Q E R i h
  unfold listD at h
  split at h
  · obtain ⟨v, rfl, i2⟩ := isl_one i
    obtain ⟨p, ws, rfl, hp, hl⟩ := is_tup i2
    exact ⟨p, ws, rfl, .inr hp, Run.newL R h hl⟩
  · obtain ⟨v, rfl, i2⟩ := isl_one i
    simp only [Is] at i2
    obtain ⟨p, rfl, hp⟩ := i2
    exact ⟨p, _, rfl, .inl hp.sql, Run.newL R h (isl_ints _)⟩
  · obtain ⟨v, rfl, i2⟩ := isl_one i
    split at h
    · rename_i e1
      obtain ⟨p, ws, rfl, _, hp, hl⟩ := R.lst e1 i2
      exact ⟨p, ws, rfl, .inl (SqL.of hp), Run.newL R h hl⟩
    · exact h.elim
  · exact h.elim
/-- tuple(xs) -/
def tupleD (ds : List D) : M D := fun g => match ds with
  | [.tup xs] => .ok (.tup xs) g
  | [.scr ns] => .ok (.tup (ns.map D.int)) g
  | [.ref n] => match g[n]? with
    | some (.lst xs) => .ok (.tup xs) g
    | _ => .bad
  | _ => .bad
theorem calld_tuple : CallD C (fun xs H Q => ∃ p ys, xs = [.ref p] ∧ ((SqL C.K H p ys ∧ ∀ l, H l = none → Q (.ref l) (upd H l (.tup ys))) ∨ (SqT C.K H p ys ∧ Q (.ref p) H))) tupleD := by
  intro ρ G H ds vs Q E R i h
  unfold tupleD at h
  split at h
  · obtain ⟨v, rfl, i2⟩ := isl_one i
    obtain ⟨p, ws, rfl, hp, hl⟩ := is_tup i2
    exact ⟨p, ws, rfl, .inr ⟨hp, Run.ret (Ok := okD C) R h (isTup hp hl)⟩⟩
  · obtain ⟨v, rfl, i2⟩ := isl_one i
    simp only [Is] at i2
    obtain ⟨p, rfl, hp⟩ := i2
    exact ⟨p, _, rfl, .inl ⟨hp.sql, Run.newT R h (isl_ints _)⟩⟩
  · obtain ⟨v, rfl, i2⟩ := isl_one i
    split at h
    · rename_i e1
      obtain ⟨p, ws, rfl, _, hp, hl⟩ := R.lst e1 i2
      exact ⟨p, ws, rfl, .inl ⟨SqL.of hp, Run.newT R h hl⟩⟩
    · exact h.elim
  · exact h.elim
/-- tuple([.. for ..]) -/
theorem de_tupLc {elt tg iter : Expr} {ifs : List Expr} {scope : Scope} {own : List (Str × Nat)} {wi : TI} {g : TG} {tt : TT} {te : TE} {mi : Sl → M Itm} {tgm : D → Sl → M Sl} {mcond : Sl → M Bool} {melt : Sl → M D} {vs : List Nat} {p pos lpos : Pos}
    (hgl : Gl X "tuple") (hm : X.mg "tuple" = none) (hb : bootBuiltins "tuple" = some (.type "tuple")) (hc : X.calm = true) (hN : X.N.Nodup) (hi : DI X Ts E tg iter wi mi) (ok : BlkOk X.N X.env.scope scope own)
    (hvs : own.map (·.2) = vs)
    (hg : ∀ (s : Shared) (H : Hp) (C : Addr) (cl : List (Str × Addr)) (fp : List Addr), DG (X.blk s H scope (compEnvC scope cl C X.env) fp) Ts E0 tg g tgm vs)
    (ht : ∀ (s : Shared) (H : Hp) (C : Addr) (cl : List (Str × Addr)) (fp : List Addr), DTs (X.blk s H scope (compEnvC scope cl C X.env) fp) Ts ifs tt mcond)
    (he : ∀ (s : Shared) (H : Hp) (C : Addr) (cl : List (Str × Addr)) (fp : List Addr), DE (X.blk s H scope (compEnvC scope cl C X.env) fp) Ts E0 elt te melt) (hs : ∀ x, foldedSetIterable iter X.env x = pure x := by intro _; rfl)
    (hst : starEach [.ListComp elt [⟨tg, iter, ifs, 0⟩] scope lpos] X.env = (false, eval (.ListComp elt [⟨tg, iter, ifs, 0⟩] scope lpos) X.env) :: starEach [] X.env := by rfl) :
    DE X Ts E (.Call (.Name "tuple" p) [.ListComp elt [⟨tg, iter, ifs, 0⟩] scope lpos] [] pos) (tCB (fun xs H Q => ∃ p ys, xs = [.ref p] ∧ ((SqL X.K H p ys ∧ ∀ l, H l = none → Q (.ref l) (upd H l (.tup ys))) ∨ (SqT X.K H p ys ∧ Q (.ref p) H))) (tCons (tLc wi g tt te (own.map (·.2))) tNil))
      (fun s => bnd (compD mi tgm mcond melt vs s) fun ds => pur (.tup ds)) := by
  subst hvs
  refine ⟨pe_callTy call_tuple_of hgl hm hb (pa_cons (pe_lc hc hN hi.pe ok (fun s H C cl fp => (hg s H C cl fp).pe) (fun s H C cl fp => (ht s H C cl fp).pe) (fun s H C cl fp => (he s H C cl fp).pe) hs) pa_nil hst) (by decide) (by decide) hst rfl, fun ρ σ H s G Q R S h => ?_⟩
  refine rf_comp (Q := fun x H' => tNil σ H' fun xs H2 => ∃ p ys, x :: xs = [.ref p] ∧ ((SqL X.K H2 p ys ∧ ∀ l, H2 l = none → Q (.ref l) (upd H2 l (.tup ys))) ∨ (SqT X.K H2 p ys ∧ Q (.ref p) H2))) hi (hg {} (fun _ => none) 0 [] []).rf (ht {} (fun _ => none) 0 [] []).rf (he {} (fun _ => none) 0 [] []).rf R S ?_
  have h : Run ⟨X.K, Ts, fw X.w⟩ ρ H (okD ⟨X.K, Ts, fw X.w⟩) (bnd (compD mi tgm mcond melt (own.map (·.2)) s) (fun ds => pur (.tup ds)) G) Q E := h
  show Run ⟨X.K, Ts, fw X.w⟩ ρ H _ (compD mi tgm mcond melt (own.map (·.2)) s G) _ E
  unfold bnd at h
  cases e : compD mi tgm mcond melt (own.map (·.2)) s G with
  | bad => rw [e] at h; exact h
  | ex c d g => rw [e] at h; exact h
  | ok ds g =>
    rw [e] at h
    intro Dl ρ' H' st ⟨h0, ws, e1, hn, i⟩
    refine ⟨Dl, ws, rfl, .inl ⟨SqL.of e1, fun l hl => ?_⟩⟩
    have st2 := Step.lay st.rel (o := .tup ws) hl
    exact h (.ref l) ρ' _ (st.trans st2) (isTup (SqT.of upd_same) (IsL.step st.rel st2 i))
def genM (w : Itm) (tg : D → Sl → M Sl) (elt : Sl → M D) (stop : Bool) (s : Sl) : List D → M D
  | [] => fun g => if w.ok g then .ok (.bl (!stop)) g else .bad
  | x :: xs => fun g => if w.ok g then match tg x s g with
      | .ok s1 g1 => match elt s1 g1 with
        | .ok (.bl b) g2 => if b = stop then .ok (.bl stop) g2 else genM w tg elt stop s xs g2
        | _ => .bad
      | _ => .bad
    else .bad
theorem Step.tabbed {ρ : List Addr} {G : GS} {H H2 : Hp} {P : Addr} (R : Rel C ρ G H) (hP : P ∈ C.Ts) (t : GxR.Tabbed P H H2) : Step C ρ H ρ G H2 := by
  obtain ⟨ps, eP, _⟩ := R.tab P hP
  have ne : ∀ a o, H a = some o → (∀ ps, o ≠ .tbl ps) → a ≠ P := fun a o e n z => by
    rw [z, eP] at e
    exact n ps (Option.some.inj e).symm
  have x : Ext ρ H H2 := ⟨fun a o e _ n => by rw [t.2 a (ne a o e n)]; exact e, fun a qs e => by
    by_cases z : a = P
    · obtain ⟨rs, e2, _⟩ := t.1
      exact ⟨rs, by rw [z]; exact e2⟩
    · exact ⟨qs, by rw [t.2 a z]; exact e⟩⟩
  refine ⟨List.prefix_refl _, x, ⟨R.len, R.nd, fun i c a h1 h2 => ?_, fun P' hP' => ?_⟩, fun a h n => absurd h n⟩
  · obtain ⟨o, e, q⟩ := R.cell i c a h1 h2
    refine ⟨o, ?_, q.mono (List.prefix_refl _) (x.text R)⟩
    rw [t.2 a (ne a o e fun ps z => by have := q.cell; rw [z] at this; cases this)]
    exact e
  · by_cases z : P' = P
    · rw [z]; exact t.1
    · obtain ⟨qs, e, tr⟩ := R.tab P' hP'
      exact ⟨qs, by rw [t.2 P' z]; exact e, tr⟩
theorem rf_gen {wi : TI} {g : TG} {te : TE} {vs : List Nat} {mi : Sl → M Itm} {tgm : D → Sl → M Sl} {melt : Sl → M D} {tg iter : Expr} {P : Addr} {stop : Bool} (hP : P ∈ Ts)
    (hi : DI X Ts E tg iter wi mi) (hg : ∀ ρ σ H s G d v (Q : L2.St → Hp → Prop), Rel ⟨X.K, Ts, fw X.w⟩ ρ G H → Sls X.K ρ H σ s → Is X.K ρ H d v → Run ⟨X.K, Ts, fw X.w⟩ ρ H (okG ⟨X.K, Ts, fw X.w⟩ vs σ) (tgm d s G) Q E0 → g v σ H Q)
    (he : ∀ ρ σ H s G Q, Rel ⟨X.K, Ts, fw X.w⟩ ρ G H → Sls X.K ρ H σ s → Run ⟨X.K, Ts, fw X.w⟩ ρ H (okD ⟨X.K, Ts, fw X.w⟩) (melt s G) Q E0 → te σ H Q)
    {ρ : List Addr} {σ : L2.St} {H : Hp} {s : Sl} {G : GS} {Q : VK} (R : Rel ⟨X.K, Ts, fw X.w⟩ ρ G H) (S : Sls X.K ρ H σ s)
    (h : Run ⟨X.K, Ts, fw X.w⟩ ρ H (okD ⟨X.K, Ts, fw X.w⟩) (bnd (mi s) (fun w => genM w tgm melt stop (wipeD s vs) w.items) G) Q E) : GA.tGen P wi g te vs stop σ H Q := by
  refine hi.rf ρ σ H s G _ R S (Run.first h fun w G1 J ρ1 H1 st1 wk h1 => ?_)
  have wk : Walk ⟨X.K, Ts, fw X.w⟩ w ρ1 H1 J := wk
  refine ⟨st1.rel.tab P hP, fun H2 tb => ?_⟩
  have st2 : Step ⟨X.K, Ts, fw X.w⟩ ρ1 H1 ρ1 G1 H2 := Step.tabbed st1.rel hP tb
  let Word : Nat → Hp → Prop := fun i H' => ∃ ρ' G', Step ⟨X.K, Ts, fw X.w⟩ ρ1 H1 ρ' G' H' ∧ i ≤ w.items.length ∧ Run ⟨X.K, Ts, fw X.w⟩ ρ' H' (okD ⟨X.K, Ts, fw X.w⟩) (genM w tgm melt stop (wipeD s vs) (w.items.drop i) G') Q E
  refine ⟨fun i m H' => m = w.items.length - i ∧ Word i H', ⟨w.items.length, by simp, ρ1, G1, st2, Nat.zero_le _, Run.step st2 h1⟩, ?_⟩
  rintro i m H' ⟨rfl, ρ', G', st, hile, er⟩
  by_cases hi : i < w.items.length
  · have hd : w.items.drop i = w.items[i] :: w.items.drop (i + 1) := List.drop_eq_getElem_cons hi
    have hx : w.items[i]? = some w.items[i] := List.getElem?_eq_getElem hi
    rw [hd] at er
    unfold genM at er
    split at er
    · rename_i hok
      refine .inr ⟨wk.go i ρ' G' H' _ st hok hx, fun H2 => Word (i + 1) H2, fun H2 w2 => ⟨w.items.length - (i + 1), by omega, rfl, w2⟩, fun x H2 hy => ?_⟩
      obtain ⟨st2, hx2⟩ := wk.yld i ρ' G' H' x H2 _ st hok hx hy
      have S2 : Sls X.K ρ' H2 (L2.wipe σ vs) (wipeD s vs) := ((((S.step R st1).step st1.rel st).step st.rel st2).wipe vs)
      have st2' := st.trans st2
      refine hg ρ' (L2.wipe σ vs) H2 (wipeD s vs) G' _ x _ st2.rel S2 hx2 ?_
      cases e1 : tgm w.items[i] (wipeD s vs) G' with
      | bad => rw [e1] at er; exact er.elim
      | ex _ _ _ => rw [e1] at er; exact er.elim
      | ok s1 g1 =>
        rw [e1] at er
        intro σ3 ρ3 H3 st3 ⟨S3, hl3, hσ3⟩
        have hl3 : σ3.length = σ.length := by rw [hl3, L2.wipe_length]
        refine ⟨wipe_eq hl3 hσ3, ?_⟩
        refine he ρ3 σ3 H3 s1 g1 _ st3.rel S3 ?_
        dsimp only at er
        cases e3 : melt s1 g1 with
        | bad => rw [e3] at er; exact er.elim
        | ex _ _ _ => rw [e3] at er; exact er.elim
        | ok d g3 =>
          rw [e3] at er
          intro y ρ5 H5 st5 iy
          have iy : Is X.K ρ5 H5 d y := iy
          have st25 := (st2.trans st3).trans st5
          cases d with
          | bl b =>
            dsimp only at er
            refine ⟨b, is_bl iy, ?_⟩
            by_cases hb : b = stop
            · rw [if_pos hb] at er ⊢
              exact er (.bl stop) ρ5 H5 st25 isBl
            · rw [if_neg hb] at er ⊢
              exact ⟨ρ5, g3, st.trans st25, hi, Run.step st25 er⟩
          | _ => exact er.elim
    · exact er.elim
  · have e : i = w.items.length := by omega
    subst e
    rw [List.drop_length] at er
    unfold genM at er
    split at er
    · rename_i hok
      exact .inl ⟨wk.stop ρ' G' H' st hok, Run.ret (Ok := okD ⟨X.K, Ts, fw X.w⟩) st.rel er isBl⟩
    · exact er.elim
def genD (mi : Sl → M Itm) (tgm : D → Sl → M Sl) (melt : Sl → M D) (stop : Bool) (vs : List Nat) (s : Sl) : M D := bnd (mi s) fun w => genM w tgm melt stop (wipeD s vs) w.items
end
end DL
namespace DL
open PySem PySem.Spec PyProof.Rows L2
open Classical
noncomputable section
variable {X : Cx} {Ts : List Addr} {E : XK} {a b c e : Expr} {ta tb tc te : TE} {ma mb mc me : Sl → M D} {pos : Pos} {C : Ct} {es : List Expr} {t u : TT} {mt mu : Sl → M Bool} {tr : TA} {mr : Sl → M (List D)}
section
variable {elt iter : Expr} {x : Str} {px p gpos : Pos} {scope : Scope} {own : List (Str × Nat)} {wi : TI} {g : TG} {te : TE} {k : Nat} {mi : Sl → M Itm} {tgm : D → Sl → M Sl} {melt : Sl → M D} {vs : List Nat} {cc P : Addr}
theorem de_all (hr : Room (k + 3) X.A) (hgl : Gl X "all") (hm : X.mg "all" = none) (TB : GxR.TabB X.base X.mg cc P) (hcode : X.env.code = .ref cc) (hP : P ∈ Ts) (hcalm : X.calm = true) (hN : X.N.Nodup) (hco : scope.isCoroutine = false) (hcell : ∀ y ∈ scope.names, y.2 ≠ .cell) (hdot : scope.names.lookup (".0" : Str) = some NameKind.local)
    (ok : BlkOk X.N X.env.scope scope own) (hvs : own.map (·.2) = vs) (hi : DI X Ts E (.Name x px) iter wi mi)
    (hg : ∀ (s : Shared) (H : Hp) (C : Addr) (cl : List (Str × Addr)) (code : Value) (fp : List Addr) (pn : List (Addr × Obj)), DG (GA.gcx X s H (genEnv scope cl C code builtinsNs X.env) fp pn) Ts E0 (.Name x px) g tgm vs)
    (he : ∀ (s : Shared) (H : Hp) (C : Addr) (cl : List (Str × Addr)) (code : Value) (fp : List Addr) (pn : List (Addr × Obj)), Room k (GA.gcx X s H (genEnv scope cl C code builtinsNs X.env) fp pn).A → DE (GA.gcx X s H (genEnv scope cl C code builtinsNs X.env) fp pn) Ts E0 elt te melt)
    (hs : ∀ v, genFold iter X.env v = pure v := by intro _; rfl)
    (hst : starEach [.GeneratorExp elt [⟨.Name x px, iter, [], 0⟩] scope gpos] X.env = (false, eval (.GeneratorExp elt [⟨.Name x px, iter, [], 0⟩] scope gpos) X.env) :: starEach [] X.env := by rfl) :
    DE X Ts E (.Call (.Name "all" p) [.GeneratorExp elt [⟨.Name x px, iter, [], 0⟩] scope gpos] [] pos) (GA.tGen P wi g te (own.map (·.2)) false) (genD mi tgm melt false vs) := by
  subst hvs
  refine ⟨GA.pe_allG hr hgl hm PyProof.Rows.boot_all TB hcode hcalm hN hco hcell hdot ok hi.pe (fun s H C cl code fp pn => (hg s H C cl code fp pn).pe) (fun s H C cl code fp pn r => (he s H C cl code fp pn r).pe) hs hst, fun ρ σ H s G Q R S h => ?_⟩
  exact rf_gen hP hi (hg {} (fun _ => none) 0 [] .none [] []).rf (he {} (fun _ => none) 0 [] .none [] [] (hr.in1.in1.deeper _)).rf R S h
theorem de_any (hr : Room (k + 3) X.A) (hgl : Gl X "any") (hm : X.mg "any" = none) (TB : GxR.TabB X.base X.mg cc P) (hcode : X.env.code = .ref cc) (hP : P ∈ Ts) (hcalm : X.calm = true) (hN : X.N.Nodup) (hco : scope.isCoroutine = false) (hcell : ∀ y ∈ scope.names, y.2 ≠ .cell) (hdot : scope.names.lookup (".0" : Str) = some NameKind.local)
    (ok : BlkOk X.N X.env.scope scope own) (hvs : own.map (·.2) = vs) (hi : DI X Ts E (.Name x px) iter wi mi)
    (hg : ∀ (s : Shared) (H : Hp) (C : Addr) (cl : List (Str × Addr)) (code : Value) (fp : List Addr) (pn : List (Addr × Obj)), DG (GA.gcx X s H (genEnv scope cl C code builtinsNs X.env) fp pn) Ts E0 (.Name x px) g tgm vs)
    (he : ∀ (s : Shared) (H : Hp) (C : Addr) (cl : List (Str × Addr)) (code : Value) (fp : List Addr) (pn : List (Addr × Obj)), Room k (GA.gcx X s H (genEnv scope cl C code builtinsNs X.env) fp pn).A → DE (GA.gcx X s H (genEnv scope cl C code builtinsNs X.env) fp pn) Ts E0 elt te melt)
    (hs : ∀ v, genFold iter X.env v = pure v := by intro _; rfl)
    (hst : starEach [.GeneratorExp elt [⟨.Name x px, iter, [], 0⟩] scope gpos] X.env = (false, eval (.GeneratorExp elt [⟨.Name x px, iter, [], 0⟩] scope gpos) X.env) :: starEach [] X.env := by rfl) :
    DE X Ts E (.Call (.Name "any" p) [.GeneratorExp elt [⟨.Name x px, iter, [], 0⟩] scope gpos] [] pos) (GA.tGen P wi g te (own.map (·.2)) true) (genD mi tgm melt true vs) := by
  subst hvs
  refine ⟨GA.pe_anyG hr hgl hm PyProof.Rows.boot_any TB hcode hcalm hN hco hcell hdot ok hi.pe (fun s H C cl code fp pn => (hg s H C cl code fp pn).pe) (fun s H C cl code fp pn r => (he s H C cl code fp pn r).pe) hs hst, fun ρ σ H s G Q R S h => ?_⟩
  exact rf_gen hP hi (hg {} (fun _ => none) 0 [] .none [] []).rf (he {} (fun _ => none) 0 [] .none [] [] (hr.in1.in1.deeper _)).rf R S h
end
def starD (d : D) : M (List D) := fun g => match d with
  | .tup ds => .ok ds g
  | .ref n => match g[n]? with
    | some (.lst ds) => .ok ds g
    | _ => .bad
  | _ => .bad
theorem da_star {p : Pos} (ha : DE X Ts E e te me) (hr : DA X Ts E es tr mr) (hs : starEach (.Starred e p :: es) X.env = (true, eval e X.env) :: starEach es X.env := by rfl) : DA X Ts E (.Starred e p :: es) (StX.tStar X.K te tr) (fun s => bnd (me s) fun x => bnd (starD x) fun xs => bnd (mr s) fun r => pur (xs ++ r)) := by
  refine ⟨StX.pa_star ha.pe hr.pe hs, fun ρ σ H s G Q R S h => ?_⟩
  refine ha.rf ρ σ H s G _ R S (Run.first h fun x G1 u ρ1 H1 st i h1 => ?_)
  have tail : ∀ {p : Addr} {ws : List V} {ds : List D}, IsL X.K ρ1 H1 ds ws → (SqT X.K H1 p ws ∨ SqL X.K H1 p ws) → u = .ref p → Run ⟨X.K, Ts, fw X.w⟩ ρ1 H1 (okL ⟨X.K, Ts, fw X.w⟩) (bnd (mr s) (fun r => pur (ds ++ r)) G1) Q E → ∃ p xs, u = V.ref p ∧ (SqT X.K H1 p xs ∨ SqL X.K H1 p xs) ∧ tr σ H1 fun ys H2 => Q (xs ++ ys) H2 := fun {p ws ds} hl hp e h2 => by
    refine ⟨p, ws, e, hp, ?_⟩
    refine hr.rf ρ1 σ H1 s G1 _ st.rel (S.step R st) (Run.first h2 fun y G2 v ρ2 H2 st2 j h3 => ?_)
    exact Run.ret (Ok := okL ⟨X.K, Ts, fw X.w⟩) st2.rel h3 ((IsL.step st.rel st2 hl).app j)
  unfold starD at h1
  cases x with
  | tup ds =>
    obtain ⟨p, ws, e, hp, hl⟩ := is_tup i
    exact tail hl (.inl hp) e h1
  | ref n =>
    unfold bnd at h1
    dsimp only at h1
    cases e1 : G1[n]? with
    | none => rw [e1] at h1; exact h1.elim
    | some cl =>
      rw [e1] at h1
      cases cl with
      | lst ds =>
        obtain ⟨p, ws, e, _, hp, hl⟩ := st.rel.lst e1 i
        exact tail hl (.inr (SqL.of hp)) e h1
      | dic _ => exact h1.elim
      | set _ => exact h1.elim
      | map _ => exact h1.elim
      | obj _ _ _ => exact h1.elim
  | _ => exact h1.elim
def tyD (d : D) (g : GS) : Option String := match d with
  | .non => some "NoneType"
  | .bl _ => some "bool"
  | .int _ => some "int"
  | .str _ => some "str"
  | .tup _ => some "tuple"
  | .ref n => match g[n]? with
    | some (.lst _) => some "list"
    | some (.dic _) => some "dict"
    | _ => none
  | .scr _ => some "list"
  | .ins _ _ _ => none
  | .ty _ => none
  | .cls _ => none
  | .exc _ _ _ => none
  | .dct _ _ _ => none
def isiD (T : String) (ds : List D) : M D := fun g => match ds with
  | [x, .ty T'] => if T' = T then match tyD x g with
      | some a => match kitB a T with
        | some r => .ok (.bl r) g
        | none => .bad
      | none => .bad
    else .bad
  | _ => .bad
theorem tyx_of {ρ : List Addr} {G : GS} {H : Hp} (R : Rel C ρ G H) {d : D} {v : V} {a : String} (h : tyD d G = some a) (i : Is C.K ρ H d v) : TyX C.K H v (.type a) := by
  unfold tyD at h
  cases d with
  | non => cases h; rw [is_non i]; exact .base .non
  | bl b => cases h; rw [is_bl i]; exact .base (.bl b)
  | int b => cases h; rw [is_int i]; exact .base (.int b)
  | str b => cases h; rw [is_str i]; exact .base (.str b)
  | tup ds =>
    cases h
    obtain ⟨p, vs, rfl, hp, _⟩ := is_tup i
    rcases hp with (hp | ⟨o, hp⟩) | ⟨o, its, n, hk, hc, _⟩
    · exact .base (.tup hp)
    · exact .fTuple hp
    · exact .kTuple hk hc
  | ref n =>
    dsimp only at h
    split at h
    · rename_i ds e1
      cases h
      obtain ⟨p, vs, rfl, _, hp, _⟩ := R.lst e1 i
      exact .base (.lst hp)
    · rename_i ds e1
      cases h
      obtain ⟨p, vs, rfl, _, hp, _⟩ := R.dic e1 i
      exact .base (.dK hp)
    · cases h
  | scr ns =>
    cases h
    simp only [Is] at i
    obtain ⟨p, rfl, hp⟩ := i
    rcases hp with ⟨o, hp⟩ | ⟨o, its, n, hk, hc, _⟩
    · exact .base (.frz hp)
    · exact .kList hk hc
  | ins _ _ _ => cases h
  | ty _ => cases h
  | cls _ => cases h
  | exc _ _ _ => cases h
  | dct _ _ _ => cases h
theorem calld_isi {T : String} : CallD C (rIsi C.K) (isiD T) := by
  intro ρ G H ds vs Q E R i h
  unfold isiD at h
  split at h
  · rename_i x T'
    obtain ⟨v, w, rfl, i1, i2⟩ := isl_two i
    split at h
    · rename_i hT
      subst hT
      split at h
      · rename_i a ea
        split at h
        · rename_i r er
          have e2 : w = .ty T' := by simpa only [Is] using i2
          exact ⟨v, w, _, _, r, rfl, by rw [e2]; exact .ty _, tyx_of R ea i1, kit_ty er, Run.ret (Ok := okD C) R h isBl⟩
        · exact h.elim
      · exact h.elim
    · exact h.elim
  · exact h.elim
theorem de_ty {x : Str} {T : String} {p : Pos} (hg : Gl X x) (hm : X.mg x = none) (hv : bootBuiltins x = some (.type T)) (hn : x ≠ "__name__" := by decide) (hd : (x == ("__debug__" : Str)) = false := by decide) : DE X Ts E (.Name x p) (tC (.ty T)) (fun _ => pur (.ty T)) :=
  de_c (pe_bltn hg hm hv rfl hn hd) rfl fun _ _ => by simp only [Is]
def fldD (C0 : Addr) (f : Str) (x : D) : M D := match x with
  | .ins C ns ds => if C = C0 then match (ns.zip ds).lookup f with
      | some d => pur d
      | none => fail
    else fail
  | _ => fail
theorem lookup_zip {K : PySem.W.Frag} {ρ : List Addr} {H : Hp} {f : Str} {d : D} : ∀ {ns : List Str} {ds : List D} {vs : List V}, IsL K ρ H ds vs → (ns.zip ds).lookup f = some d → ∃ v, (ns.zip vs).lookup f = some v ∧ Is K ρ H d v
  | [], ds, vs, h, e => by simp at e
  | n :: ns, [], vs, h, e => by simp at e
  | n :: ns, d0 :: ds, vs, h, e => by
    simp only [IsL] at h
    obtain ⟨v, r, rfl, h1, h2⟩ := h
    rw [List.zip_cons_cons, List.lookup_cons] at e ⊢
    cases q : f == n with
    | true =>
      rw [q] at e
      cases e
      exact ⟨v, rfl, h1⟩
    | false =>
      rw [q] at e
      exact lookup_zip h2 e
theorem de_fld {C0 : Addr} {f : Str} (c : Cls X.K C0) (n : NoAttr X.K C0 f) (ha : DE X Ts E a ta ma) (hb : attributeBase a f X.env (eval a X.env) = eval a X.env := by rfl) : DE X Ts E (.Attribute a f pos) (tFld X.K ta f) (fun s => bnd (ma s) (fldD C0 f)) := by
  refine ⟨pe_fld ha.pe hb, fun ρ σ H s G Q R S h => ?_⟩
  refine ha.rf ρ σ H s G _ R S (Run.map R h fun d G1 v ρ1 H1 R1 i h1 => ?_)
  unfold fldD at h1
  cases d with
  | ins C ns ds =>
    dsimp only at h1
    by_cases hC : C = C0
    · subst hC
      rw [if_pos rfl] at h1
      simp only [Is] at i
      obtain ⟨p, dx, ws, fs, rfl, hp, hl, hi⟩ := i
      cases e : (ns.zip ds).lookup f with
      | some d =>
        rw [e] at h1
        obtain ⟨w, e1, e2⟩ := lookup_zip hi e
        have e1 : (ns.zip ws ++ fs).lookup f = some w := by rw [List.lookup_append, e1]; rfl
        exact ⟨p, C, dx, _, w, rfl, hp, c, n, e1, Run.ret (Ok := okD ⟨X.K, Ts, fw X.w⟩) R1 h1 e2⟩
      | none =>
        rw [e] at h1
        exact h1.elim
    · rw [if_neg hC] at h1
      exact h1.elim
  | _ => exact h1.elim
def MtD (C : Ct) (r : V → List V → Hp → VK → Prop) (T : String) (o : D → List D → M D) : Prop := ∀ ρ G H x ds u vs Q E, Rel C ρ G H → Is C.K ρ H x u → IsL C.K ρ H ds vs → Run C ρ H (okD C) (o x ds G) Q E → r u vs H Q
/-- the receiver is of that type, whatever the arguments do -/
def tyM (T : String) (x : D) : M D := fun g => if tyD x g = some T then .ok x g else .bad
theorem tyv_of {ρ : List Addr} {G : GS} {H : Hp} {T : String} (R : Rel C ρ G H) {d : D} {v : V} (hT : T = "list" ∨ T = "dict" ∨ T = "str") (h : tyD d G = some T) (i : Is C.K ρ H d v) : tyV C.K T v H := by
  unfold tyD at h
  cases d with
  | str x => cases h; rw [is_str i]; rfl
  | ref n =>
    dsimp only at h
    split at h
    · rename_i ds e1
      cases h
      obtain ⟨p, vs, rfl, _, hp, _⟩ := R.lst e1 i
      exact .inl ⟨rfl, vs, SqL.of hp⟩
    · rename_i ds e1
      cases h
      obtain ⟨p, vs, rfl, _, hp, _⟩ := R.dic e1 i
      exact .inr (.inr (.inl ⟨rfl, .inl ⟨vs, hp⟩⟩))
    · cases h
  | scr ns =>
    cases h
    simp only [Is] at i
    obtain ⟨p, rfl, hp⟩ := i
    exact .inl ⟨rfl, _, hp.sql⟩
  | non => cases h; simp at hT
  | bl b => cases h; simp at hT
  | int b => cases h; simp at hT
  | tup ds => cases h; simp at hT
  | ins _ _ _ => cases h
  | ty _ => cases h
  | cls _ => cases h
  | exc _ _ _ => cases h
  | dct _ _ _ => cases h
theorem de_bm {T id : String} {name : Str} {apos cpos : Pos} {r : V → List V → Hp → VK → Prop} {o : D → List D → M D} {ob : Expr} {to : TE} {mo : Sl → M D} (hT : T = "list" ∨ T = "dict" ∨ T = "str") (pa : PlainAttrs T) (slot : Slot T name id) (hty : typeOf (.builtin id) = pure (.type "method_descriptor")) (hm : MtR X id r) (hd : MtD ⟨X.K, Ts, fw X.w⟩ r T o) (ho : DE X Ts E ob to mo) (ha : DA X Ts E (e :: es) tr mr)
    (hbase : attributeBase ob name X.env (eval ob X.env) = eval ob X.env := by rfl)
    (hfew : ((backTo cpos (starEach (e :: es) X.env)).all (fun x => !x.1) && (backToKw cpos (keywordEach [] X.env)).all (fun x => x.1.isSome)
      && decide ((e :: es).length + ([] : List Keyword).length + (if ([] : List Keyword).isEmpty then 0 else 1) < 30)) = true := by rfl)
    (hline : (apos.endLine == cpos.line) = true := by rfl) (hs : starEach (e :: es) X.env = (false, eval e X.env) :: starEach es X.env := by rfl) (hplain : (backTo cpos (starEach es X.env)).any (·.1) = false := by rfl) :
    DE X Ts E (.Call (.Attribute ob name apos) (e :: es) [] cpos) (tBM X.K T r to tr) (fun s => bnd (mo s) fun x => bnd (tyM T x) fun x => bnd (mr s) (o x)) := by
  refine ⟨pe_bm pa slot hty hm ho.pe ha.pe hbase hfew hline hs hplain, fun ρ σ H s G Q R S h => ?_⟩
  refine ho.rf ρ σ H s G _ R S (Run.first h fun x G1 u ρ1 H1 st i h1 => ?_)
  unfold tyM at h1
  unfold bnd at h1
  dsimp only at h1
  split at h1
  · cases h1
  · rename_i x' g' e1
    split at e1
    · rename_i hx
      cases e1
      refine ⟨tyv_of (C := ⟨X.K, Ts, fw X.w⟩) st.rel hT hx i, ?_⟩
      exact ha.rf ρ1 σ H1 s G1 _ st.rel (S.step R st) (Run.first (k := o x) h1 fun ds G2 vs ρ2 H2 st2 j h2 => hd ρ2 G2 H2 x ds u vs Q E st2.rel (Is.step st.rel st2 i) j h2)
    · cases e1
  · rename_i e1
    split at e1 <;> cases e1
theorem de_bm0 {T id : String} {name : Str} {apos cpos : Pos} {r : V → List V → Hp → VK → Prop} {o : D → List D → M D} {ob : Expr} {to : TE} {mo : Sl → M D} (hT : T = "list" ∨ T = "dict" ∨ T = "str") (pa : PlainAttrs T) (slot : Slot T name id) (hty : typeOf (.builtin id) = pure (.type "method_descriptor")) (hm : MtR X id r) (hd : MtD ⟨X.K, Ts, fw X.w⟩ r T o) (ho : DE X Ts E ob to mo)
    (hbase : attributeBase ob name X.env (eval ob X.env) = eval ob X.env := by rfl) (hline : (apos.endLine == cpos.line) = true := by rfl) :
    DE X Ts E (.Call (.Attribute ob name apos) [] [] cpos) (tBM0 X.K T r to) (fun s => bnd (mo s) fun x => bnd (tyM T x) fun x => o x []) := by
  refine ⟨pe_bm0 pa slot hty hm ho.pe hbase hline, fun ρ σ H s G Q R S h => ?_⟩
  refine ho.rf ρ σ H s G _ R S (Run.first h fun x G1 u ρ1 H1 st i h1 => ?_)
  unfold tyM at h1
  unfold bnd at h1
  dsimp only at h1
  split at h1
  · cases h1
  · rename_i x' g' e1
    split at e1
    · rename_i hx
      cases e1
      exact ⟨tyv_of (C := ⟨X.K, Ts, fw X.w⟩) st.rel hT hx i, hd ρ1 G1 H1 x [] u [] Q E st.rel i .nil h1⟩
    · cases e1
  · rename_i e1
    split at e1 <;> cases e1
def appendD (x : D) (ds : List D) : M D := fun g => match x, ds with
  | .ref n, [d] => match g[n]? with
    | some (.lst xs) => if xs.length < LIM then .ok .non (g.set n (.lst (xs ++ [d]))) else .bad
    | _ => .bad
  | _, _ => .bad
theorem mtd_append : MtD C rAppend "list" appendD := by
  intro ρ G H x ds u vs Q E R i j h
  unfold appendD at h
  split at h
  · rename_i n d
    split at h
    · rename_i xs e1
      split at h
      · rename_i hc
        obtain ⟨p, ws, rfl, hn, hp, hl⟩ := R.lst e1 i
        obtain ⟨w, rfl, j2⟩ := isl_one j
        refine ⟨p, ws, w, rfl, rfl, hp, by rw [← hl.len]; exact lim_lt hc, ?_⟩
        exact h .non ρ _ (Step.write R hn hp (c := .lst (xs ++ [d])) ⟨_, rfl, hl.app (.cons j2 .nil)⟩) isNon
      · exact h.elim
    · exact h.elim
  · exact h.elim
def popAtD (x : D) (ds : List D) : M D := fun g => match x, ds with
  | .ref n, [.int i] => match g[n]? with
    | some (.lst xs) => if -(2 ^ 63) ≤ i ∧ i < 2 ^ 63 then match seqIndex? i xs.length with
        | some k => match xs[k]? with
          | some d => .ok d (g.set n (.lst (xs.eraseIdx k)))
          | none => .bad
        | none => .bad
      else .bad
    | _ => .bad
  | _, _ => .bad
theorem mtd_popAt : MtD C rPopAt "list" popAtD := by
  intro ρ G H x ds u vs Q E R i j h
  unfold popAtD at h
  split at h
  · rename_i n k0
    split at h
    · rename_i xs e1
      split at h
      · rename_i hc
        split at h
        · rename_i k ek
          split at h
          · rename_i d ed
            obtain ⟨p, ws, rfl, hn, hp, hl⟩ := R.lst e1 i
            obtain ⟨w, rfl, j2⟩ := isl_one j
            obtain ⟨y, e2, e3⟩ := hl.get ed
            refine ⟨p, ws, k0, k, y, rfl, by rw [is_int j2], hp, hc.1, hc.2, by rw [← hl.len]; exact ek, e2, ?_⟩
            have st := Step.write R hn hp (c := .lst (xs.eraseIdx k)) ⟨_, rfl, hl.erase k⟩
            exact h y ρ _ st (Is.step R st e3)
          · exact h.elim
        · exact h.elim
      · exact h.elim
    · exact h.elim
  · exact h.elim
def popD (x : D) (ds : List D) : M D := fun g => match x, ds with
  | .ref n, [] => match g[n]? with
    | some (.lst xs) => match xs[xs.length - 1]? with
      | some d => .ok d (g.set n (.lst xs.dropLast))
      | none => .bad
    | _ => .bad
  | _, _ => .bad
theorem IsL.dropLast {K : PySem.W.Frag} {ρ : List Addr} {H : Hp} {ds : List D} {vs : List V} (h : IsL K ρ H ds vs) : IsL K ρ H ds.dropLast vs.dropLast := by
  rw [List.dropLast_eq_take, List.dropLast_eq_take, ← h.len]
  exact h.take _
theorem mtd_pop : MtD C rPop "list" popD := by
  intro ρ G H x ds u vs Q E R i j h
  unfold popD at h
  split at h
  · split at h
    · rename_i xs e1
      split at h
      · rename_i d ed
        obtain ⟨p, ws, rfl, hn, hp, hl⟩ := R.lst e1 i
        have j : vs = [] := by have j : IsL C.K ρ H [] vs := j; simpa only [IsL] using j
        subst j
        obtain ⟨y, e2, e3⟩ := hl.get ed
        refine ⟨p, ws, y, rfl, rfl, hp, by rw [← hl.len]; exact e2, ?_⟩
        have st := Step.write R hn hp (c := .lst xs.dropLast) ⟨_, rfl, hl.dropLast⟩
        exact h y ρ _ st (Is.step R st e3)
      · exact h.elim
    · exact h.elim
  · exact h.elim
end
end DL
namespace DL
open PySem PySem.Spec PyProof.Rows L2
open Classical
noncomputable section
variable {X : Cx} {Ts : List Addr} {E : XK} {a b c e : Expr} {ta tb tc te : TE} {ma mb mc me : Sl → M D} {pos : Pos} {C : Ct} {es : List Expr} {t u : TT} {mt mu : Sl → M Bool} {tr : TA} {mr : Sl → M (List D)}
structure DS (X : Cx) (Ts : List Addr) (E : XK) (st : Stmt) (t : TS) (m : MS) : Prop where
  pe : PS X st t
  rf : ∀ ρ σ H s G Dn, Rel ⟨X.K, Ts, fw X.w⟩ ρ G H → Sls X.K ρ H σ s → RunS ⟨X.K, Ts, fw X.w⟩ ρ H (m s G) Dn E → t Dn σ H
structure DSs (X : Cx) (Ts : List Addr) (E : XK) (st : List Stmt) (t : TS) (m : MS) : Prop where
  pe : PSs X st t
  rf : ∀ ρ σ H s G Dn, Rel ⟨X.K, Ts, fw X.w⟩ ρ G H → Sls X.K ρ H σ s → RunS ⟨X.K, Ts, fw X.w⟩ ρ H (m s G) Dn E → t Dn σ H
def bndS {α : Type} (m : M α) (k : α → GS → RS) : GS → RS := fun g => match m g with
  | .bad => .bad
  | .ok a g' => k a g'
  | .ex c d g' => .ex c d g'
theorem RunS.step {ρ ρ1 : List Addr} {G1 : GS} {H H1 : Hp} {r : RS} {Dn : Ends} (st : Step C ρ H ρ1 G1 H1) (h : RunS C ρ H r Dn E) : RunS C ρ1 H1 r Dn E := by
  cases r with
  | bad => exact h
  | nx d G' => exact fun v ρ' H' s' i => h v ρ' H' (st.trans s') i
  | rt d G' => exact fun v ρ' H' s' i => h v ρ' H' (st.trans s') i
  | bk d G' => exact fun v ρ' H' s' i => h v ρ' H' (st.trans s') i
  | ct d G' => exact fun v ρ' H' s' i => h v ρ' H' (st.trans s') i
  | ex c d G' => exact ExOk.step st h
theorem RunS.first {α β : Type} {ρ : List Addr} {G : GS} {H : Hp} {Ok : List Addr → Hp → α → β → Prop} {m : M α} {k : α → GS → RS} {Dn : Ends} {Q1 : β → Hp → Prop} (h : RunS C ρ H (bndS m k G) Dn E)
    (hk : ∀ a G1 v ρ1 H1, Step C ρ H ρ1 G1 H1 → Ok ρ1 H1 a v → RunS C ρ1 H1 (k a G1) Dn E → Q1 v H1) : Run C ρ H Ok (m G) Q1 E := by
  unfold bndS at h
  cases e : m G with
  | bad => rw [e] at h; exact h
  | ok a G1 =>
    rw [e] at h
    exact fun v ρ1 H1 st i => hk a G1 v ρ1 H1 st i (RunS.step st h)
  | ex c d G1 => rw [e] at h; exact h
theorem RunS.nx {ρ : List Addr} {G : GS} {H : Hp} {s : Sl} {σ : L2.St} {Dn : Ends} (R : Rel C ρ G H) (S : Sls C.K ρ H σ s) (h : RunS C ρ H (.nx s G) Dn E) : Dn.nx σ H := h σ ρ H (Step.refl R) S
def seqS (m1 m2 : MS) : MS := fun s g => match m1 s g with
  | .nx s' g' => m2 s' g'
  | r => r
def skipS : MS := fun s g => .nx s g
theorem dss_nil : DSs X Ts E [] tNext skipS := ⟨pss_nil, fun ρ σ H s G Dn R S h => RunS.nx R S h⟩
variable {st : Stmt} {sts sts2 : List Stmt} {tS uS : TS} {m1 m2 : MS}
theorem rf_seq (h1 : ∀ ρ σ H s G Dn, Rel ⟨X.K, Ts, fw X.w⟩ ρ G H → Sls X.K ρ H σ s → RunS ⟨X.K, Ts, fw X.w⟩ ρ H (m1 s G) Dn E → tS Dn σ H) (h2 : ∀ ρ σ H s G Dn, Rel ⟨X.K, Ts, fw X.w⟩ ρ G H → Sls X.K ρ H σ s → RunS ⟨X.K, Ts, fw X.w⟩ ρ H (m2 s G) Dn E → uS Dn σ H)
    (ρ : List Addr) (σ : L2.St) (H : Hp) (s : Sl) (G : GS) (Dn : Ends) (R : Rel ⟨X.K, Ts, fw X.w⟩ ρ G H) (S : Sls X.K ρ H σ s) (h : RunS ⟨X.K, Ts, fw X.w⟩ ρ H (seqS m1 m2 s G) Dn E) : tSeq tS uS Dn σ H := by
  refine h1 ρ σ H s G _ R S ?_
  unfold seqS at h
  cases e : m1 s G with
  | nx s' g' =>
    rw [e] at h
    intro σ' ρ' H' st' S'
    exact h2 ρ' σ' H' s' g' Dn st'.rel S' (RunS.step st' h)
  | bad => rw [e] at h; exact h
  | rt d g' => rw [e] at h; exact h
  | bk d g' => rw [e] at h; exact h
  | ct d g' => rw [e] at h; exact h
  | ex c d g' => rw [e] at h; exact h
theorem dss_cons (h1 : DS X Ts E st tS m1) (h2 : DSs X Ts E sts uS m2) : DSs X Ts E (st :: sts) (tSeq tS uS) (seqS m1 m2) := ⟨pss_cons h1.pe h2.pe, rf_seq h1.rf h2.rf⟩
def dropS (me : Sl → M D) : MS := fun s => bndS (me s) fun _ g => .nx s g
theorem ds_expr (he : DE X Ts E e te me) (hs : swapsWith e none pos.line X.env = pure false := by rfl) : DS X Ts E (.Expr e pos) (tDrop te) (dropS me) := by
  refine ⟨ps_expr he.pe hs, fun ρ σ H s G Dn R S h => ?_⟩
  exact he.rf ρ σ H s G _ R S (RunS.first h fun d G1 v ρ1 H1 st i h1 => RunS.nx st.rel (S.step R st) h1)
def retS (me : Sl → M D) : MS := fun s => bndS (me s) fun d g => .rt d g
theorem ds_ret (he : DE X Ts E e te me) : DS X Ts E (.Return (some e) pos) (tRet te) (retS me) := by
  refine ⟨ps_ret he.pe, fun ρ σ H s G Dn R S h => ?_⟩
  exact he.rf ρ σ H s G _ R S (RunS.first h fun d G1 v ρ1 H1 st i h1 => h1 v ρ1 H1 (Step.refl st.rel) i)
def ifS (mc : Sl → M Bool) (m1 m2 : MS) : MS := fun s => bndS (mc s) fun b g => if b = true then m1 s g else m2 s g
theorem ds_if (hc : DT X Ts E c t mt) (ha : DSs X Ts E sts tS m1) (hb : DSs X Ts E sts2 uS m2) : DS X Ts E (.If c sts sts2 pos) (tIfS t tS uS) (ifS mt m1 m2) := by
  refine ⟨ps_if hc.pe ha.pe hb.pe, fun ρ σ H s G Dn R S h => ?_⟩
  refine hc.rf ρ σ H s G _ R S (RunS.first h fun d G1 v ρ1 H1 st i h1 => ?_)
  have i : d = v := i
  subst i
  cases d with
  | true =>
    rw [if_pos rfl] at h1 ⊢
    exact ha.rf ρ1 σ H1 s G1 Dn st.rel (S.step R st) h1
  | false =>
    rw [if_neg Bool.false_ne_true] at h1 ⊢
    exact hb.rf ρ1 σ H1 s G1 Dn st.rel (S.step R st) h1
def asgS (me : Sl → M D) (mg : D → Sl → M Sl) : MS := fun s => bndS (me s) fun d => bndS (mg d s) fun s' g => .nx s' g
theorem rf_asg {g : TG} {mg : D → Sl → M Sl} {own : List Nat} (he : ∀ ρ σ H s G Q, Rel ⟨X.K, Ts, fw X.w⟩ ρ G H → Sls X.K ρ H σ s → Run ⟨X.K, Ts, fw X.w⟩ ρ H (okD ⟨X.K, Ts, fw X.w⟩) (me s G) Q E → te σ H Q)
    (hg : ∀ ρ σ H s G d v (Q : L2.St → Hp → Prop), Rel ⟨X.K, Ts, fw X.w⟩ ρ G H → Sls X.K ρ H σ s → Is X.K ρ H d v → Run ⟨X.K, Ts, fw X.w⟩ ρ H (okG ⟨X.K, Ts, fw X.w⟩ own σ) (mg d s G) Q E → g v σ H Q)
    (ρ : List Addr) (σ : L2.St) (H : Hp) (s : Sl) (G : GS) (Dn : Ends) (R : Rel ⟨X.K, Ts, fw X.w⟩ ρ G H) (S : Sls X.K ρ H σ s) (h : RunS ⟨X.K, Ts, fw X.w⟩ ρ H (asgS me mg s G) Dn E) : tAsg te g Dn σ H := by
  refine he ρ σ H s G _ R S (RunS.first h fun d G1 v ρ1 H1 st i h1 => ?_)
  refine hg ρ1 σ H1 s G1 d v _ st.rel (S.step R st) i (RunS.first h1 fun s' G2 σ' ρ2 H2 st2 i2 h2 => ?_)
  exact RunS.nx st2.rel i2.1 h2
theorem ds_asg {tg : Expr} {g : TG} {mg : D → Sl → M Sl} {own : List Nat} (he : DE X Ts E e te me) (hg : DG X Ts E tg g mg own) (hs : swapsWithSole [tg] e pos.line X.env = pure false := by rfl) (hw : swappedStores [tg] e X.env = pure none := by rfl)
    (h1 : (assignEach [tg] X.env).map (·.2) = [assign tg X.env] := by rfl) : DS X Ts E (.Assign [tg] e pos) (tAsg te g) (asgS me mg) := ⟨ps_asg he.pe hg.pe hs hw h1, rf_asg he.rf hg.rf⟩
theorem ds_set {i : Nat} {x : Str} {pos' : Pos} (hN : X.N.Nodup) (hi : X.N[i]? = some x) (hx : Loc X.env.scope x) (he : DE X Ts E e te me) (hs : swapsWith e (some (.Name x pos')) pos.line X.env = pure false := by rfl)
    (hf : X.fn x = true ∨ X.env.scope.names.lookup x = some .local := by first | exact .inl rfl | exact .inr rfl | assumption) : DS X Ts E (.Assign [.Name x pos'] e pos) (tAsg te (gName i)) (asgS me (tgN i)) :=
  ⟨ps_set hN hi hx he.pe hs hf, rf_asg he.rf (dg_name (X := X) (E := E) (Ts := Ts) (pg_name (pos := pos') hN hi hx hf)).rf⟩
/-- o[i] = .. of a list -/
def setD (x i d : D) : M Unit := fun g => match x, i with
  | .ref n, .int k => match g[n]? with
    | some (.lst xs) => match ixN xs.length k with
      | some j => .ok () (g.set n (.lst (xs.set j d)))
      | none => .bad
    | _ => .bad
  | _, _ => .bad
def subG (mo mi : Sl → M D) (d : D) (s : Sl) : M Sl := bnd (mo s) fun x => bnd (mi s) fun i => bnd (setD x i d) fun _ => pur s
theorem run_set {ρ : List Addr} {G : GS} {H : Hp} {x i d : D} {u v w : V} {Q : Hp → Prop} {γ δ : Type} {Ok : List Addr → Hp → γ → δ → Prop} {k : Unit → M γ} {Q2 : δ → Hp → Prop} (R : Rel C ρ G H) (hx : Is C.K ρ H x u) (hi : Is C.K ρ H i v) (hd : Is C.K ρ H d w) (h : Run C ρ H Ok (bnd (setD x i d) k G) Q2 E)
    (hk : ∀ G1 H1, Step C ρ H ρ G1 H1 → Run C ρ H1 Ok (k () G1) Q2 E → Q H1) : rSetL u v w H Q := by
  unfold bnd setD at h
  cases x with
  | ref n =>
    cases i with
    | int k0 =>
      dsimp only at h
      cases e1 : G[n]? with
      | none => rw [e1] at h; exact h.elim
      | some cl =>
        cases cl with
        | dic _ => rw [e1] at h; exact h.elim
        | set _ => rw [e1] at h; exact h.elim
        | map _ => rw [e1] at h; exact h.elim
        | obj _ _ _ => rw [e1] at h; exact h.elim
        | lst xs =>
          rw [e1] at h
          dsimp only at h
          cases e2 : ixN xs.length k0 with
          | none => rw [e2] at h; exact h.elim
          | some j =>
            rw [e2] at h
            obtain ⟨p, vs, rfl, hn, hp, hl⟩ := R.lst e1 hx
            have st := Step.write (o := .lst (vs.set j w)) R hn hp (c := .lst (xs.set j d)) ⟨_, rfl, hl.set hd⟩
            exact ⟨p, vs, k0, j, rfl, is_int hi, hp, by rw [← hl.len]; exact e2, hk _ _ st (Run.step st h)⟩
    | _ => exact h.elim
  | _ => cases i <;> exact h.elim
theorem dg_sub {o i : Expr} {to ti : TE} {mo mi : Sl → M D} (ho : DE X Ts E o to mo) (hi : DE X Ts E i ti mi)
    (ha : ∀ v, assign (.Subscript o i pos) X.env v = (do
      let ov ← holding [v] (eval o X.env)
      let iv ← holding [v, ov] (eval i X.env)
      standAt pos
      holding [v, ov, iv] (setItem ov iv v)
      release [v, ov, iv] []) := by intro _; rfl) : DG X Ts E (.Subscript o i pos) (gSub to ti rSetL) (subG mo mi) [] := by
  refine ⟨pg_sub ho.pe hi.pe set_list ha, fun ρ σ H s G d v Q R S i' h => ?_⟩
  refine ho.rf ρ σ H s G _ R S (Run.first h fun x G1 u ρ1 H1 st ix h1 => ?_)
  refine hi.rf ρ1 σ H1 s G1 _ st.rel (S.step R st) (Run.first h1 fun y G2 v2 ρ2 H2 st2 iy h2 => ?_)
  refine run_set st2.rel (Is.step st.rel st2 ix) iy (Is.step st.rel st2 (Is.step R st i')) h2 fun G3 H3 st3 h3 => ?_
  exact Run.ret (Ok := okG ⟨X.K, Ts, fw X.w⟩ [] σ) st3.rel h3 ⟨((S.step R st).step st.rel st2).step st2.rel st3, rfl, fun i _ => rfl⟩
def loopM (w : Itm) (tg : D → Sl → M Sl) (body : MS) : List D → MS
  | [] => fun s g => if w.ok g then .nx s g else .bad
  | x :: xs => fun s g => if w.ok g then match tg x s g with
      | .ok s1 g1 => match body s1 g1 with
        | .nx s2 g2 => loopM w tg body xs s2 g2
        | .ct s2 g2 => loopM w tg body xs s2 g2
        | .bk s2 g2 => .nx s2 g2
        | .rt d g2 => .rt d g2
        | .ex c d g2 => .ex c d g2
        | .bad => .bad
      | .ex c d g1 => .ex c d g1
      | .bad => .bad
    else .bad
def forS (mi : Sl → M Itm) (tg : D → Sl → M Sl) (body : MS) : MS := fun s => bndS (mi s) fun w => loopM w tg body w.items s
theorem ds_for {iter tg : Expr} {wi : TI} {g : TG} {mi : Sl → M Itm} {tgm : D → Sl → M Sl} {own : List Nat} (hp : PassesOwn (model X.prog X.w) X.A X.env X.xe) (hc : X.calm = true) (hi : DI X Ts E tg iter wi mi) (hg : DG X Ts E tg g tgm own) (hb : DSs X Ts E sts tS m1)
    (hs : ∀ x, foldedSetIterable iter X.env x = pure x := by intro _; rfl) : DS X Ts E (.For tg iter sts [] pos) (tFor wi g tS) (forS mi tgm m1) := by
  refine ⟨ps_for hp hc hi.pe hg.pe hb.pe hs, fun ρ σ H s G Dn R S h => ?_⟩
  refine hi.rf ρ σ H s G _ R S (RunS.first h fun w G1 J ρ1 H1 st1 wk h1 => ?_)
  have wk : Walk ⟨X.K, Ts, fw X.w⟩ w ρ1 H1 J := wk
  refine ⟨fun i m σ' H' => m = w.items.length - i ∧ i ≤ w.items.length ∧ ∃ ρ' G' s', Step ⟨X.K, Ts, fw X.w⟩ ρ1 H1 ρ' G' H' ∧ Sls X.K ρ' H' σ' s' ∧ RunS ⟨X.K, Ts, fw X.w⟩ ρ' H' (loopM w tgm m1 (w.items.drop i) s' G') Dn E,
    ⟨w.items.length, by simp, Nat.zero_le _, ρ1, G1, s, Step.refl st1.rel, S.step R st1, h1⟩, ?_⟩
  rintro i m σ' H' ⟨rfl, hile, ρ', G', s', st, S', h2⟩
  by_cases hlt : i < w.items.length
  · have hd : w.items.drop i = w.items[i] :: w.items.drop (i + 1) := List.drop_eq_getElem_cons hlt
    have hx : w.items[i]? = some w.items[i] := List.getElem?_eq_getElem hlt
    rw [hd] at h2
    unfold loopM at h2
    by_cases hok : w.ok G'
    · rw [if_pos hok] at h2
      refine .inr ⟨wk.go i ρ' G' H' _ st hok hx, fun σ2 H2 => ∃ ρ2 G2 s2, Step ⟨X.K, Ts, fw X.w⟩ ρ1 H1 ρ2 G2 H2 ∧ Sls X.K ρ2 H2 σ2 s2 ∧ RunS ⟨X.K, Ts, fw X.w⟩ ρ2 H2 (loopM w tgm m1 (w.items.drop (i + 1)) s2 G2) Dn E,
        fun σ2 H2 q => ⟨w.items.length - (i + 1), by omega, rfl, hlt, q⟩, fun x H2 hy => ?_⟩
      obtain ⟨st2, hx2⟩ := wk.yld i ρ' G' H' x H2 _ st hok hx hy
      have st02 := st.trans st2
      refine hg.rf ρ' σ' H2 s' G' _ x _ st2.rel (S'.step st.rel st2) hx2 ?_
      have h2 := RunS.step st2 h2
      cases e1 : tgm w.items[i] s' G' with
      | bad => rw [e1] at h2; exact h2.elim
      | ex _ _ _ => rw [e1] at h2; exact h2
      | ok s1 g1 =>
        rw [e1] at h2
        dsimp only at h2
        intro σ3 ρ3 H3 st3 ⟨S3, _, _⟩
        have st03 := st02.trans st3
        have h3 := RunS.step st3 h2
        refine hb.rf ρ3 σ3 H3 s1 g1 _ st3.rel S3 ?_
        cases e2 : m1 s1 g1 with
        | bad => rw [e2] at h3; exact h3.elim
        | nx s2 g2 =>
          rw [e2] at h3
          intro σ4 ρ4 H4 st4 S4
          exact ⟨ρ4, g2, s2, st03.trans st4, S4, RunS.step st4 h3⟩
        | ct s2 g2 =>
          rw [e2] at h3
          intro σ4 ρ4 H4 st4 S4
          exact ⟨ρ4, g2, s2, st03.trans st4, S4, RunS.step st4 h3⟩
        | bk s2 g2 => rw [e2] at h3; exact h3
        | rt s2 g2 => rw [e2] at h3; exact h3
        | ex _ s2 g2 => rw [e2] at h3; exact h3
    · rw [if_neg hok] at h2
      exact h2.elim
  · have e : i = w.items.length := by omega
    subst e
    rw [List.drop_length] at h2
    unfold loopM at h2
    by_cases hok : w.ok G'
    · rw [if_pos hok] at h2
      exact .inl ⟨wk.stop ρ' G' H' st hok, RunS.nx st.rel S' h2⟩
    · rw [if_neg hok] at h2
      exact h2.elim
def whileM (mc : Sl → M Bool) (body : MS) : Nat → MS
  | 0 => fun _ _ => .bad
  | n + 1 => fun s g => match mc s g with
    | .ok true g1 => match body s g1 with
      | .nx s2 g2 => whileM mc body n s2 g2
      | .ct s2 g2 => whileM mc body n s2 g2
      | .bk s2 g2 => .nx s2 g2
      | .rt d g2 => .rt d g2
      | .ex c d g2 => .ex c d g2
      | .bad => .bad
    | .ok false g1 => .nx s g1
    | .ex c d g1 => .ex c d g1
    | .bad => .bad
def whileS (mc : Sl → M Bool) (body : MS) : MS := fun s g => if h : ∃ n, whileM mc body n s g ≠ .bad then whileM mc body h.choose s g else .bad
theorem whileM_mono {mc : Sl → M Bool} {body : MS} : ∀ {n m : Nat} {s : Sl} {g : GS}, n ≤ m → whileM mc body n s g ≠ .bad → whileM mc body m s g = whileM mc body n s g
  | 0, m, s, g, _, h => absurd rfl h
  | n + 1, 0, s, g, hl, h => absurd hl (Nat.not_succ_le_zero n)
  | n + 1, m + 1, s, g, hl, h => by
    unfold whileM at h ⊢
    cases e1 : mc s g with
    | bad => rfl
    | ex c d g1 => rfl
    | ok b g1 =>
      rw [e1] at h
      cases b with
      | false => rfl
      | true =>
        dsimp only at h ⊢
        cases e2 : body s g1 with
        | bad => rfl
        | nx s2 g2 => rw [e2] at h; exact whileM_mono (by omega) h
        | ct s2 g2 => rw [e2] at h; exact whileM_mono (by omega) h
        | bk s2 g2 => rfl
        | rt s2 g2 => rfl
        | ex _ s2 g2 => rfl
theorem whileS_eq {mc : Sl → M Bool} {body : MS} {n : Nat} {s : Sl} {g : GS} (h : whileM mc body n s g ≠ .bad) : whileS mc body s g = whileM mc body n s g := by
  have he : ∃ n, whileM mc body n s g ≠ .bad := ⟨n, h⟩
  unfold whileS
  rw [dif_pos he]
  rcases Nat.le_total he.choose n with hl | hl
  · exact (whileM_mono hl he.choose_spec).symm
  · exact whileM_mono hl h
theorem ds_while (hp : PassesOwn (model X.prog X.w) X.A X.env X.xe) (hc : DT X Ts E c t mt) (hb : DSs X Ts E sts tS m1) : DS X Ts E (.While c sts [] pos) (tWhile t tS) (whileS mt m1) := by
  refine ⟨ps_while hp hc.pe hb.pe, fun ρ σ H s G Dn R S h => ?_⟩
  have hn : ∃ n, RunS ⟨X.K, Ts, fw X.w⟩ ρ H (whileM mt m1 n s G) Dn E := by
    unfold whileS at h
    split at h
    · exact ⟨_, h⟩
    · exact h.elim
  obtain ⟨n0, h0⟩ := hn
  refine ⟨fun n σ' H' => ∃ ρ' G' s', Rel ⟨X.K, Ts, fw X.w⟩ ρ' G' H' ∧ Sls X.K ρ' H' σ' s' ∧ RunS ⟨X.K, Ts, fw X.w⟩ ρ' H' (whileM mt m1 n s' G') Dn E, ⟨n0, ρ, G, s, R, S, h0⟩, ?_⟩
  rintro n σ' H' ⟨ρ', G', s', R', S', h2⟩
  cases n with
  | zero => exact h2.elim
  | succ n =>
    unfold whileM at h2
    refine hc.rf ρ' σ' H' s' G' _ R' S' ?_
    cases e1 : mt s' G' with
    | bad => rw [e1] at h2; exact h2.elim
    | ex c d g1 => rw [e1] at h2; exact h2
    | ok b g1 =>
      rw [e1] at h2
      intro b' ρ1 H1 st1 eb
      have eb : b = b' := eb
      subst eb
      have h3 := RunS.step st1 h2
      cases b with
      | false =>
        rw [if_neg Bool.false_ne_true]
        exact RunS.nx st1.rel (S'.step R' st1) h3
      | true =>
        rw [if_pos rfl]
        dsimp only at h3
        refine ⟨fun σ2 H2 => ∃ ρ2 G2 s2, Rel ⟨X.K, Ts, fw X.w⟩ ρ2 G2 H2 ∧ Sls X.K ρ2 H2 σ2 s2 ∧ RunS ⟨X.K, Ts, fw X.w⟩ ρ2 H2 (whileM mt m1 n s2 G2) Dn E, fun σ2 H2 q => ⟨n, Nat.lt_succ_self n, q⟩, ?_⟩
        refine hb.rf ρ1 σ' H1 s' g1 _ st1.rel (S'.step R' st1) ?_
        cases e2 : m1 s' g1 with
        | bad => rw [e2] at h3; exact h3.elim
        | nx s2 g2 =>
          rw [e2] at h3
          intro σ4 ρ4 H4 st4 S4
          exact ⟨ρ4, g2, s2, st4.rel, S4, RunS.step st4 h3⟩
        | ct s2 g2 =>
          rw [e2] at h3
          intro σ4 ρ4 H4 st4 S4
          exact ⟨ρ4, g2, s2, st4.rel, S4, RunS.step st4 h3⟩
        | bk s2 g2 => rw [e2] at h3; exact h3
        | rt s2 g2 => rw [e2] at h3; exact h3
        | ex _ s2 g2 => rw [e2] at h3; exact h3
end
end DL
namespace DL
open PySem PySem.Spec PyProof.Rows L2
open Classical
noncomputable section
variable {X : Cx} {Ts : List Addr} {E : XK} {a b c e : Expr} {ta tb tc te : TE} {ma mb mc me : Sl → M D} {pos : Pos} {C : Ct} {es : List Expr} {t u : TT} {mt mu : Sl → M Bool} {tr : TA} {mr : Sl → M (List D)}
mutual
def D.und (n : Nat) : D → Bool
  | .non => true
  | .bl _ => true
  | .int _ => true
  | .str _ => true
  | .tup ds => undL n ds
  | .ref m => decide (m < n)
  | .ins _ _ ds => undL n ds
  | .scr _ => true
  | .ty _ => true
  | .cls _ => true
  | .exc _ _ d => d.und n
  | .dct _ _ ds => undL n ds
def undL (n : Nat) : List D → Bool
  | [] => true
  | d :: ds => d.und n && undL n ds
end
def Cell.below (n : Nat) : Cell → Bool
  | .lst ds => undL n ds
  | .dic ds => ds.all fun p => p.2.und n
  | .set _ => true
  | .map ds => ds.all fun p => p.2.und n
  | .obj _ _ ds => undL n ds
theorem prefix_get {α : Type} {l m : List α} (h : l <+: m) {i : Nat} {x : α} (hi : i < l.length) (e : m[i]? = some x) : l[i]? = some x := by
  obtain ⟨t, rfl⟩ := h
  rwa [List.getElem?_append_left hi] at e
mutual
theorem Is.trim {K : PySem.W.Frag} {ρ ρ' : List Addr} {H : Hp} (hp : ρ <+: ρ') : ∀ (d : D) (v : V), d.und ρ.length = true → Is K ρ' H d v → Is K ρ H d v
  | .non, v, _, h => by simpa only [Is] using h
  | .bl b, v, _, h => by simpa only [Is] using h
  | .int i, v, _, h => by simpa only [Is] using h
  | .str x, v, _, h => by simpa only [Is] using h
  | .tup ds, v, hb, h => by
    simp only [Is] at h ⊢
    obtain ⟨a, vs, e, h1, h2⟩ := h
    exact ⟨a, vs, e, h1, IsL.trim hp ds vs (by simpa only [D.und] using hb) h2⟩
  | .ref n, v, hb, h => by
    simp only [Is] at h ⊢
    obtain ⟨a, e, h1⟩ := h
    exact ⟨a, e, prefix_get hp (by simpa only [D.und, decide_eq_true_eq] using hb) h1⟩
  | .ins c ns ds, v, hb, h => by
    simp only [Is] at h ⊢
    obtain ⟨a, dx, vs, fs, e, h1, h2, h3⟩ := h
    exact ⟨a, dx, vs, fs, e, h1, h2, IsL.trim hp ds vs (by simpa only [D.und] using hb) h3⟩
  | .scr ns, v, _, h => by simpa only [Is] using h
  | .ty n, v, _, h => by simpa only [Is] using h
  | .cls c, v, _, h => by simpa only [Is] using h
  | .exc a q d, v, hb, h => by
    simp only [Is] at h ⊢
    obtain ⟨e, u, h1, h2⟩ := h
    exact ⟨e, u, h1, Is.trim hp d u (by simpa only [D.und] using hb) h2⟩
  | .dct hf ks ds, v, hb, h => by
    simp only [Is] at h ⊢
    obtain ⟨a, ob, L, vs, e, h1, h2, h5⟩ := h
    exact ⟨a, ob, L, vs, e, h1, h2, IsL.trim hp ds vs (by simpa only [D.und] using hb) h5⟩
theorem IsL.trim {K : PySem.W.Frag} {ρ ρ' : List Addr} {H : Hp} (hp : ρ <+: ρ') : ∀ (ds : List D) (vs : List V), undL ρ.length ds = true → IsL K ρ' H ds vs → IsL K ρ H ds vs
  | [], vs, _, h => by simpa only [IsL] using h
  | d :: ds, vs, hb, h => by
    simp only [IsL] at h ⊢
    simp only [undL, Bool.and_eq_true] at hb
    obtain ⟨v, r, e, h1, h2⟩ := h
    exact ⟨v, r, e, Is.trim hp d v hb.1 h1, IsL.trim hp ds r hb.2 h2⟩
end
theorem IsK.trim {K : PySem.W.Frag} {ρ ρ' : List Addr} {H : Hp} (hp : ρ <+: ρ') : ∀ {ds : List (Key × D)} {vs : List (Key × V)}, ds.all (fun p => p.2.und ρ.length) = true → IsK K ρ' H ds vs → IsK K ρ H ds vs
  | _, _, _, .nil => .nil
  | _, _, hb, .cons h t => by
    rw [List.all_cons, Bool.and_eq_true] at hb
    exact .cons ⟨h.1, Is.trim hp _ _ hb.1 h.2⟩ (IsK.trim hp hb.2 t)
theorem IsN.trim {K : PySem.W.Frag} {ρ ρ' : List Addr} {H : Hp} (hp : ρ <+: ρ') : ∀ {ds : List (DN.NK × D)} {L : List DN.DEnt}, ds.all (fun p => p.2.und ρ.length) = true → IsN K ρ' H ds L → IsN K ρ H ds L
  | _, _, _, .nil => .nil
  | _, _, hb, .cons h t => by
    rw [List.all_cons, Bool.and_eq_true] at hb
    exact .cons ⟨h.1, h.2.1, Is.trim hp _ _ hb.1 h.2.2⟩ (IsN.trim hp hb.2 t)
theorem CellIs.trim {K : PySem.W.Frag} {ρ ρ' : List Addr} {H : Hp} (hp : ρ <+: ρ') {fo : Fo} {a : Addr} {c : Cell} {o : HO} (hb : c.below ρ.length = true) (h : CellIs K ρ' H fo a c o) : CellIs K ρ H fo a c o := by
  cases c with
  | lst ds => obtain ⟨vs, e, h⟩ := h; exact ⟨vs, e, h.trim hp _ _ hb⟩
  | dic ds => obtain ⟨vs, e, h⟩ := h; exact ⟨vs, e, IsK.trim hp hb h⟩
  | set ks => exact h
  | map ds => obtain ⟨L, e, h⟩ := h; exact ⟨L, e, IsN.trim hp hb h⟩
  | obj C ns ds => obtain ⟨dx, vs, fs, e, h2, h⟩ := h; exact ⟨dx, vs, fs, e, h2, h.trim hp _ _ hb⟩
def belowG (n : Nat) (g : GS) : Bool := g.all (Cell.below n)
theorem Step.cut {ρ ρ' : List Addr} {G G' : GS} {H H' : Hp} (R : Rel C ρ G H) (st : Step C ρ H ρ' G' H') (hb : belowG G.length (G'.take G.length) = true) : Step C ρ H ρ (G'.take G.length) H' := by
  have hl : ρ.length = G.length := R.len
  have hle : ρ.length ≤ ρ'.length := st.pre.length_le
  refine ⟨List.prefix_refl _, st.ext, ⟨?_, st.rel.nd.sublist st.pre.sublist, fun i c a h1 h2 => ?_, st.rel.tab⟩, fun a h n => absurd h n⟩
  · rw [List.length_take, ← st.rel.len, ← hl]
    omega
  · have hi : i < G.length := by
      have := (List.getElem?_eq_some_iff.mp h1).1
      rw [List.length_take] at this
      omega
    have hc : c.below ρ.length = true := by
      rw [hl]
      exact List.all_eq_true.mp hb c (List.mem_of_getElem? h1)
    rw [List.getElem?_take_of_lt hi] at h1
    obtain ⟨o, e, q⟩ := st.rel.cell i c a h1 (ix_pre st.pre h2)
    exact ⟨o, e, CellIs.trim st.pre hc q⟩
/-- new cells that nothing names are forgotten -/
def gcR (n : Nat) : R D → R D
  | .ok d g => if (d.und n && belowG n (g.take n)) = true then .ok d (g.take n) else .ok d g
  | .ex c d g => if (d.und n && belowG n (g.take n)) = true then .ex c d (g.take n) else .ex c d g
  | .bad => .bad
theorem Run.gc {ρ : List Addr} {G : GS} {H : Hp} {r : R D} {Q : VK} (R : Rel C ρ G H) (h : Run C ρ H (okD C) (gcR G.length r) Q E) : Run C ρ H (okD C) r Q E := by
  cases r with
  | bad => exact h
  | ok d g =>
    unfold gcR at h
    dsimp only at h
    by_cases hc : (d.und G.length && belowG G.length (g.take G.length)) = true
    · rw [if_pos hc] at h
      rw [Bool.and_eq_true] at hc
      intro v ρ' H' st i
      exact h v ρ H' (st.cut R hc.2) (Is.trim st.pre _ _ (by rw [R.len]; exact hc.1) i)
    · rw [if_neg hc] at h
      exact h
  | ex c d g =>
    unfold gcR at h
    dsimp only at h
    by_cases hc : (d.und G.length && belowG G.length (g.take G.length)) = true
    · rw [if_pos hc] at h
      rw [Bool.and_eq_true] at hc
      intro p v ρ' H' st e i
      exact h p v ρ H' (st.cut R hc.2) e (Is.trim st.pre _ _ (by rw [R.len]; exact hc.1) i)
    · rw [if_neg hc] at h
      exact h
def endR : RS → R D
  | .rt d g => .ok d g
  | .nx _ g => .ok .non g
  | .ex c d g => .ex c d g
  | _ => .bad
/-- np parameters, k slots -/
def fnM (np k : Nat) (ms : MS) (ds : List D) : M D := fun g => if ds.length = np then gcR g.length (endR (ms (ds.map some ++ List.replicate (k - np) none) g)) else .bad
def spD (C : Ct) (F : List D → M D) : Sp := fun vs H Q E => ∃ ρ G ds, Rel C ρ G H ∧ IsL C.K ρ H ds vs ∧ Run C ρ H (okD C) (F ds G) Q E
theorem sls_start {K : PySem.W.Frag} {ρ : List Addr} {H : Hp} {N : List Str} {ds : List D} {vs : List V} {n : Nat} (h : IsL K ρ H ds vs) (hn : ds.length = n) : Sls K ρ H (L2.start N vs) (ds.map some ++ List.replicate (N.length - n) none) := by
  have hl : ds.length = vs.length := h.len
  unfold L2.start
  refine ⟨by rw [List.length_append, List.length_append, List.length_map, List.length_map, List.length_replicate, List.length_replicate, ← hl, hn], fun i d e => ?_⟩
  by_cases hi : i < ds.length
  · rw [List.getElem?_append_left (by rw [List.length_map]; exact hi), List.getElem?_map] at e
    cases q : ds[i]? with
    | none => rw [q] at e; cases e
    | some d' =>
      rw [q] at e
      cases e
      obtain ⟨v, e1, e2⟩ := h.get q
      exact ⟨v, by rw [List.getElem?_append_left (by rw [List.length_map, ← hl]; exact hi), List.getElem?_map, e1]; rfl, e2⟩
  · rw [List.getElem?_append_right (by rw [List.length_map]; omega), List.getElem?_replicate] at e
    split at e <;> cases e
section
variable {P : Program} {w : World} {K : PySem.W.Frag} {mg : Str → Option Value} {base : Heap} {x qual : Str} {params : Arguments} {body : List Stmt} {scope : Scope} {dvs : List V} {kws : List (Str × V)} {p : Str × Option Str} {fd : FuncData}
/-- the def's own code object is the one that the table belongs to -/
theorem fn_D {N ps : List Str} {k : Nat} {ms : MS} (F : FunD K x qual params body scope dvs kws (He.fAd K p) fd) (S : FnScope N ps scope) (np nN : Nat) (hnp : ps.length = np) (hnN : N.length = nN)
    (hbody : ∀ (A : Around) (outer : List Env) (s : Shared) (H : Hp) (E : XK), Room k (A.deeper (envOfC qual scope s.heap.objs.size (He.fAd K p) (.ref (He.codeOf K p)))) →
      ∃ t, DSs (cxOf (L2.CX P w) P w K mg base N qual scope (He.fAd K p) (.ref (He.codeOf K p)) A outer s H E) Ts E body t ms) :
    FnOk P w K mg base (L2.CX P w) (k + 1) (He.fAd K p) fd ps (spD ⟨K, Ts, fw w⟩ (fnM np nN ms)) := by
  obtain ⟨oc, od, dV, kV, doc, pm, an, cdv, ct, osl, rfl, lk, hcd, _, _⟩ := F.ex
  obtain ⟨cc, rfl⟩ := He.codeIn_ref hcd
  have ec : He.codeOf K p = cc := He.codeOf_eq lk rfl
  subst hnp hnN
  refine fn_of lk hcd S (fun vs H Q E h => ?_) fun A outer s H vs Q E hr h => ?_
  · obtain ⟨ρ, G, ds, R, i, h⟩ := h
    unfold fnM at h
    by_cases hd : ds.length = ps.length
    · rw [← hd]; exact i.len.symm
    · rw [if_neg hd] at h
      exact h.elim
  · obtain ⟨ρ, G, ds, R, i, h⟩ := h
    unfold fnM at h
    by_cases hd : ds.length = ps.length
    · rw [if_pos hd] at h
      have h := Run.gc R h
      subst ec
      obtain ⟨t, ht⟩ := hbody A outer s H E hr
      refine ⟨t, ht.pe, ht.rf ρ (L2.start N vs) H _ G _ R (sls_start i hd) ?_⟩
      generalize hrs : ms (ds.map some ++ List.replicate (N.length - ps.length) none) G = rs at h ⊢
      cases rs with
      | bad => exact h
      | bk _ _ => exact h.elim
      | ct _ _ => exact h.elim
      | rt d g => exact h
      | ex c d g => exact h
      | nx s' g => exact fun σ' ρ' H' st _ => h .non ρ' H' st isNon
    · rw [if_neg hd] at h
      exact h.elim
end
/-- a def as callers see it -/
structure Own (P : Program) (w : World) (K : PySem.W.Frag) (mg : Str → Option Value) (base : Heap) (Ts : List Addr) (k : Nat) (x : Str) (F : List D → M D) : Prop where
  ex : ∃ (f : Addr) (fd : FuncData) (ps : List Str), FnOk P w K mg base (L2.CX P w) k f fd ps (spD ⟨K, Ts, fw w⟩ F) ∧ mg x = some (.ref f) ∧ PySem.W.keepIn K (.ref f) = true ∧ Binds K fd ps []
abbrev PsE (X : Cx) (E : XK) : Prop := Passes (L2.CX X.prog X.w) X E
theorem psE_of {P : Program} {w : World} {K : PySem.W.Frag} {mg : Str → Option Value} {base : Heap} {N : List Str} {qual : Str} {scope : Scope} {f : Addr} {cd : Value} {A : Around} {outer : List Env} {s : Shared} {H : Hp} {E : XK} :
    PsE (cxOf (L2.CX P w) P w K mg base N qual scope f cd A outer s H E) E := passes_call (takes_of (E := E) rfl rfl rfl rfl) fun _ _ _ _ h => h
theorem psE0 : PsE X E0 := fun _ _ _ _ _ _ _ ⟨_, _, _, _, _, _, _, _, _, _, _, _, h⟩ => h.elim
theorem rf_call {F : List D → M D} (ha : DA X Ts E es tr mr) (ρ : List Addr) (σ : L2.St) (H : Hp) (s : Sl) (G : GS) (Q : VK) (R : Rel ⟨X.K, Ts, fw X.w⟩ ρ G H) (S : Sls X.K ρ H σ s) (h : Run ⟨X.K, Ts, fw X.w⟩ ρ H (okD ⟨X.K, Ts, fw X.w⟩) (bnd (mr s) F G) Q E) : tCall (spD ⟨X.K, Ts, fw X.w⟩ F) [] E tr σ H Q := by
  refine ha.rf ρ σ H s G _ R S (Run.map R h fun ds G1 vs ρ1 H1 R1 i h1 => ?_)
  exact ⟨ρ1, G1, ds, R1, by rw [List.append_nil]; exact i, h1⟩
theorem de_own {k : Nat} {x : Str} {F : List D → M D} {p pos : Pos} (h : Own X.prog X.w X.K X.mg X.base Ts k x F) (hr : Room k X.A) (hg : Gl X x) (hx : PsE X E) (ha : DA X Ts E (e :: es) tr mr) (hdb : (x == ("__debug__" : Str)) = false := by decide)
    (he : starEach (e :: es) X.env = (false, eval e X.env) :: starEach es X.env := by rfl) (hpl : (backTo pos (starEach es X.env)).any (·.1) = false := by rfl) :
    DE X Ts E (.Call (.Name x p) (e :: es) [] pos) (tCall (spD ⟨X.K, Ts, fw X.w⟩ F) [] E tr) (fun s => bnd (mr s) F) := by
  obtain ⟨f, fd, ps, hF, hm, hk, hb⟩ := h.ex
  exact ⟨pe_call hF hr hg hm hk hb .nil hx ha.pe hdb he hpl, rf_call ha⟩
/-- the script as data: locked or of the written part; or a list that may be written -/
theorem script_in {K : PySem.W.Frag} {ff : Fo} {H : Hp} {a : Addr} {ns : List Int} (hT : ∀ P ∈ Ts, GxR.TabG H P) (h : SqL K H a (ns.map V.int)) :
    (Rel ⟨K, Ts, ff⟩ [] [] H ∧ IsL K [] H [.scr ns] [.ref a]) ∨ (Rel ⟨K, Ts, ff⟩ [a] [.lst (ns.map D.int)] H ∧ IsL K [a] H [.ref 0] [.ref a]) := by
  have all : ∀ {ns : List Int} {ρ : List Addr}, IsL K ρ H (ns.map D.int) (ns.map V.int) := fun {ns ρ} => by
    induction ns with
    | nil => exact .nil
    | cons n ns ih => exact .cons isInt ih
  have fz : FzL K H a (ns.map V.int) → (Rel ⟨K, Ts, ff⟩ [] [] H ∧ IsL K [] H [.scr ns] [.ref a]) := fun h1 => by
    refine ⟨⟨rfl, List.nodup_nil, fun i c a' e => ?_, hT⟩, .cons ?_ .nil⟩
    · simp at e
    · simp only [Is]
      exact ⟨a, rfl, h1⟩
  rcases h with (h | h) | h
  · refine .inr ⟨⟨rfl, by simp, fun i c a' e e' => ?_, hT⟩, .cons ?_ .nil⟩
    · cases i with
      | zero =>
        have e : Cell.lst (ns.map D.int) = c := by simpa using e
        have e' : a = a' := by simpa using e'
        subst e e'
        exact ⟨_, h, _, rfl, all⟩
      | succ i => simp at e
    · simp only [Is]
      exact ⟨a, rfl, rfl⟩
  · exact .inl (fz (.inl h))
  · exact .inl (fz (.inr h))
theorem law_in {C : Ct} {F : List D → M D} {H : Hp} {a : Addr} {ns : List Int} (hT : ∀ P ∈ C.Ts, GxR.TabG H P) (h : SqL C.K H a (ns.map V.int)) (h1 : ∃ g, F [.scr ns] [] = .ok (.bl true) g) (h2 : ∃ g, F [.ref 0] [.lst (ns.map D.int)] = .ok (.bl true) g) :
    spD C F [.ref a] H (fun v _ => v = .bl true) fun _ _ _ => False := by
  obtain ⟨K, Ts, ff⟩ := C
  rcases script_in (ff := ff) hT h with ⟨R, i⟩ | ⟨R, i⟩
  · obtain ⟨g, e⟩ := h1
    exact ⟨[], [], _, R, i, by rw [e]; exact fun v ρ' H' st i => is_bl i⟩
  · obtain ⟨g, e⟩ := h2
    exact ⟨[a], _, _, R, i, by rw [e]; exact fun v ρ' H' st i => is_bl i⟩
end
end DL
namespace DL
open PySem PySem.Spec PyProof.Rows L2
open Classical
noncomputable section
variable {X : Cx} {Ts : List Addr} {E : XK} {a b c e : Expr} {ta tb tc te : TE} {ma mb mc me : Sl → M D} {pos : Pos} {C : Ct} {es : List Expr} {t u : TT} {mt mu : Sl → M Bool} {tr : TA} {mr : Sl → M (List D)}
theorem hu64 {k : Nat} {A : Around} (hr : Room k A) : A.units + 64 < cLine := by
  have := hr.un
  omega
theorem pown_of {P : Program} {w : World} {K : PySem.W.Frag} {mg : Str → Option Value} {base : Heap} {N : List Str} {qual : Str} {scope : Scope} {f : Addr} {cd : Value} {A : Around} {outer : List Env} {s : Shared} {H : Hp} {E : XK} :
    PassesOwn (model P w) (cxOf (L2.CX P w) P w K mg base N qual scope f cd A outer s H E).A (cxOf (L2.CX P w) P w K mg base N qual scope f cd A outer s H E).env (cxOf (L2.CX P w) P w K mg base N qual scope f cd A outer s H E).xe :=
  passes_of (X := cxOf (L2.CX P w) P w K mg base N qual scope f cd A outer s H E) rfl
def kindB (a : Option NameKind) (k : NameKind) : Bool := match a, k with
  | some .local, .local => true
  | some .cell, .cell => true
  | some .free, .free => true
  | some .globalImplicit, .globalImplicit => true
  | some .globalExplicit, .globalExplicit => true
  | _, _ => false
theorem kindB_ok {a : Option NameKind} {k : NameKind} (h : kindB a k = true) : a = some k := by
  unfold kindB at h
  split at h <;> first | rfl | cases h
def ixB (N : List Str) (p : Str × Nat) : Bool := match N[p.2]? with
  | some y => y == p.1
  | none => false
def blkB (N : List Str) (sc scope : Scope) (own : List (Str × Nat)) : Bool :=
  kindB (match scope.kind with | .function => some .local | _ => none) .local && scope.names.all (fun y => kindB (scope.names.lookup y.1) y.2) && own.all (ixB N) &&
  scope.names.all (fun y => match y.2 with | .free => kindB (sc.names.lookup y.1) .cell || kindB (sc.names.lookup y.1) .free | _ => true) &&
  scope.names.all (fun y => match y.2 with | .local => own.any (fun p => p.1 == y.1) || !(N.any fun n => n == y.1) | .cell => own.any (fun p => p.1 == y.1) || !(N.any fun n => n == y.1) | _ => true)
theorem blk_of {N : List Str} {sc scope : Scope} {own : List (Str × Nat)} (h : blkB N sc scope own = true) : BlkOk N sc scope own := by
  unfold blkB at h
  simp only [Bool.and_eq_true, List.all_eq_true] at h
  obtain ⟨⟨⟨⟨h1, h2⟩, h3⟩, h4⟩, h5⟩ := h
  have key : ∀ y : Str × NameKind, (own.any (fun p => p.1 == y.1) || !(N.any fun n => n == y.1)) = true → y.1 ∈ own.map (·.1) ∨ y.1 ∉ N := fun y z => by
    rw [Bool.or_eq_true] at z
    rcases z with z | z
    · obtain ⟨p, hp, e⟩ := List.any_eq_true.mp z
      exact .inl (List.mem_map.mpr ⟨p, hp, eq_of_beq e⟩)
    · refine .inr fun hm => ?_
      have w : (N.any fun n => n == y.1) = true := List.any_eq_true.mpr ⟨y.1, hm, beq_self_eq_true _⟩
      rw [w] at z
      cases z
  refine ⟨?_, fun y hy => kindB_ok (h2 y hy), fun p hp => ?_, fun y hy e => ?_, fun y hy e => ?_⟩
  · cases q : scope.kind with
    | function => rfl
    | _ => rw [q] at h1; cases h1
  · have z := h3 p hp
    unfold ixB at z
    cases q : N[p.2]? with
    | none => rw [q] at z; cases z
    | some y =>
      rw [q] at z
      rw [eq_of_beq z]
  · have z := h4 y hy
    rw [e] at z
    rw [Bool.or_eq_true] at z
    exact z.imp kindB_ok kindB_ok
  · have z := h5 y hy
    rcases e with e | e <;> rw [e] at z <;> exact key y z
def genB (scope : Scope) : Bool := !scope.isCoroutine && scope.names.all (fun y => match y.2 with | .cell => false | _ => true) && kindB (scope.names.lookup (".0" : Str)) .local
theorem gen_of {scope : Scope} (h : genB scope = true) : scope.isCoroutine = false ∧ (∀ y ∈ scope.names, y.2 ≠ .cell) ∧ scope.names.lookup (".0" : Str) = some NameKind.local := by
  unfold genB at h
  simp only [Bool.and_eq_true, List.all_eq_true] at h
  obtain ⟨⟨h1, h2⟩, h3⟩ := h
  refine ⟨by simpa using h1, fun y hy e => ?_, kindB_ok h3⟩
  have z := h2 y hy
  rw [e] at z
  cases z
def negI (x : D) : M D := match x with
  | .int i => pur (.int (-i))
  | _ => fail
theorem de_neg (ha : DE X Ts E a ta ma) : DE X Ts E (.UnaryOp .USub a pos) (tUn (rU fun i => .int (-i)) ta) (fun s => bnd (ma s) negI) := by
  refine ⟨pe_un un_neg ha.pe, fun ρ σ H s G Q R S h => ?_⟩
  refine ha.rf ρ σ H s G _ R S (Run.map R h fun d G1 v ρ1 H1 R1 i h1 => ?_)
  unfold negI at h1
  cases d with
  | int k => exact ⟨k, is_int i, Run.ret (Ok := okD ⟨X.K, Ts, fw X.w⟩) R1 h1 isInt⟩
  | _ => exact h1.elim
/-- a reading told for each frame, that is the same for all -/
def g0 {α : Type _} (g : Shared → Hp → Addr → List (Str × Addr) → List Addr → α) : α := g {} (fun _ => none) 0 [] []
def g1 {α : Type _} (g : Shared → Hp → Addr → List (Str × Addr) → Value → List Addr → List (Addr × Obj) → α) : α := g {} (fun _ => none) 0 [] .none [] []
section
variable {elt tg iter : Expr} {ifs : List Expr} {scope : Scope} {own : List (Str × Nat)} {wi : TI} {g : Shared → Hp → Addr → List (Str × Addr) → List Addr → TG} {tt : Shared → Hp → Addr → List (Str × Addr) → List Addr → TT} {te : Shared → Hp → Addr → List (Str × Addr) → List Addr → TE} {mi : Sl → M Itm} {tgm : D → Sl → M Sl} {mcond : Sl → M Bool} {melt : Sl → M D} {vs : List Nat}
theorem de_lcB (own : List (Str × Nat)) (hc : X.calm = true) (hN : X.N.Nodup) (ok : blkB X.N X.env.scope scope own = true) (hvs : own.map (·.2) = vs) (hi : DI X Ts E tg iter wi mi)
    (hg : ∀ (s : Shared) (H : Hp) (C : Addr) (cl : List (Str × Addr)) (fp : List Addr), DG (X.blk s H scope (compEnvC scope cl C X.env) fp) Ts E0 tg (g s H C cl fp) tgm vs)
    (ht : ∀ (s : Shared) (H : Hp) (C : Addr) (cl : List (Str × Addr)) (fp : List Addr), DTs (X.blk s H scope (compEnvC scope cl C X.env) fp) Ts ifs (tt s H C cl fp) mcond)
    (he : ∀ (s : Shared) (H : Hp) (C : Addr) (cl : List (Str × Addr)) (fp : List Addr), DE (X.blk s H scope (compEnvC scope cl C X.env) fp) Ts E0 elt (te s H C cl fp) melt) (hs : ∀ x, foldedSetIterable iter X.env x = pure x := by intro _; rfl)
    (cg : ∀ s H C cl fp, g s H C cl fp = g0 g := by intros; rfl) (ct : ∀ s H C cl fp, tt s H C cl fp = g0 tt := by intros; rfl) (ce : ∀ s H C cl fp, te s H C cl fp = g0 te := by intros; rfl) :
    DE X Ts E (.ListComp elt [⟨tg, iter, ifs, 0⟩] scope pos) (tLc wi (g0 g) (g0 tt) (g0 te) (own.map (·.2))) (fun s => bnd (compD mi tgm mcond melt vs s) newL) := de_lc hc hN hi (blk_of ok) hvs (fun s H C cl fp => cg s H C cl fp ▸ hg s H C cl fp) (fun s H C cl fp => ct s H C cl fp ▸ ht s H C cl fp) (fun s H C cl fp => ce s H C cl fp ▸ he s H C cl fp) hs
theorem de_tupLcB {p pos lpos : Pos} (own : List (Str × Nat)) (hgl : Gl X "tuple") (hm : X.mg "tuple" = none) (hc : X.calm = true) (hN : X.N.Nodup) (ok : blkB X.N X.env.scope scope own = true) (hvs : own.map (·.2) = vs) (hi : DI X Ts E tg iter wi mi)
    (hg : ∀ (s : Shared) (H : Hp) (C : Addr) (cl : List (Str × Addr)) (fp : List Addr), DG (X.blk s H scope (compEnvC scope cl C X.env) fp) Ts E0 tg (g s H C cl fp) tgm vs)
    (ht : ∀ (s : Shared) (H : Hp) (C : Addr) (cl : List (Str × Addr)) (fp : List Addr), DTs (X.blk s H scope (compEnvC scope cl C X.env) fp) Ts ifs (tt s H C cl fp) mcond)
    (he : ∀ (s : Shared) (H : Hp) (C : Addr) (cl : List (Str × Addr)) (fp : List Addr), DE (X.blk s H scope (compEnvC scope cl C X.env) fp) Ts E0 elt (te s H C cl fp) melt) (hs : ∀ x, foldedSetIterable iter X.env x = pure x := by intro _; rfl)
    (cg : ∀ s H C cl fp, g s H C cl fp = g0 g := by intros; rfl) (ct : ∀ s H C cl fp, tt s H C cl fp = g0 tt := by intros; rfl) (ce : ∀ s H C cl fp, te s H C cl fp = g0 te := by intros; rfl)
    (hst : starEach [.ListComp elt [⟨tg, iter, ifs, 0⟩] scope lpos] X.env = (false, eval (.ListComp elt [⟨tg, iter, ifs, 0⟩] scope lpos) X.env) :: starEach [] X.env := by rfl) :
    DE X Ts E (.Call (.Name "tuple" p) [.ListComp elt [⟨tg, iter, ifs, 0⟩] scope lpos] [] pos) (tCB (fun xs H Q => ∃ p ys, xs = [.ref p] ∧ ((SqL X.K H p ys ∧ ∀ l, H l = none → Q (.ref l) (upd H l (.tup ys))) ∨ (SqT X.K H p ys ∧ Q (.ref p) H))) (tCons (tLc wi (g0 g) (g0 tt) (g0 te) (own.map (·.2))) tNil))
      (fun s => bnd (compD mi tgm mcond melt vs s) fun ds => pur (.tup ds)) := de_tupLc hgl hm PyProof.Rows.boot_tuple hc hN hi (blk_of ok) hvs (fun s H C cl fp => cg s H C cl fp ▸ hg s H C cl fp) (fun s H C cl fp => ct s H C cl fp ▸ ht s H C cl fp) (fun s H C cl fp => ce s H C cl fp ▸ he s H C cl fp) hs hst
end
section
variable {elt iter : Expr} {x : Str} {px p gpos : Pos} {scope : Scope} {wi : TI} {g : Shared → Hp → Addr → List (Str × Addr) → Value → List Addr → List (Addr × Obj) → TG} {te : Shared → Hp → Addr → List (Str × Addr) → Value → List Addr → List (Addr × Obj) → TE} {k : Nat} {mi : Sl → M Itm} {tgm : D → Sl → M Sl} {melt : Sl → M D} {vs : List Nat} {cc P : Addr}
theorem de_allB (own : List (Str × Nat)) (k : Nat) (hr : Room (k + 3) X.A) (hgl : Gl X "all") (hm : X.mg "all" = none) (TB : GxR.TabB X.base X.mg cc P) (hcode : X.env.code = .ref cc) (hP : P ∈ Ts) (hcalm : X.calm = true) (hN : X.N.Nodup) (hgB : genB scope = true)
    (ok : blkB X.N X.env.scope scope own = true) (hvs : own.map (·.2) = vs) (hi : DI X Ts E (.Name x px) iter wi mi)
    (hg : ∀ (s : Shared) (H : Hp) (C : Addr) (cl : List (Str × Addr)) (code : Value) (fp : List Addr) (pn : List (Addr × Obj)), DG (GA.gcx X s H (genEnv scope cl C code builtinsNs X.env) fp pn) Ts E0 (.Name x px) (g s H C cl code fp pn) tgm vs)
    (he : ∀ (s : Shared) (H : Hp) (C : Addr) (cl : List (Str × Addr)) (code : Value) (fp : List Addr) (pn : List (Addr × Obj)), Room k (GA.gcx X s H (genEnv scope cl C code builtinsNs X.env) fp pn).A → DE (GA.gcx X s H (genEnv scope cl C code builtinsNs X.env) fp pn) Ts E0 elt (te s H C cl code fp pn) melt)
    (hs : ∀ v, genFold iter X.env v = pure v := by intro _; rfl)
    (cg : ∀ s H C cl code fp pn, g s H C cl code fp pn = g1 g := by intros; rfl) (ce : ∀ s H C cl code fp pn, te s H C cl code fp pn = g1 te := by intros; rfl)
    (hst : starEach [.GeneratorExp elt [⟨.Name x px, iter, [], 0⟩] scope gpos] X.env = (false, eval (.GeneratorExp elt [⟨.Name x px, iter, [], 0⟩] scope gpos) X.env) :: starEach [] X.env := by rfl) :
    DE X Ts E (.Call (.Name "all" p) [.GeneratorExp elt [⟨.Name x px, iter, [], 0⟩] scope gpos] [] pos) (GA.tGen P wi (g1 g) (g1 te) (own.map (·.2)) false) (genD mi tgm melt false vs) :=
  de_all hr hgl hm TB hcode hP hcalm hN (gen_of hgB).1 (gen_of hgB).2.1 (gen_of hgB).2.2 (blk_of ok) hvs hi (fun s H C cl code fp pn => cg s H C cl code fp pn ▸ hg s H C cl code fp pn) (fun s H C cl code fp pn r => ce s H C cl code fp pn ▸ he s H C cl code fp pn r) hs hst
theorem de_anyB (own : List (Str × Nat)) (k : Nat) (hr : Room (k + 3) X.A) (hgl : Gl X "any") (hm : X.mg "any" = none) (TB : GxR.TabB X.base X.mg cc P) (hcode : X.env.code = .ref cc) (hP : P ∈ Ts) (hcalm : X.calm = true) (hN : X.N.Nodup) (hgB : genB scope = true)
    (ok : blkB X.N X.env.scope scope own = true) (hvs : own.map (·.2) = vs) (hi : DI X Ts E (.Name x px) iter wi mi)
    (hg : ∀ (s : Shared) (H : Hp) (C : Addr) (cl : List (Str × Addr)) (code : Value) (fp : List Addr) (pn : List (Addr × Obj)), DG (GA.gcx X s H (genEnv scope cl C code builtinsNs X.env) fp pn) Ts E0 (.Name x px) (g s H C cl code fp pn) tgm vs)
    (he : ∀ (s : Shared) (H : Hp) (C : Addr) (cl : List (Str × Addr)) (code : Value) (fp : List Addr) (pn : List (Addr × Obj)), Room k (GA.gcx X s H (genEnv scope cl C code builtinsNs X.env) fp pn).A → DE (GA.gcx X s H (genEnv scope cl C code builtinsNs X.env) fp pn) Ts E0 elt (te s H C cl code fp pn) melt)
    (hs : ∀ v, genFold iter X.env v = pure v := by intro _; rfl)
    (cg : ∀ s H C cl code fp pn, g s H C cl code fp pn = g1 g := by intros; rfl) (ce : ∀ s H C cl code fp pn, te s H C cl code fp pn = g1 te := by intros; rfl)
    (hst : starEach [.GeneratorExp elt [⟨.Name x px, iter, [], 0⟩] scope gpos] X.env = (false, eval (.GeneratorExp elt [⟨.Name x px, iter, [], 0⟩] scope gpos) X.env) :: starEach [] X.env := by rfl) :
    DE X Ts E (.Call (.Name "any" p) [.GeneratorExp elt [⟨.Name x px, iter, [], 0⟩] scope gpos] [] pos) (GA.tGen P wi (g1 g) (g1 te) (own.map (·.2)) true) (genD mi tgm melt true vs) :=
  de_any hr hgl hm TB hcode hP hcalm hN (gen_of hgB).1 (gen_of hgB).2.1 (gen_of hgB).2.2 (blk_of ok) hvs hi (fun s H C cl code fp pn => cg s H C cl code fp pn ▸ hg s H C cl code fp pn) (fun s H C cl code fp pn r => ce s H C cl code fp pn ▸ he s H C cl code fp pn r) hs hst
end
end
end DL
namespace DL
open PySem PySem.Spec PyProof.Rows L2
open Classical
noncomputable section
variable {X : Cx} {Ts : List Addr} {E : XK} {a b c e : Expr} {ta tb tc te : TE} {ma mb mc me : Sl → M D} {pos : Pos} {C : Ct} {es : List Expr} {t u : TT} {mt mu : Sl → M Bool} {tr : TA} {mr : Sl → M (List D)}
def badS : MS := fun _ _ => .bad
theorem ds_never {st : Stmt} : DS X Ts E st tNever badS := ⟨ps_never, fun _ _ _ _ _ _ _ _ h => h.elim⟩
theorem putK_new {κ : Type} [DecidableEq κ] {kvs : List (κ × V)} {k : κ} {v : V} (h : k ∉ kvs.map (·.1)) : putK kvs k v = kvs ++ [(k, v)] := by
  unfold putK
  rw [if_neg]
  intro z
  obtain ⟨p, hp, e⟩ := List.any_eq_true.mp z
  exact h (List.mem_map.mpr ⟨p, hp, of_decide_eq_true e⟩)
theorem merge_new : ∀ {more kvs : List (Key × V)}, ((kvs ++ more).map (·.1)).Nodup → mergeK kvs more = kvs ++ more
  | [], kvs, _ => by
    rw [List.append_nil]; rfl
  | p :: r, kvs, h => by
    have h1 : p.1 ∉ kvs.map (·.1) := fun z => by
      rw [List.map_append, List.nodup_append] at h
      exact h.2.2 p.1 z p.1 List.mem_cons_self rfl
    show mergeK (putK kvs p.1 p.2) r = _
    rw [putK_new h1, merge_new (by rw [List.append_assoc]; exact h), List.append_assoc]
    rfl
structure DP (X : Cx) (Ts : List Addr) (E : XK) (pos : Pos) (keys : List (Option Expr)) (values : List Expr) (trs : List (TE × TE)) (ks : List Str) (m : Sl → M (List D)) : Prop where
  pe : PPs X pos keys values trs
  rf : ∀ ρ σ H s G Q, Rel ⟨X.K, Ts, fw X.w⟩ ρ G H → Sls X.K ρ H σ s → Run ⟨X.K, Ts, fw X.w⟩ ρ H (okL ⟨X.K, Ts, fw X.w⟩) (m s G) (fun vs H' => Q ((ks.map V.str).zip vs) H') E → tPairs trs σ H Q
theorem dp_nil : DP X Ts E pos [] [] [] [] (fun _ => pur []) := ⟨pps_nil, fun ρ σ H s G Q R S h => by
  have := Run.ret (Ok := okL ⟨X.K, Ts, fw X.w⟩) R h .nil
  exact this⟩
theorem dp_cons {k : Str} {j : Nat} {kp : Pos} {v : Expr} {ks : List (Option Expr)} {vs : List Expr} {trs : List (TE × TE)} {kk : List Str} {m : Sl → M (List D)} {tv : TE} {mv : Sl → M D} (hv : DE X Ts E v tv mv) (hr : DP X Ts E pos ks vs trs kk m) :
    DP X Ts E pos (some (.Constant (.str k) j kp) :: ks) (v :: vs) ((tC (.str k), tv) :: trs) (k :: kk) (fun s => bnd (mv s) fun x => bnd (m s) fun r => pur (x :: r)) := by
  refine ⟨pps_cons pe_str hv.pe hr.pe, fun ρ σ H s G Q R S h => ?_⟩
  refine hv.rf ρ σ H s G _ R S (Run.first h fun x G1 y ρ1 H1 st i h1 => ?_)
  refine hr.rf ρ1 σ H1 s G1 _ st.rel (S.step R st) (Run.first h1 fun r G2 ys ρ2 H2 st2 j2 h2 => ?_)
  have i2 : Is X.K ρ2 H2 x y := Is.step st.rel st2 i
  exact Run.ret (Ok := okL ⟨X.K, Ts, fw X.w⟩) st2.rel h2 (.cons i2 j2)
def dispD (ks : List Str) (ds : List D) : M D := fun g => .ok (.ref g.length) (g ++ [.dic ((ks.map Sum.inr).zip ds)])
theorem zip_kv : ∀ {ks : List Str} {vs : List V}, ks.length = vs.length → (ks.map V.str).zip vs = ((ks.map (Sum.inr : Str → Key)).zip vs).map fun kv => (kV kv.1, kv.2)
  | [], vs, h => by simp
  | k :: ks, [], h => by simp at h
  | k :: ks, v :: vs, h => by
    simp only [List.map_cons, List.zip_cons_cons]
    rw [zip_kv (by simpa using h)]
    rfl
theorem isK_zip {K : PySem.W.Frag} {ρ : List Addr} {H : Hp} : ∀ {ks : List Key} {ds : List D} {vs : List V}, IsL K ρ H ds vs → ks.length = ds.length → IsK K ρ H (ks.zip ds) (ks.zip vs)
  | [], ds, vs, h, e => by rw [List.zip_nil_left, List.zip_nil_left]; exact .nil
  | k :: ks, [], vs, h, e => by simp at e
  | k :: ks, d :: ds, vs, h, e => by
    simp only [IsL] at h
    obtain ⟨v, r, rfl, h1, h2⟩ := h
    exact .cons ⟨rfl, h1⟩ (isK_zip h2 (by simpa using e))
/-- a hidden object that nobody writes comes to light as a cell -/
theorem Step.show {ρ ρ1 : List Addr} {G1 : GS} {H H1 : Hp} (st : Step C ρ H ρ1 G1 H1) {p : Addr} {o0 o : HO} {c : Cell} (h0 : H p = none) (hn : p ∉ ρ1) (hp : H1 p = some o0) (ho0 : isCell o0 = true) (hc : CellIs C.K ρ1 H1 C.fo p c o) : Step C ρ H (ρ1 ++ [p]) (G1 ++ [c]) (upd H1 p o) := by
  have pre : ρ1 <+: ρ1 ++ [p] := List.prefix_append _ _
  have nt : ∀ ps, o0 ≠ .tbl ps := fun ps e => by rw [e] at ho0; cases ho0
  have x : TExt H1 (upd H1 p o) := ⟨fun a u h hu _ => by
    rw [upd_ne]
    · exact h
    · intro e
      rw [e, hp] at h
      cases h
      rw [ho0] at hu
      cases hu⟩
  refine ⟨st.pre.trans pre, ⟨fun a u e n ntl => ?_, fun a ps e => ?_⟩, ⟨?_, ?_, fun j d a h1 h2 => ?_, fun P hP => ?_⟩, fun a h n => ?_⟩
  · rw [upd_ne (ne_of_none e h0)]
    exact st.ext.keep a u e n ntl
  · rw [upd_ne (ne_of_none e h0)]
    exact st.ext.tbl a ps e
  · rw [List.length_append, List.length_append, st.rel.len]; rfl
  · rw [List.nodup_append]
    refine ⟨st.rel.nd, by simp, fun a ha b hb e => ?_⟩
    rw [List.mem_singleton.mp hb] at e
    subst e
    exact hn ha
  · by_cases hj : j < G1.length
    · rw [List.getElem?_append_left hj] at h1
      rw [List.getElem?_append_left (by rw [st.rel.len]; exact hj)] at h2
      obtain ⟨u, e, q⟩ := st.rel.cell j d a h1 h2
      refine ⟨u, ?_, q.mono pre x⟩
      rw [upd_ne]
      · exact e
      · intro z
        subst z
        exact hn (List.mem_of_getElem? h2)
    · have e : j = G1.length := by
        have := (List.getElem?_eq_some_iff.mp h1).1
        rw [List.length_append, List.length_singleton] at this
        omega
      subst e
      rw [List.getElem?_append_right (Nat.le_refl _), Nat.sub_self] at h1
      rw [← st.rel.len, List.getElem?_append_right (Nat.le_refl _), Nat.sub_self] at h2
      cases h1
      cases h2
      exact ⟨o, upd_same, hc.mono pre x⟩
  · obtain ⟨ps, e, t⟩ := st.rel.tab P hP
    refine ⟨ps, ?_, t⟩
    rw [upd_ne]
    · exact e
    · intro z
      rw [z, hp] at e
      cases e
      exact nt _ rfl
  · rcases List.mem_append.mp h with h | h
    · exact st.fresh a h n
    · rw [List.mem_singleton.mp h]; exact h0
theorem de_disp {keys : List (Option Expr)} {values : List Expr} {trs : List (TE × TE)} {ks : List Str} {m : Sl → M (List D)} (h : DP X Ts E pos keys values trs ks m) (hk : ks.length ≤ 15) (nd : ks.Nodup) (hall : keys.all (·.isSome) = true := by rfl) (hl : keys.length = values.length := by rfl) (h0 : keys ≠ [] := by exact fun z => nomatch z)
    (h15 : keys.length ≤ 15 := by decide) : DE X Ts E (.Dict keys values pos) (tDisp trs) (fun s => bnd (m s) fun ds => if ds.length = ks.length then dispD ks ds else fail) := by
  refine ⟨pe_disp h.pe hall hl h0 h15, fun ρ σ H s G Q R S h1 => ?_⟩
  intro p hp
  have st0 : Step ⟨X.K, Ts, fw X.w⟩ ρ H ρ G (upd H p (.dK [])) := Step.lay R hp
  refine h.rf ρ σ _ s G _ st0.rel (S.step R st0) ?_
  unfold bnd at h1
  cases em : m s G with
  | bad => rw [em] at h1; exact h1
  | ex c d g => rw [em] at h1; exact ExOk.step st0 h1
  | ok ds G1 =>
    rw [em] at h1
    dsimp only at h1
    intro vs ρ1 H1 st i
    have i : IsL X.K ρ1 H1 ds vs := i
    have hpn : p ∉ ρ := fun z => by
      obtain ⟨o, e, _⟩ := R.there z
      rw [hp] at e; cases e
    have hp1 : H1 p = some (.dK []) := st.ext.keep p _ upd_same hpn fun ps z => nomatch z
    have hpn1 : p ∉ ρ1 := fun z => by
      have := st.fresh p z hpn
      rw [upd_same] at this; cases this
    by_cases hd : ds.length = ks.length
    · rw [if_pos hd] at h1
      have hv : ks.length = vs.length := by rw [← hd]; exact i.len
      refine ⟨hp1, (ks.map (Sum.inr : Str → Key)).zip vs, zip_kv hv, ?_, ?_⟩
      · rw [List.length_zip, List.length_map]
        omega
      · have em : mergeK [] ((ks.map (Sum.inr : Str → Key)).zip vs) = (ks.map (Sum.inr : Str → Key)).zip vs := by
          rw [merge_new, List.nil_append]
          rw [List.nil_append, List.map_fst_zip (by rw [List.length_map, hv]; exact Nat.le_refl _)]
          exact List.Pairwise.map _ (fun a b z e => z (Sum.inr.inj e)) nd
        rw [em]
        have st1 := (st0.trans st).show (c := .dic ((ks.map Sum.inr).zip ds)) (o := .dK ((ks.map Sum.inr).zip vs)) hp hpn1 hp1 rfl ⟨_, rfl, isK_zip i (by rw [List.length_map, hd])⟩
        exact h1 (.ref p) _ _ st1 (Rel.new_at st.rel)
    · rw [if_neg hd] at h1
      exact h1.elim
def dget (ds : List (Key × D)) (k : Key) : Option D := (ds.find? fun p => decide (p.1 = k)).map (·.2)
theorem IsK.get {K : PySem.W.Frag} {ρ : List Addr} {H : Hp} {k : Key} {d : D} : ∀ {ds : List (Key × D)} {vs : List (Key × V)}, IsK K ρ H ds vs → dget ds k = some d → ∃ v, valV vs k = some v ∧ Is K ρ H d v
  | _, _, .nil, e => by simp [dget] at e
  | p :: ds, q :: vs, .cons h t, e => by
    by_cases hk : p.1 = k
    · have e : p.2 = d := by simpa [dget, hk] using e
      exact ⟨q.2, valV_pos (by rw [← h.1]; exact hk), e ▸ h.2⟩
    · have e : dget ds k = some d := by simpa [dget, hk] using e
      obtain ⟨v, e1, e2⟩ := IsK.get t e
      exact ⟨v, by rw [valV_neg (by rw [← h.1]; exact hk)]; exact e1, e2⟩
def keyD (d : D) : Option Key := match d with
  | .int i => some (.inl i)
  | .str x => some (.inr x)
  | _ => none
def dgetD (x y : D) : M D := fun g => match x, keyD y with
  | .ref n, some k => match g[n]? with
    | some (.dic ds) => match dget ds k with
      | some d => .ok d g
      | none => .bad
    | _ => .bad
  | _, _ => .bad
theorem keyD_is {K : PySem.W.Frag} {ρ : List Addr} {H : Hp} {y : D} {v : V} {k : Key} (h : keyD y = some k) (i : Is K ρ H y v) : v = kV k := by
  unfold keyD at h
  cases y with
  | int j => cases h; rw [is_int i]; rfl
  | str j => cases h; rw [is_str i]; rfl
  | _ => cases h
theorem de_dget (hu : X.A.units + 1 < cLine) (ha : DE X Ts E a ta ma) (hb : DE X Ts E b tb mb) (hs : NoSl b := by exact fun _ _ => rfl) : DE X Ts E (.Subscript a b pos) (tDGet ta tb) (fun s => bnd (ma s) fun x => bnd (mb s) fun y => dgetD x y) := by
  refine ⟨pe_dget hu ha.pe hb.pe hs, fun ρ σ H s G Q R S h => ?_⟩
  refine ha.rf ρ σ H s G _ R S (Run.first h fun x G1 u ρ1 H1 st i h1 => ?_)
  refine hb.rf ρ1 σ H1 s G1 _ st.rel (S.step R st) (Run.first h1 fun y G2 v ρ2 H2 st2 j h2 => ?_)
  have i2 : Is X.K ρ2 H2 x u := Is.step st.rel st2 i
  unfold dgetD at h2
  cases x with
  | ref n =>
    cases ek : keyD y with
    | none => rw [ek] at h2; exact h2.elim
    | some k =>
      rw [ek] at h2
      dsimp only at h2
      cases eg : G2[n]? with
      | none => rw [eg] at h2; exact h2.elim
      | some cl =>
        rw [eg] at h2
        cases cl with
        | lst _ => exact h2.elim
        | set _ => exact h2.elim
        | map _ => exact h2.elim
        | obj _ _ _ => exact h2.elim
        | dic ds =>
          dsimp only at h2
          cases ed : dget ds k with
          | none => rw [ed] at h2; exact h2.elim
          | some d =>
            rw [ed] at h2
            obtain ⟨p, kvs, rfl, hn, hp, hl⟩ := st2.rel.dic eg i2
            obtain ⟨w, e1, e2⟩ := IsK.get hl ed
            refine ⟨p, w, rfl, ?_, Run.ret (Ok := okD ⟨X.K, Ts, fw X.w⟩) st2.rel h2 e2⟩
            rw [keyD_is ek j, ← e1]
            exact .k hp
  | _ => cases ek : keyD y <;> rw [ek] at h2 <;> exact h2.elim
end
end DL
namespace DL
open PySem PySem.Spec PyProof.Rows L2
open Classical
noncomputable section
variable {X : Cx} {Ts : List Addr} {E : XK} {a b c e : Expr} {ta tb tc te : TE} {ma mb mc me : Sl → M D} {pos : Pos} {C : Ct} {es : List Expr} {t u : TT} {mt mu : Sl → M Bool} {tr : TA} {mr : Sl → M (List D)}
section
variable {K : PySem.W.Frag} {ρ : List Addr} {H : Hp} {x dx C0 : Addr} {f0 fs : List (Str × V)}
theorem sqt_grow (hx : H x = some (.ins C0 dx f0)) {a : Addr} {vs : List V} (h1 : SqT K H a vs) : SqT K (upd H x (.ins C0 dx (f0 ++ fs))) a vs := by
  have nx : ∀ o, H a = some o → (∀ C d f, o ≠ .ins C d f) → upd H x (.ins C0 dx (f0 ++ fs)) a = some o := fun o ho hn => by
    rw [upd_ne]
    · exact ho
    · intro z
      rw [z, hx] at ho
      cases ho
      exact hn _ _ _ rfl
  rcases h1 with (h | ⟨o, h⟩) | h
  · exact .inl (.inl (nx _ h fun _ _ _ z => nomatch z))
  · exact .inl (.inr ⟨o, nx _ h fun _ _ _ z => nomatch z⟩)
  · exact .inr h
mutual
theorem kv_grow (hx : H x = some (.ins C0 dx f0)) : ∀ (k : DN.NK) (v : V), DN.KV K H k v → DN.KV K (upd H x (.ins C0 dx (f0 ++ fs))) k v
  | .none, v, h => by simpa only [DN.KV] using h
  | .num i, v, h => by simpa only [DN.KV] using h
  | .text x, v, h => by simpa only [DN.KV] using h
  | .tup ks, v, h => by
    simp only [DN.KV] at h ⊢
    obtain ⟨a, vs, e, h1, h2⟩ := h
    exact ⟨a, vs, e, sqt_grow hx h1, kvs_grow hx ks vs h2⟩
theorem kvs_grow (hx : H x = some (.ins C0 dx f0)) : ∀ (ks : List DN.NK) (vs : List V), DN.KVs K H ks vs → DN.KVs K (upd H x (.ins C0 dx (f0 ++ fs))) ks vs
  | [], vs, h => by simpa only [DN.KVs] using h
  | k :: ks, vs, h => by
    simp only [DN.KVs] at h ⊢
    obtain ⟨v, r, e, h1, h2⟩ := h
    exact ⟨v, r, e, kv_grow hx k v h1, kvs_grow hx ks r h2⟩
end
mutual
theorem Is.grow (hx : H x = some (.ins C0 dx f0)) (hF : f0 = [] ∨ ∀ p ∈ fs, p.1 ∈ FLD) : ∀ (d : D) (v : V), Is K ρ H d v → Is K ρ (upd H x (.ins C0 dx (f0 ++ fs))) d v
  | .non, v, h => by simpa only [Is] using h
  | .bl b, v, h => by simpa only [Is] using h
  | .int i, v, h => by simpa only [Is] using h
  | .str i, v, h => by simpa only [Is] using h
  | .tup ds, v, h => by
    simp only [Is] at h ⊢
    obtain ⟨a, vs, e, h1, h2⟩ := h
    refine ⟨a, vs, e, ?_, IsL.grow hx hF ds vs h2⟩
    have nx : ∀ o, H a = some o → (∀ C d f, o ≠ .ins C d f) → upd H x (.ins C0 dx (f0 ++ fs)) a = some o := fun o ho hn => by
      rw [upd_ne]
      · exact ho
      · intro z
        rw [z, hx] at ho
        cases ho
        exact hn _ _ _ rfl
    rcases h1 with (h | ⟨o, h⟩) | h
    · exact .inl (.inl (nx _ h fun _ _ _ z => nomatch z))
    · exact .inl (.inr ⟨o, nx _ h fun _ _ _ z => nomatch z⟩)
    · exact .inr h
  | .ref n, v, h => by simpa only [Is] using h
  | .ins c ns ds, v, h => by
    simp only [Is] at h ⊢
    obtain ⟨a, dx', vs, gs, e, h1, h2, h3⟩ := h
    by_cases z : a = x
    · rw [z, hx] at h1
      injection h1 with h1
      injection h1 with e1 e2 e3
      refine ⟨a, dx', vs, gs ++ fs, e, ?_, ⟨h2.1, h2.2.1, fun p hp => ?_⟩, IsL.grow hx hF ds vs h3⟩
      · rw [z, upd_same, e1, e2, e3, List.append_assoc]
      · rcases List.mem_append.mp hp with hp | hp
        · exact h2.2.2 p hp
        · rcases hF with hF | hF
          · exfalso
            rw [hF] at e3
            have e4 := (List.append_eq_nil_iff.mp e3.symm).1
            cases ns with
            | nil => exact h2.2.1.1 rfl
            | cons n ns =>
              cases vs with
              | nil => cases h2.1
              | cons v vs => cases e4
          · exact hF p hp
    · refine ⟨a, dx', vs, gs, e, ?_, h2, IsL.grow hx hF ds vs h3⟩
      rw [upd_ne z]
      exact h1
  | .scr ns, v, h => by
    simp only [Is] at h ⊢
    obtain ⟨a, e, h1⟩ := h
    refine ⟨a, e, ?_⟩
    rcases h1 with ⟨o, h1⟩ | h1
    · refine .inl ⟨o, ?_⟩
      rw [upd_ne]
      · exact h1
      · intro z
        rw [z, hx] at h1
        cases h1
    · exact .inr h1
  | .ty n, v, h => by simpa only [Is] using h
  | .cls c, v, h => by simpa only [Is] using h
  | .exc a q d, v, h => by
    simp only [Is] at h ⊢
    obtain ⟨e, u, h1, h2⟩ := h
    refine ⟨e, u, ?_, Is.grow hx hF d u h2⟩
    rw [upd_ne]
    · exact h1
    · intro z
      rw [z, hx] at h1
      cases h1
  | .dct hf ks ds, v, h => by
    simp only [Is] at h ⊢
    obtain ⟨a, ob, L, vs, e, h1, ⟨h2, h3, h4⟩, h5⟩ := h
    refine ⟨a, ob, L, vs, e, ?_, ⟨h2, fun y m => ⟨kv_grow hx _ _ (h3 y m).is, (h3 y m).low⟩, h4⟩, IsL.grow hx hF ds vs h5⟩
    rw [upd_ne]
    · exact h1
    · intro z
      rw [z, hx] at h1
      cases h1
theorem IsL.grow (hx : H x = some (.ins C0 dx f0)) (hF : f0 = [] ∨ ∀ p ∈ fs, p.1 ∈ FLD) : ∀ (ds : List D) (vs : List V), IsL K ρ H ds vs → IsL K ρ (upd H x (.ins C0 dx (f0 ++ fs))) ds vs
  | [], vs, h => by simpa only [IsL] using h
  | d :: ds, vs, h => by
    simp only [IsL] at h ⊢
    obtain ⟨v, r, e, h1, h2⟩ := h
    exact ⟨v, r, e, Is.grow hx hF d v h1, IsL.grow hx hF ds r h2⟩
end
theorem IsK.grow (hx : H x = some (.ins C0 dx f0)) (hF : f0 = [] ∨ ∀ p ∈ fs, p.1 ∈ FLD) : ∀ {ds : List (Key × D)} {vs : List (Key × V)}, IsK K ρ H ds vs → IsK K ρ (upd H x (.ins C0 dx (f0 ++ fs))) ds vs
  | _, _, .nil => .nil
  | _, _, .cons h t => .cons ⟨h.1, Is.grow hx hF _ _ h.2⟩ (IsK.grow hx hF t)
theorem IsN.grow (hx : H x = some (.ins C0 dx f0)) (hF : f0 = [] ∨ ∀ p ∈ fs, p.1 ∈ FLD) : ∀ {ds : List (DN.NK × D)} {L : List DN.DEnt}, IsN K ρ H ds L → IsN K ρ (upd H x (.ins C0 dx (f0 ++ fs))) ds L
  | _, _, .nil => .nil
  | _, _, .cons h t => .cons ⟨h.1, ⟨kv_grow hx _ _ h.2.1.is, h.2.1.low⟩, Is.grow hx hF _ _ h.2.2⟩ (IsN.grow hx hF t)
theorem CellIs.grow (hx : H x = some (.ins C0 dx f0)) (hF : f0 = [] ∨ ∀ p ∈ fs, p.1 ∈ FLD) {fo : Fo} {a : Addr} {c : Cell} {o : HO} (h : CellIs K ρ H fo a c o) : CellIs K ρ (upd H x (.ins C0 dx (f0 ++ fs))) fo a c o := by
  cases c with
  | set ks =>
    obtain ⟨L, e, h1, h2⟩ := h
    exact ⟨L, e, fun y m => ⟨kv_grow hx _ _ (h1 y m).is, (h1 y m).low, (h1 y m).dry⟩, h2⟩
  | map ks => obtain ⟨L, e, h⟩ := h; exact ⟨L, e, IsN.grow hx hF h⟩
  | lst ds => obtain ⟨vs, e, h⟩ := h; exact ⟨vs, e, IsL.grow hx hF _ _ h⟩
  | dic ds => obtain ⟨vs, e, h⟩ := h; exact ⟨vs, e, IsK.grow hx hF h⟩
  | obj C ns ds => obtain ⟨dx', vs, gs, e, h2, h⟩ := h; exact ⟨dx', vs, gs, e, h2, IsL.grow hx hF _ _ h⟩
end
theorem Step.grow {ρ ρ1 : List Addr} {G1 : GS} {H H1 : Hp} {x dx C0 : Addr} {f0 fs : List (Str × V)} (st : Step C ρ H ρ1 G1 H1) (h0 : H x = none) (hx : H1 x = some (.ins C0 dx f0)) (hF : f0 = [] ∨ ∀ p ∈ fs, p.1 ∈ FLD) (hm : movesF f0 = false) : Step C ρ H ρ1 G1 (upd H1 x (.ins C0 dx (f0 ++ fs))) := by
  refine ⟨st.pre, ⟨fun a o e n nt => ?_, fun a ps e => ?_⟩, ⟨st.rel.len, st.rel.nd, fun i c a h1 h2 => ?_, fun P hP => ?_⟩, st.fresh⟩
  · rw [upd_ne (ne_of_none e h0)]
    exact st.ext.keep a o e n nt
  · rw [upd_ne (ne_of_none e h0)]
    exact st.ext.tbl a ps e
  · obtain ⟨o, e, q⟩ := st.rel.cell i c a h1 h2
    refine ⟨o, ?_, q.grow hx hF⟩
    rw [upd_ne]
    · exact e
    · intro z
      have hc := q.cell
      rw [z, hx] at e
      cases e
      have hc : movesF f0 = true := hc
      rw [hm] at hc
      cases hc
  · obtain ⟨ps, e, t⟩ := st.rel.tab P hP
    refine ⟨ps, ?_, t⟩
    rw [upd_ne]
    · exact e
    · intro z
      rw [z, hx] at e
      cases e
section
variable {K : PySem.W.Frag} {ρ : List Addr} {H : Hp} {x dx C0 : Addr} {fs : List (Str × V)}
theorem IsL.born (hx : H x = some (.ins C0 dx [])) (ds : List D) (vs : List V) (h : IsL K ρ H ds vs) : IsL K ρ (upd H x (.ins C0 dx fs)) ds vs := IsL.grow (f0 := []) (fs := fs) hx (.inl rfl) ds vs h
end
theorem Step.born {ρ ρ1 : List Addr} {G1 : GS} {H H1 : Hp} {x dx C0 : Addr} {fs : List (Str × V)} (st : Step C ρ H ρ1 G1 H1) (h0 : H x = none) (hx : H1 x = some (.ins C0 dx [])) : Step C ρ H ρ1 G1 (upd H1 x (.ins C0 dx fs)) := Step.grow (f0 := []) (fs := fs) st h0 hx (.inl rfl) rfl
structure DB (X : Cx) (Ts : List Addr) (E : XK) (body : List Stmt) (t : TS) (m : MS) (tt : TS) : Prop where
  pe : PSs X body t
  rf : ∀ ρ σ H s G Dn, Rel ⟨X.K, Ts, fw X.w⟩ ρ G H → Sls X.K ρ H σ s → RunS ⟨X.K, Ts, fw X.w⟩ ρ H (m s G) { Dn with nx := tt Dn } E → t Dn σ H
theorem db_tail {body : List Stmt} {tt : TS} (h : PSs X body tt) : DB X Ts E body tt skipS tt := ⟨h, fun ρ σ H s G Dn R S h => RunS.nx R S h⟩
theorem db_cons {st : Stmt} {sts : List Stmt} {tS uS tt : TS} {m1 m2 : MS} (h1 : DS X Ts E st tS m1) (h2 : DB X Ts E sts uS m2 tt) : DB X Ts E (st :: sts) (tSeq tS uS) (seqS m1 m2) tt := by
  refine ⟨pss_cons h1.pe h2.pe, fun ρ σ H s G Dn R S h => ?_⟩
  refine h1.rf ρ σ H s G _ R S ?_
  unfold seqS at h
  cases e : m1 s G with
  | nx s' g' =>
    rw [e] at h
    intro σ' ρ' H' st' S'
    exact h2.rf ρ' σ' H' s' g' Dn st'.rel S' (RunS.step st' h)
  | bad => rw [e] at h; exact h
  | rt d g' => rw [e] at h; exact h
  | bk d g' => rw [e] at h; exact h
  | ct d g' => rw [e] at h; exact h
  | ex c d g' => rw [e] at h; exact h
def tStores (K : PySem.W.Frag) : List (Nat × Str) → TS
  | [] => tNext
  | p :: r => tSeq (sFld K (tVar 0) (tVar p.1) p.2) (tStores K r)
theorem putF_new {f : Str} {v : V} : ∀ {fs : List (Str × V)}, f ∉ fs.map (·.1) → putF f v fs = fs ++ [(f, v)]
  | [], _ => rfl
  | (g, x) :: r, h => by
    rw [List.map_cons, List.mem_cons, not_or] at h
    unfold putF
    rw [if_neg (fun z => h.1 z.symm), putF_new h.2]
    rfl
theorem run_stores {K : PySem.W.Frag} {C0 x dx : Addr} {σ : L2.St} {Dn : Ends} (c : Cls K C0) (h0 : σ[0]? = some (some (.ref x))) : ∀ (l : List (Nat × Str)) (vs : List V) (fs : List (Str × V)) (H : Hp), H x = some (.ins C0 dx fs) → (∀ p ∈ l, NoAttr K C0 p.2) →
    l.length = vs.length → (∀ (i : Nat) (p : Nat × Str) (v : V), l[i]? = some p → vs[i]? = some v → σ[p.1]? = some (some v)) → (fs.map (·.1) ++ l.map (·.2)).Nodup → fs.length + l.length < 1000 → Dn.nx σ (upd H x (.ins C0 dx (fs ++ (l.map (·.2)).zip vs))) → tStores K l Dn σ H
  | [], vs, fs, H, hx, _, hl, _, _, _, h => by
    rw [List.map_nil, List.zip_nil_left, List.append_nil] at h
    have e : upd H x (.ins C0 dx fs) = H := by
      funext b
      unfold upd
      split
      · rename_i z; rw [z, hx]
      · rfl
    rw [e] at h
    exact h
  | p :: l, [], fs, H, hx, _, hl, _, _, _, h => by cases hl
  | p :: l, v :: vs, fs, H, hx, hn, hl, hσ, nd, hz, h => by
    refine ⟨v, hσ 0 p v rfl rfl, V.ref x, h0, x, C0, dx, fs, rfl, hx, c, hn p List.mem_cons_self, by omega, ?_⟩
    have hp : p.2 ∉ fs.map (·.1) := fun z => by
      rw [List.map_cons, List.nodup_append] at nd
      exact nd.2.2 p.2 z p.2 List.mem_cons_self rfl
    rw [putF_new hp]
    refine run_stores c h0 l vs (fs ++ [(p.2, v)]) _ upd_same (fun q hq => hn q (List.mem_cons_of_mem _ hq)) (Nat.succ.inj hl) (fun i q w h1 h2 => hσ (i + 1) q w h1 h2) (by simpa using nd) (by simp; simp at hz; omega) ?_
    have e : upd (upd H x (.ins C0 dx (fs ++ [(p.2, v)]))) x (.ins C0 dx (fs ++ [(p.2, v)] ++ (l.map (·.2)).zip vs)) = upd H x (.ins C0 dx (fs ++ ((p :: l).map (·.2)).zip (v :: vs))) := by
      funext b
      unfold upd
      split
      · rw [List.map_cons, List.zip_cons_cons, List.append_assoc]; rfl
      · rfl
    rw [e]
    exact h
/-- it leaves the names as they are -/
def Keeps (m : MS) : Prop := ∀ s g s' g', m s g = .nx s' g' → s' = s
/-- what becomes of it, whatever the first name is -/
def outc : RS → R Unit
  | .nx _ g => .ok () g
  | .ex c d g => .ex c d g
  | _ => .bad
def Indp (m : MS) : Prop := ∀ d d' r g, outc (m (d :: r) g) = outc (m (d' :: r) g)
theorem keeps_skip : Keeps skipS := fun _ _ _ _ h => by cases h; rfl
theorem keeps_bad : Keeps badS := fun _ _ _ _ h => by cases h
theorem keeps_seq {m1 m2 : MS} (h1 : Keeps m1) (h2 : Keeps m2) : Keeps (seqS m1 m2) := fun s g s' g' h => by
  unfold seqS at h
  cases e : m1 s g with
  | nx s1 g1 =>
    rw [e] at h
    have e1 := h1 _ _ _ _ e
    subst e1
    exact h2 _ _ _ _ h
  | bad => rw [e] at h; cases h
  | rt _ _ => rw [e] at h; cases h
  | bk _ _ => rw [e] at h; cases h
  | ct _ _ => rw [e] at h; cases h
  | ex _ _ _ => rw [e] at h; cases h
theorem keeps_if {mc : Sl → M Bool} {m1 m2 : MS} (h1 : Keeps m1) (h2 : Keeps m2) : Keeps (ifS mc m1 m2) := fun s g s' g' h => by
  unfold ifS bndS at h
  cases e : mc s g with
  | bad => rw [e] at h; cases h
  | ex _ _ _ => rw [e] at h; cases h
  | ok k g1 =>
    rw [e] at h
    cases k with
    | true => exact h1 _ _ _ _ h
    | false => exact h2 _ _ _ _ h
theorem indp_skip : Indp skipS := fun _ _ _ _ => rfl
theorem indp_bad : Indp badS := fun _ _ _ _ => rfl
theorem indp_seq {m1 m2 : MS} (k : Keeps m1) (h1 : Indp m1) (h2 : Indp m2) : Indp (seqS m1 m2) := fun d d' r g => by
  have q := h1 d d' r g
  unfold seqS
  cases e : m1 (d :: r) g with
  | nx s1 g1 =>
    rw [e] at q
    have e1 := k _ _ _ _ e
    cases e' : m1 (d' :: r) g with
    | nx s2 g2 =>
      rw [e'] at q
      have e2 := k _ _ _ _ e'
      subst e1 e2
      have q : R.ok () g1 = R.ok () g2 := q
      cases q
      exact h2 d d' r g1
    | bad => rw [e'] at q; cases q
    | rt _ _ => rw [e'] at q; cases q
    | bk _ _ => rw [e'] at q; cases q
    | ct _ _ => rw [e'] at q; cases q
    | ex _ _ _ => rw [e'] at q; cases q
  | bad =>
    rw [e] at q
    cases e' : m1 (d' :: r) g <;> rw [e'] at q <;> first | rfl | cases q
  | rt _ _ =>
    rw [e] at q
    cases e' : m1 (d' :: r) g <;> rw [e'] at q <;> first | rfl | cases q
  | bk _ _ =>
    rw [e] at q
    cases e' : m1 (d' :: r) g <;> rw [e'] at q <;> first | rfl | cases q
  | ct _ _ =>
    rw [e] at q
    cases e' : m1 (d' :: r) g <;> rw [e'] at q <;> first | rfl | cases q
  | ex _ _ _ =>
    rw [e] at q
    cases e' : m1 (d' :: r) g <;> rw [e'] at q <;> first | exact q | cases q
theorem indp_if {mc : Sl → M Bool} {m1 m2 : MS} (hc : ∀ d d' r, mc (d :: r) = mc (d' :: r)) (h1 : Indp m1) (h2 : Indp m2) : Indp (ifS mc m1 m2) := fun d d' r g => by
  unfold ifS bndS
  rw [hc d d' r]
  cases mc (d' :: r) g with
  | bad => rfl
  | ex _ _ _ => rfl
  | ok k g1 =>
    cases k with
    | true => exact h1 d d' r g1
    | false => exact h2 d d' r g1
/-- the checks of a constructor, then the fields -/
def iniM (m : MS) (ds : List D) : M Unit := fun g => outc (m (some .non :: ds.map some) g)
def spI (C : Ct) (C0 : Addr) (ns : List Str) (m : MS) : Sp := fun vs H Q E => ∃ p dx ρ G ds vs', vs = .ref p :: vs' ∧ H p = some (.ins C0 dx []) ∧ Rel C ρ G H ∧ IsL C.K ρ H ds vs' ∧ ds.length = ns.length ∧ Run C ρ H (fun ρ' H' (_ : Unit) ws => IsL C.K ρ' H' ds ws) (iniM m ds G) (fun ws H' => H' p = some (.ins C0 dx []) → Q .non (upd H' p (.ins C0 dx (ns.zip ws)))) E
theorem sls_vals {K : PySem.W.Frag} {ρ : List Addr} {H : Hp} {σ : L2.St} {s : Sl} (S : Sls K ρ H σ s) : ∀ (ds : List D) (o : Nat), (∀ i d, ds[i]? = some d → s[o + i]? = some (some d)) → ∃ vs, IsL K ρ H ds vs ∧ ∀ i v, vs[i]? = some v → σ[o + i]? = some (some v)
  | [], o, _ => ⟨[], .nil, fun i v h => by simp at h⟩
  | d :: ds, o, h => by
    obtain ⟨v, e1, e2⟩ := S.at_ (o + 0) d (h 0 d rfl)
    obtain ⟨vs, i2, h2⟩ := sls_vals S ds (o + 1) fun i d' e => by
      have := h (i + 1) d' e
      rwa [show o + (i + 1) = o + 1 + i by omega] at this
    refine ⟨v :: vs, .cons e2 i2, fun i w e => ?_⟩
    cases i with
    | zero =>
      have e : v = w := by simpa using e
      rw [← e]; exact e1
    | succ i =>
      have := h2 i w (by simpa using e)
      rwa [show o + (i + 1) = o + 1 + i by omega]
section
variable {P : Program} {w : World} {K : PySem.W.Frag} {mg : Str → Option Value} {base : Heap} {x qual : Str} {params : Arguments} {body : List Stmt} {scope : Scope} {dvs : List V} {kws : List (Str × V)} {p : Str × Option Str} {fd : FuncData} {C0 : Addr}
theorem fn_I {N ns : List Str} {k : Nat} {m : MS} (F : FunD K x qual params body scope dvs kws (He.fAd K p) fd) (S : FnScope N N scope) (c : Cls K C0) (hn : ∀ f ∈ ns, NoAttr K C0 f) (nd : ns.Nodup) (hN : N.length = ns.length + 1) (hz : ns.length < 1000) (hk : Keeps m) (hi : Indp m) (l : List (Nat × Str)) (hl : l = (List.range ns.length).map (fun i => (i + 1, ns.getD i default)))
    (hbody : ∀ (A : Around) (outer : List Env) (s : Shared) (H : Hp) (E : XK), Room k (A.deeper (envOfC qual scope s.heap.objs.size (He.fAd K p) (.ref (He.codeOf K p)))) →
      ∃ t, DB (cxOf (L2.CX P w) P w K mg base N qual scope (He.fAd K p) (.ref (He.codeOf K p)) A outer s H E) Ts E body t m (tStores K l)) :
    FnOk P w K mg base (L2.CX P w) (k + 1) (He.fAd K p) fd N (spI ⟨K, Ts, fw w⟩ C0 ns m) := by
  obtain ⟨oc, od, dV, kV, doc, pm, an, cdv, ct, osl, rfl, lk, hcd, _, _⟩ := F.ex
  obtain ⟨cc, rfl⟩ := He.codeIn_ref hcd
  have ec : He.codeOf K p = cc := He.codeOf_eq lk rfl
  refine fn_of lk hcd S (fun vs H Q E h => ?_) fun A outer s H vs Q E hr h => ?_
  · obtain ⟨q, dx, ρ, G, ds, vs', rfl, hx, R, i, hd, h⟩ := h
    rw [List.length_cons, ← i.len, hd, hN]
  · obtain ⟨q, dx, ρ, G, ds, vs', rfl, hx, R, i, hd, h⟩ := h
    subst ec
    obtain ⟨t, ht⟩ := hbody A outer s H E hr
    have hv : vs'.length = ns.length := by rw [← i.len, hd]
    refine ⟨t, ht.pe, ht.rf ρ (L2.start N (.ref q :: vs')) H (some (.cls q) :: ds.map some) G _ R ?_ ?_⟩
    · have j : IsL K ρ H (.cls q :: ds) (.ref q :: vs') := .cons (by simp only [Is]) i
      have z := sls_start (N := N) j (n := ds.length + 1) rfl
      have e : N.length - (ds.length + 1) = 0 := by omega
      rw [e] at z
      have z2 : Sls K ρ H (L2.start N (V.ref q :: vs')) (some (D.cls q) :: ds.map some) := by simpa using z
      exact z2
    · have q0 := hi (some (.cls q)) (some .non) (ds.map some) G
      unfold iniM at h
      rw [← q0] at h
      generalize hrs : m (some (.cls q) :: ds.map some) G = rs at h ⊢
      cases rs with
      | bad => exact h
      | bk _ _ => exact h.elim
      | ct _ _ => exact h.elim
      | rt _ _ => exact h.elim
      | ex c d g => exact h
      | nx s' g =>
        have es := hk _ _ _ _ hrs
        subst es
        intro σ' ρ' H' st' S'
        have hq : q ∉ ρ := R.out hx rfl
        have hx' : H' q = some (.ins C0 dx []) := st'.ext.keep q _ hx hq fun ps z => nomatch z
        obtain ⟨v0, h0, e0⟩ := S'.at_ 0 (.cls q) rfl
        have e0 : v0 = .ref q := by simpa only [Is] using e0
        rw [e0] at h0
        obtain ⟨ws, iw, hw⟩ := sls_vals S' ds 1 fun i d e => by
          rw [Nat.add_comm, List.getElem?_cons_succ, List.getElem?_map, e]; rfl
        have iw : IsL K ρ' H' ds ws := iw
        have hfin := h ws ρ' H' st' iw hx'
        have hlen : l.length = ns.length := by rw [hl]; simp
        have hmap : l.map (·.2) = ns := by
          rw [hl, List.map_map]
          apply List.ext_getElem
          · simp
          · intro i h1 h2
            simp [List.getD_eq_getElem?_getD, h2]
        refine run_stores c h0 l ws [] H' hx' (fun r hr => ?_) (by rw [hlen, ← hd, iw.len]) (fun i r v h1 h2 => ?_) (by rw [hmap]; simpa using nd) (by rw [hlen]; simpa using hz) ?_
        · refine hn _ ?_
          rw [← hmap]
          exact List.mem_map_of_mem hr
        · have e : r.1 = 1 + i := by
            rw [hl, List.getElem?_map] at h1
            cases z : (List.range ns.length)[i]? with
            | none => rw [z] at h1; cases h1
            | some y =>
              rw [z] at h1
              cases h1
              have := (List.getElem?_eq_some_iff.mp z).2
              simp at this
              show y + 1 = 1 + i
              omega
          rw [e]
          exact hw i v h2
        · rw [hmap]
          exact hfin
end
end
end DL
namespace DL
open PySem PySem.Spec PyProof.Rows L2
open Classical
noncomputable section
variable {X : Cx} {Ts : List Addr} {E : XK} {a b c e : Expr} {ta tb tc te : TE} {ma mb mc me : Sl → M D} {pos : Pos} {C : Ct} {es : List Expr} {t u : TT} {mt mu : Sl → M Bool} {tr : TA} {mr : Sl → M (List D)}
structure DK (X : Cx) (Ts : List Addr) (E : XK) (kws : List Keyword) (t : TA) (m : Sl → M (List D)) : Prop where
  pe : PK X kws t
  rf : ∀ ρ σ H s G Q, Rel ⟨X.K, Ts, fw X.w⟩ ρ G H → Sls X.K ρ H σ s → Run ⟨X.K, Ts, fw X.w⟩ ρ H (okL ⟨X.K, Ts, fw X.w⟩) (m s G) Q E → t σ H Q
theorem dk_nil : DK X Ts E [] tNil (fun _ => pur []) := ⟨pk_nil, fun ρ σ H s G Q R S h => Run.ret (Ok := okL ⟨X.K, Ts, fw X.w⟩) R h .nil⟩
theorem dk_cons {nm : Option Str} {kpos : Pos} {kws : List Keyword} (he : DE X Ts E e te me) (hr : DK X Ts E kws tr mr) : DK X Ts E (⟨nm, e, kpos⟩ :: kws) (tCons te tr) (fun s => bnd (me s) fun x => bnd (mr s) fun r => pur (x :: r)) := by
  refine ⟨pk_cons he.pe hr.pe, fun ρ σ H s G Q R S h => ?_⟩
  refine he.rf ρ σ H s G _ R S (Run.first h fun x G1 v ρ1 H1 st i h1 => ?_)
  refine hr.rf ρ1 σ H1 s G1 _ st.rel (S.step R st) (Run.first h1 fun r G2 vs ρ2 H2 st2 j h2 => ?_)
  exact Run.ret (Ok := okL ⟨X.K, Ts, fw X.w⟩) st2.rel h2 (.cons (Is.step st.rel st2 i) j)
def makeD (C0 : Addr) (ns : List Str) (m : MS) (ds : List D) : M D := fun g => if ds.length = ns.length then match iniM m ds g with
    | .ok _ g' => .ok (.ins C0 ns ds) g'
    | .ex c d g' => .ex c d g'
    | .bad => .bad
  else .bad
structure OwnC (P : Program) (w : World) (K : PySem.W.Frag) (mg : Str → Option Value) (base : Heap) (Ts : List Addr) (k : Nat) (x : Str) (C0 : Addr) (ns : List Str) (m : MS) : Prop where
  ex : ∃ (f : Addr) (fd : FuncData) (ps : List Str), FnOk P w K mg base (L2.CX P w) k f fd ps (spI ⟨K, Ts, fw w⟩ C0 ns m) ∧ mg x = some (.ref C0) ∧ Mk K C0 f ∧ KBn K fd ps 1 ns (fun us ws => us ++ ws) (fun vs zs => vs ++ zs)
theorem kb_all {K : PySem.W.Frag} {x qual : Str} {params : Arguments} {body : List Stmt} {scope : Scope} {kws : List (Str × V)} {f : Addr} {fd : FuncData} {ps ks : List Str} (F : FunD K x qual params body scope [] kws f fd)
    (h : ∀ (kV doc pm : Value) (an : Option Addr) (cdv ct : Value) (us ws : List Value), us.length = 1 → ws.length = ks.length → bindArgs (PySem.W.fnOf x qual params body scope .none kV doc pm an cdv ct) ⟨us, ks.zip ws⟩ = pure (ps.zip (us ++ ws))) :
    KBn K fd ps 1 ks (fun us ws => us ++ ws) (fun vs zs => vs ++ zs) := by
  obtain ⟨oc, od, dV, kV, doc, pm, an, cdv, ct, osl, rfl, lk, hcd, hD, hK⟩ := F.ex
  rcases hD with ⟨_, rfl⟩ | ⟨e, _⟩
  · exact ⟨fun s us ws X l1 l2 => .of_eq (h kV doc pm an cdv ct us ws l1 l2), fun r1 r2 => r1.append r2⟩
  · exact absurd rfl e
theorem de_make {k : Nat} {x : Str} {C0 : Addr} {ns : List Str} {m : MS} {p : Pos} {kws : List Keyword} {tk : TA} {mk : Sl → M (List D)} (h : OwnC X.prog X.w X.K X.mg X.base Ts k x C0 ns m) (hr : Room (k + 1) X.A) (hg : Gl X x) (hx : PsE X E) (hkw : DK X Ts E kws tk mk) (hne : Still ns)
    (hall : (backToKw pos (keywordEach kws X.env)).all (·.1.isSome) = true := by rfl) (hks : (backToKw pos (keywordEach kws X.env)).filterMap (·.1) = ns := by rfl) (hdb : (x == ("__debug__" : Str)) = false := by decide)
    (hpl : ((backTo pos (starEach [] X.env)).any (·.1) || (backToKw pos (keywordEach kws X.env)).any (·.1.isNone)) = false := by rfl) :
    DE X Ts E (.Call (.Name x p) [] kws pos) (tMakeK C0 0 ns.length (spI ⟨X.K, Ts, fw X.w⟩ C0 ns m) (fun vs zs => vs ++ zs) E tNil tk) (fun s => bnd (mk s) (makeD C0 ns m)) := by
  obtain ⟨f, fd, ps, hF, hm, M, hb⟩ := h.ex
  refine ⟨pe_makeK0 M hF hr hg hm hb hx hkw.pe hall hks hdb hpl, fun ρ σ H s G Q R S h => ?_⟩
  show tk σ H _
  refine hkw.rf ρ σ H s G _ R S (Run.map R h fun ds G1 zs ρ1 H1 R1 i h1 => ?_)
  have i : IsL X.K ρ1 H1 ds zs := i
  unfold makeD at h1
  by_cases hd : ds.length = ns.length
  · rw [if_pos hd] at h1
    refine ⟨rfl, by rw [← i.len, hd], fun y dx hy hdx ne => ?_⟩
    have st1 : Step ⟨X.K, Ts, fw X.w⟩ ρ1 H1 ρ1 G1 (upd H1 dx (.own y)) := Step.lay R1 hdx
    have hy1 : upd H1 dx (.own y) y = none := by rw [upd_ne ne.symm]; exact hy
    have st2 : Step ⟨X.K, Ts, fw X.w⟩ ρ1 H1 ρ1 G1 (upd (upd H1 dx (.own y)) y (.ins C0 dx [])) := st1.trans (Step.lay st1.rel hy1)
    refine ⟨y, dx, ρ1, G1, ds, zs, rfl, upd_same, st2.rel, IsL.step R1 st2 i, hd, ?_⟩
    cases e1 : iniM m ds G1 with
    | bad => rw [e1] at h1; exact h1.elim
    | ex c d g =>
      rw [e1] at h1
      exact ExOk.step st2 h1
    | ok u g =>
      rw [e1] at h1
      intro ws ρ2 H2 st3 iw hy2
      have iw : IsL X.K ρ2 H2 ds ws := iw
      refine ⟨rfl, ?_⟩
      have st4 := (st2.trans st3).born (fs := ns.zip ws) hy hy2
      refine h1 (.ref y) ρ2 _ st4 ?_
      show Is X.K ρ2 _ (.ins C0 ns ds) (.ref y)
      simp only [Is]
      exact ⟨y, dx, ws, [], rfl, by rw [List.append_nil]; exact upd_same, ⟨by rw [← hd, iw.len], hne, fun _ z => by cases z⟩, IsL.born hy2 _ _ iw⟩
  · rw [if_neg hd] at h1
    exact h1.elim
def extendD (x : D) (ds : List D) : M D := fun g => match x, ds with
  | .ref n, [.ref m] => match g[n]?, g[m]? with
    | some (.lst xs), some (.lst ys) => if xs.length + ys.length ≤ LIM then .ok .non (g.set n (.lst (xs ++ ys))) else .bad
    | _, _ => .bad
  | _, _ => .bad
theorem mtd_extend : MtD C rExtend "list" extendD := by
  intro ρ G H x ds u vs Q E R i j h
  unfold extendD at h
  split at h
  · rename_i n m
    split at h
    · rename_i xs ys e1 e2
      split at h
      · rename_i hc
        obtain ⟨p, ws, rfl, hn, hp, hl⟩ := R.lst e1 i
        obtain ⟨w, rfl, j2⟩ := isl_one j
        obtain ⟨p2, ws2, rfl, hn2, hp2, hl2⟩ := R.lst e2 j2
        refine ⟨p, p2, ws, ws2, rfl, rfl, hp, hp2, by rw [← hl.len, ← hl2.len]; exact lim_ok hc, ?_⟩
        exact h .non ρ _ (Step.write R hn hp (c := .lst (xs ++ ys)) ⟨_, rfl, hl.app hl2⟩) isNon
      · exact h.elim
    · exact h.elim
  · exact h.elim
end
end DL
namespace DL
open PySem PySem.Spec PyProof.Rows L2
open Classical
noncomputable section
theorem hu1 {k : Nat} {A : Around} (hr : Room k A) : A.units + 1 < cLine := by
  have := hr.un
  omega
end
end DL
namespace DL
open PySem PySem.Spec PyProof.Rows L2
open Classical
noncomputable section
variable {X : Cx} {Ts : List Addr} {E : XK} {a b c e : Expr} {ta tb tc te : TE} {ma mb mc me : Sl → M D} {pos : Pos} {C : Ct} {es : List Expr} {t u : TT} {mt mu : Sl → M Bool} {tr : TA} {mr : Sl → M (List D)}
theorem de_globI {x : Str} {i : Int} (hg : Gl X x) (hm : ∃ t, X.mg x = some (.int i t)) (hd : (x == ("__debug__" : Str)) = false := by decide) : DE X Ts E (.Name x pos) (tC (.int i)) (fun _ => pur (.int i)) := by
  obtain ⟨t, h⟩ := hm
  exact de_c (pe_glob hg h ⟨t, rfl⟩ hd) rfl fun _ _ => isInt
def putD (ds : List (Key × D)) (k : Key) (d : D) : List (Key × D) :=
  if ds.any (fun q => decide (q.1 = k)) then ds.map (fun q => if q.1 = k then (q.1, d) else q) else ds ++ [(k, d)]
theorem IsK.any {K : PySem.W.Frag} {ρ : List Addr} {H : Hp} {k : Key} : ∀ {ds : List (Key × D)} {vs : List (Key × V)}, IsK K ρ H ds vs → (ds.any fun q => decide (q.1 = k)) = (vs.any fun q => decide (q.1 = k))
  | _, _, .nil => rfl
  | p :: ds, q :: vs, .cons h t => by rw [List.any_cons, List.any_cons, h.1, IsK.any t]
theorem IsK.over {K : PySem.W.Frag} {ρ : List Addr} {H : Hp} {k : Key} {d : D} {v : V} (hd : Is K ρ H d v) : ∀ {ds : List (Key × D)} {vs : List (Key × V)}, IsK K ρ H ds vs → IsK K ρ H (ds.map (fun q => if q.1 = k then (q.1, d) else q)) (vs.map (fun q => if q.1 = k then (q.1, v) else q))
  | _, _, .nil => .nil
  | p :: ds, q :: vs, .cons h t => by
    rw [List.map_cons, List.map_cons]
    refine .cons ?_ (IsK.over hd t)
    by_cases e : p.1 = k
    · rw [if_pos e, if_pos (by rw [← h.1]; exact e)]
      exact ⟨h.1, hd⟩
    · rw [if_neg e, if_neg (by rw [← h.1]; exact e)]
      exact h
theorem IsK.app {K : PySem.W.Frag} {ρ : List Addr} {H : Hp} {p : Key × D} {q : Key × V} (hp : p.1 = q.1 ∧ Is K ρ H p.2 q.2) : ∀ {ds : List (Key × D)} {vs : List (Key × V)}, IsK K ρ H ds vs → IsK K ρ H (ds ++ [p]) (vs ++ [q])
  | _, _, .nil => .cons hp .nil
  | _ :: _, _ :: _, .cons h t => .cons h (IsK.app hp t)
theorem IsK.put {K : PySem.W.Frag} {ρ : List Addr} {H : Hp} {k : Key} {d : D} {v : V} (hd : Is K ρ H d v) {ds : List (Key × D)} {vs : List (Key × V)} (h : IsK K ρ H ds vs) : IsK K ρ H (putD ds k d) (putK vs k v) := by
  unfold putD putK
  rw [h.any (k := k)]
  by_cases e : (vs.any fun q => decide (q.1 = k)) = true
  · rw [if_pos e, if_pos e]
    exact h.over hd
  · rw [if_neg e, if_neg e]
    exact h.app ⟨rfl, hd⟩
def dputD (x i d : D) : M Unit := fun g => match x, keyD i with
  | .ref n, some k => match g[n]? with
    | some (.dic ds) => if ds.length < LIM then .ok () (g.set n (.dic (putD ds k d))) else .bad
    | _ => .bad
  | _, _ => .bad
def subDG (mo mi : Sl → M D) (d : D) (s : Sl) : M Sl := bnd (mo s) fun x => bnd (mi s) fun i => bnd (dputD x i d) fun _ => pur s
theorem run_dput {ρ : List Addr} {G : GS} {H : Hp} {x i d : D} {u v w : V} {Q : Hp → Prop} {γ δ : Type} {Ok : List Addr → Hp → γ → δ → Prop} {k : Unit → M γ} {Q2 : δ → Hp → Prop} (R : Rel C ρ G H) (hx : Is C.K ρ H x u) (hi : Is C.K ρ H i v) (hd : Is C.K ρ H d w) (h : Run C ρ H Ok (bnd (dputD x i d) k G) Q2 E)
    (hk : ∀ G1 H1, Step C ρ H ρ G1 H1 → Run C ρ H1 Ok (k () G1) Q2 E → Q H1) : rSetD u v w H Q := by
  unfold bnd dputD at h
  cases x with
  | ref n =>
    cases ek : keyD i with
    | none => rw [ek] at h; exact h.elim
    | some k0 =>
      rw [ek] at h
      dsimp only at h
      cases e1 : G[n]? with
      | none => rw [e1] at h; exact h.elim
      | some cl =>
        cases cl with
        | lst _ => rw [e1] at h; exact h.elim
        | set _ => rw [e1] at h; exact h.elim
        | map _ => rw [e1] at h; exact h.elim
        | obj _ _ _ => rw [e1] at h; exact h.elim
        | dic ds =>
          rw [e1] at h
          dsimp only at h
          by_cases hl : ds.length < LIM
          · rw [if_pos hl] at h
            obtain ⟨p, vs, rfl, hn, hp, hv⟩ := R.dic e1 hx
            have st := Step.write (o := .dK (putK vs k0 w)) R hn hp (c := .dic (putD ds k0 d)) ⟨_, rfl, IsK.put hd hv⟩
            refine ⟨p, _, rfl, ?_, hk _ _ st (Run.step st h)⟩
            rw [keyD_is ek hi]
            exact DPut.k hp (by rw [← hv.len]; exact lim_lt hl)
          · rw [if_neg hl] at h
            exact h.elim
  | _ => cases keyD i <;> exact h.elim
theorem dg_dsub (hu : X.A.units + 1 < cLine) {o i : Expr} {to ti : TE} {mo mi : Sl → M D} (ho : DE X Ts E o to mo) (hi : DE X Ts E i ti mi)
    (ha : ∀ v, assign (.Subscript o i pos) X.env v = (do
      let ov ← holding [v] (eval o X.env)
      let iv ← holding [v, ov] (eval i X.env)
      standAt pos
      holding [v, ov, iv] (setItem ov iv v)
      release [v, ov, iv] []) := by intro _; rfl) : DG X Ts E (.Subscript o i pos) (gSub to ti rSetD) (subDG mo mi) [] := by
  refine ⟨pg_sub ho.pe hi.pe (set_dict hu) ha, fun ρ σ H s G d v Q R S i' h => ?_⟩
  refine ho.rf ρ σ H s G _ R S (Run.first h fun x G1 u ρ1 H1 st ix h1 => ?_)
  refine hi.rf ρ1 σ H1 s G1 _ st.rel (S.step R st) (Run.first h1 fun y G2 v2 ρ2 H2 st2 iy h2 => ?_)
  refine run_dput st2.rel (Is.step st.rel st2 ix) iy (Is.step st.rel st2 (Is.step R st i')) h2 fun G3 H3 st3 h3 => ?_
  exact Run.ret (Ok := okG ⟨X.K, Ts, fw X.w⟩ [] σ) st3.rel h3 ⟨((S.step R st).step st.rel st2).step st2.rel st3, rfl, fun i _ => rfl⟩
end
end DL
namespace DL
open PySem PySem.Spec PyProof.Rows L2
open Classical
end DL
namespace DL
open PySem PySem.Spec PyProof.Rows L2
open Classical
noncomputable section
variable {X : Cx} {Ts : List Addr} {E : XK} {a b c e : Expr} {ta tb tc te : TE} {ma mb mc me : Sl → M D} {pos : Pos} {C : Ct} {es : List Expr} {t u : TT} {mt mu : Sl → M Bool} {tr : TA} {mr : Sl → M (List D)}
def strD (ds : List D) : M D := fun g => match ds with
  | [.int i] => if i.natAbs.log2 < 1920 then .ok (.str (toString i : String)) g else .bad
  | _ => .bad
theorem calld_str : CallD C (fun xs H Q => ∃ i, xs = [.int i] ∧ i.natAbs.log2 < 1920 ∧ Q (.str (toString i : String)) H) strD := by
  intro ρ G H ds vs Q E R i h
  unfold strD at h
  split at h
  · obtain ⟨v, rfl, i2⟩ := isl_one i
    split at h
    · rename_i hc
      exact ⟨_, by rw [is_int i2], hc, Run.ret (Ok := okD C) R h isStr⟩
    · exact h.elim
  · exact h.elim
def ixSD (x y : D) : M D := match x, y with
  | .str z, .int i => fun g => if z.length ≤ LIM then match atI z.cps.toList i with
    | some c => .ok (.str ⟨#[c]⟩) g
    | none => .bad
    else .bad
  | _, _ => fail
theorem opd_ixS : OpD C rIxS ixSD := by
  intro ρ G H x y u v Q E R i j h
  unfold ixSD at h
  split at h
  · rename_i z k
    split at h
    · rename_i hl
      split at h
      · rename_i c hc
        exact ⟨z, k, c, is_str i, is_int j, lim_ok hl, hc, Run.ret (Ok := okD C) R h isStr⟩
      · exact h.elim
    · exact h.elim
  · exact h.elim
theorem de_ixS (ha : DE X Ts E a ta ma) (hb : DE X Ts E b tb mb) (hs : PlainIx b) : DE X Ts E (.Subscript a b pos) (tOp rIxS ta tb) (fun s => bnd (ma s) fun x => bnd (mb s) fun y => ixSD x y) :=
  ⟨pe_ix ix_str ha.pe hb.pe hs, rf_op (opd_ixS (C := ⟨X.K, Ts, fw X.w⟩)) ha hb⟩
def strsOf : List D → Option (List Str)
  | [] => some []
  | .str x :: r => (strsOf r).map (x :: ·)
  | _ => none
theorem strsOf_map : ∀ {ds : List D} {ns : List Str}, strsOf ds = some ns → ds = ns.map D.str
  | [], ns, h => by cases h; rfl
  | d :: r, ns, h => by
    cases d with
    | str i =>
      unfold strsOf at h
      cases e : strsOf r with
      | none => rw [e] at h; cases h
      | some ms =>
        rw [e] at h
        cases h
        rw [strsOf_map e]; rfl
    | _ => cases h
theorem isl_strs {K : PySem.W.Frag} {ρ : List Addr} {H : Hp} : ∀ {ns : List Str} {vs : List V}, IsL K ρ H (ns.map D.str) vs → vs = ns.map V.str
  | [], vs, h => by simpa only [List.map_nil, IsL] using h
  | n :: ns, vs, h => by
    simp only [List.map_cons, IsL] at h
    obtain ⟨v, r, rfl, h1, h2⟩ := h
    rw [is_str h1, isl_strs h2]; rfl
def joinD (x : D) (ds : List D) : M D := fun g => match x, ds with
  | .str z, [.ref n] => match g[n]? with
    | some (.lst xs) => match strsOf xs with
      | some ys => if (ys.map (·.length)).sum + ys.length * z.length ≤ LIM then .ok (.str (Str.join z ys)) g else .bad
      | none => .bad
    | _ => .bad
  | _, _ => .bad
abbrev rJoin (K : PySem.W.Frag) : V → List V → Hp → VK → Prop := fun x xs H Q => ∃ z p, ∃ ys : List Str, x = .str z ∧ xs = [.ref p] ∧ (SqL K H p (ys.map V.str) ∨ SqT K H p (ys.map V.str)) ∧
    (ys.map (·.length)).sum + ys.length * z.length ≤ 16777216 ∧ Q (.str (Str.join z ys)) H
theorem mt_joinS : MtR X "str.join" (rJoin X.K) := fun pins s σ H x xs v us Q I rx rs h => mt_join pins s σ H x xs v us Q I rx rs (by
  obtain ⟨z, p, ys, e1, e2, e3, e4, e5⟩ := h
  exact ⟨z, p, ys, e1, e2, e3, e4, by rw [TL.join_eq]; exact e5⟩)
theorem mtd_join : MtD C (rJoin C.K) "str" joinD := by
  intro ρ G H x ds u vs Q E R i j h
  unfold joinD at h
  split at h
  · rename_i z n
    split at h
    · rename_i xs e1
      split at h
      · rename_i ys e2
        split at h
        · rename_i hc
          obtain ⟨w, rfl, j2⟩ := isl_one j
          obtain ⟨p, ws, rfl, hn, hp, hl⟩ := R.lst e1 j2
          rw [strsOf_map e2] at hl
          rw [isl_strs hl] at hp
          exact ⟨z, p, ys, is_str i, rfl, .inl (SqL.of hp), Nat.le_trans hc (by decide), Run.ret (Ok := okD C) R h isStr⟩
        · exact h.elim
      · exact h.elim
    · exact h.elim
  · exact h.elim
/-- a walk that asks no more of the run than what cells and others allow -/
structure Walk2 (C : Ct) (w : Itm) (ρ0 : List Addr) (H0 : Hp) (J : It) : Prop where
  go : ∀ i ρ G H d, ρ0 <+: ρ → TExt H0 H → Rel C ρ G H → w.ok G → w.items[i]? = some d → J.go i H
  yld : ∀ i ρ G H x H' d, ρ0 <+: ρ → TExt H0 H → Rel C ρ G H → w.ok G → w.items[i]? = some d → J.yld i H x H' → Step C ρ H ρ G H' ∧ Is C.K ρ H' d x
  stop : ∀ ρ G H, ρ0 <+: ρ → TExt H0 H → Rel C ρ G H → w.ok G → J.stop w.items.length H
theorem walk2_tup {ρ : List Addr} {H : Hp} {p : Addr} {vs : List V} {ds : List D} (hp : SqT C.K H p vs) (hl : IsL C.K ρ H ds vs) : Walk2 C ⟨ds, none⟩ ρ H (Itt C.K p) := by
  refine ⟨fun i ρ1 G1 H1 d pr x R ok hd => ?_, fun i ρ1 G1 H1 y H' d pr x R ok hd z => ?_, fun ρ1 G1 H1 pr x R ok => ?_⟩
  · obtain ⟨w, e1, _⟩ := (hl.mono pr x).get hd
    exact ⟨vs, w, x.sqt hp, e1⟩
  · obtain ⟨rfl, z⟩ := z
    obtain ⟨w, e1, e2⟩ := (hl.mono pr x).get hd
    have e3 := z vs (x.sqt hp)
    rw [e1] at e3
    cases e3
    exact ⟨Step.refl R, e2⟩
  · exact ⟨vs, x.sqt hp, by rw [← hl.len]; exact Nat.le_refl _⟩
theorem walk2_scr {ρ : List Addr} {H : Hp} {p : Addr} {ns : List Int} (hp : FzL C.K H p (ns.map V.int)) : Walk2 C ⟨ns.map D.int, none⟩ ρ H (Itl C.K p) := by
  refine ⟨fun i ρ1 G1 H1 d pr x R ok hd => ?_, fun i ρ1 G1 H1 y H' d pr x R ok hd z => ?_, fun ρ1 G1 H1 pr x R ok => ?_⟩
  · obtain ⟨n, rfl, e1⟩ := ints_get hd
    exact ⟨_, _, (x.fzl hp).sql, e1⟩
  · obtain ⟨rfl, z⟩ := z
    obtain ⟨n, rfl, e1⟩ := ints_get hd
    have e3 := z _ (x.fzl hp).sql
    rw [e1] at e3
    cases e3
    exact ⟨Step.refl R, isInt⟩
  · refine ⟨_, (x.fzl hp).sql, ?_⟩
    show (ns.map V.int).length ≤ (ns.map D.int).length
    simp
theorem walk2_lst {ρ : List Addr} {H : Hp} {p : Addr} {n : Nat} {ds : List D} (hp : ρ[n]? = some p) : Walk2 C ⟨ds, some (n, ds)⟩ ρ H (Itl C.K p) := by
  have at_ : ∀ {ρ1 : List Addr} {G1 : GS} {H1 : Hp}, ρ <+: ρ1 → Rel C ρ1 G1 H1 → (⟨ds, some (n, ds)⟩ : Itm).ok G1 → ∃ vs, H1 p = some (.lst vs) ∧ IsL C.K ρ1 H1 ds vs := fun {ρ1 G1 H1} pr R ok => by
    have i : Is C.K ρ1 H1 (.ref n) (.ref p) := by simp only [Is]; exact ⟨p, rfl, ix_pre pr hp⟩
    obtain ⟨q, vs, e, _, h1, h2⟩ := R.lst ok i
    cases e
    exact ⟨vs, h1, h2⟩
  refine ⟨fun i ρ1 G1 H1 d pr x R ok hd => ?_, fun i ρ1 G1 H1 y H' d pr x R ok hd z => ?_, fun ρ1 G1 H1 pr x R ok => ?_⟩
  · obtain ⟨vs, h1, h2⟩ := at_ pr R ok
    obtain ⟨w, e1, _⟩ := h2.get hd
    exact ⟨vs, w, SqL.of h1, e1⟩
  · obtain ⟨rfl, z⟩ := z
    obtain ⟨vs, h1, h2⟩ := at_ pr R ok
    obtain ⟨w, e1, e2⟩ := h2.get hd
    have e3 := z vs (SqL.of h1)
    rw [e1] at e3
    cases e3
    exact ⟨Step.refl R, e2⟩
  · obtain ⟨vs, h1, h2⟩ := at_ pr R ok
    exact ⟨vs, SqL.of h1, by rw [← h2.len]; exact Nat.le_refl _⟩
theorem inner_seq {ρ : List Addr} {G G' : GS} {H : Hp} {d : D} {u : V} {w : Itm} (R : Rel C ρ G H) (i : Is C.K ρ H d u) (e : seqW d G = .ok w G') : G' = G ∧ ((∃ p xs, u = .ref p ∧ SqL C.K H p xs ∧ Walk2 C w ρ H (Itl C.K p)) ∨ ∃ p xs, u = .ref p ∧ SqT C.K H p xs ∧ Walk2 C w ρ H (Itt C.K p)) := by
  unfold seqW at e
  cases d with
  | tup ds =>
    cases e
    obtain ⟨p, vs, rfl, hp, hl⟩ := is_tup i
    exact ⟨rfl, .inr ⟨p, vs, rfl, hp, walk2_tup hp hl⟩⟩
  | scr ns =>
    cases e
    simp only [Is] at i
    obtain ⟨p, rfl, hp⟩ := i
    exact ⟨rfl, .inl ⟨p, _, rfl, hp.sql, walk2_scr hp⟩⟩
  | ref n =>
    dsimp only at e
    split at e
    · rename_i ds e1
      cases e
      obtain ⟨p, vs, rfl, hn, hp, hl⟩ := R.lst e1 i
      exact ⟨rfl, .inl ⟨p, vs, rfl, SqL.of hp, walk2_lst hn⟩⟩
    · cases e
  | _ => cases e
def comp2M (w : Itm) (tg : D → Sl → M Sl) (me1 : Sl → M D) (tg1 : D → Sl → M Sl) (elt : Sl → M D) (vs1 : List Nat) (s : Sl) : List D → M (List D)
  | [] => fun g => if w.ok g then .ok [] g else .bad
  | x :: xs => fun g => if w.ok g then match tg x s g with
      | .ok s1 g1 => match bnd (me1 s1) seqW g1 with
        | .ok w1 g2 => match compM w1 tg1 (fun _ => pur true) elt (wipeD s1 vs1) w1.items g2 with
          | .ok r1 g3 => match comp2M w tg me1 tg1 elt vs1 s xs g3 with
            | .ok r g4 => .ok (r1 ++ r) g4
            | .bad => .bad
            | .ex _ _ _ => .bad
          | _ => .bad
        | _ => .bad
      | _ => .bad
    else .bad
theorem comp2M_noex (w : Itm) (tg : D → Sl → M Sl) (me1 : Sl → M D) (tg1 : D → Sl → M Sl) (elt : Sl → M D) (vs1 : List Nat) (s : Sl) : ∀ (xs : List D) (g : GS) (c : Addr) (d : D) (g' : GS), comp2M w tg me1 tg1 elt vs1 s xs g ≠ .ex c d g'
  | [], g, c, d, g' => by
    unfold comp2M
    split <;> intro h <;> cases h
  | x :: xs, g, c, d, g' => by
    unfold comp2M
    split
    · split
      · split
        · split
          · split <;> intro h <;> cases h
          · intro h; cases h
        · intro h; cases h
      · intro h; cases h
    · intro h; cases h
theorem Sls.mono {K : PySem.W.Frag} {ρ ρ1 : List Addr} {H H1 : Hp} {σ : L2.St} {s : Sl} (p : ρ <+: ρ1) (x : TExt H H1) (S : Sls K ρ H σ s) : Sls K ρ1 H1 σ s :=
  ⟨S.len, fun i d e => let ⟨v, e1, e2⟩ := S.at_ i d e; ⟨v, e1, e2.mono p x⟩⟩
theorem TExt.trans {H H1 H2 : Hp} (a : TExt H H1) (b : TExt H1 H2) : TExt H H2 := ⟨fun q o e h1 h2 => b.keep q o (a.keep q o e h1 h2) h1 h2⟩
theorem rf_comp2 {wi : TI} {g gg : TG} {te te1 : TE} {vs vs1 : List Nat} {mi : Sl → M Itm} {me1 : Sl → M D} {tgm tgm1 : D → Sl → M Sl} {melt : Sl → M D} {tg iter : Expr}
    (hi : DI X Ts E tg iter wi mi) (hg : ∀ ρ σ H s G d v (Q : L2.St → Hp → Prop), Rel ⟨X.K, Ts, fw X.w⟩ ρ G H → Sls X.K ρ H σ s → Is X.K ρ H d v → Run ⟨X.K, Ts, fw X.w⟩ ρ H (okG ⟨X.K, Ts, fw X.w⟩ vs σ) (tgm d s G) Q E0 → g v σ H Q)
    (hi1 : ∀ ρ σ H s G Q, Rel ⟨X.K, Ts, fw X.w⟩ ρ G H → Sls X.K ρ H σ s → Run ⟨X.K, Ts, fw X.w⟩ ρ H (okD ⟨X.K, Ts, fw X.w⟩) (me1 s G) Q E0 → te1 σ H Q)
    (hg1 : ∀ ρ σ H s G d v (Q : L2.St → Hp → Prop), Rel ⟨X.K, Ts, fw X.w⟩ ρ G H → Sls X.K ρ H σ s → Is X.K ρ H d v → Run ⟨X.K, Ts, fw X.w⟩ ρ H (okG ⟨X.K, Ts, fw X.w⟩ vs1 σ) (tgm1 d s G) Q E0 → gg v σ H Q)
    (he : ∀ ρ σ H s G Q, Rel ⟨X.K, Ts, fw X.w⟩ ρ G H → Sls X.K ρ H σ s → Run ⟨X.K, Ts, fw X.w⟩ ρ H (okD ⟨X.K, Ts, fw X.w⟩) (melt s G) Q E0 → te σ H Q)
    {ρ : List Addr} {σ : L2.St} {H : Hp} {s : Sl} {G : GS} {Q : VK} (R : Rel ⟨X.K, Ts, fw X.w⟩ ρ G H) (S : Sls X.K ρ H σ s)
    (h : Run ⟨X.K, Ts, fw X.w⟩ ρ H (fun ρ' H' ds D => H D = none ∧ ∃ vs, H' D = some (.lst vs) ∧ D ∉ ρ' ∧ IsL X.K ρ' H' ds vs) (bnd (mi s) (fun w => bnd (comp2M w tgm me1 tgm1 melt vs1 (wipeD s vs) w.items) fun ds => if ds.length ≤ LIM then pur ds else fail) G) (fun D H' => Q (.ref D) H') E) : tLc2 wi g tYes (iSeq X.K te1) gg tYes te vs vs1 σ H Q := by
  refine hi.rf ρ σ H s G _ R S (Run.first h fun w G1 J ρ1 H1 st1 wk h1 => ?_)
  intro Dl hD
  have wk : Walk ⟨X.K, Ts, fw X.w⟩ w ρ1 H1 J := wk
  let Word : Nat → Hp → Prop := fun i H' => ∃ ρ' G' acc vacc, Step ⟨X.K, Ts, fw X.w⟩ ρ1 H1 ρ' G' H' ∧ Dl ∉ ρ' ∧ H' Dl = some (.lst vacc) ∧ IsL X.K ρ' H' acc vacc ∧ i ≤ w.items.length ∧
    ∃ r G'', comp2M w tgm me1 tgm1 melt vs1 (wipeD s vs) (w.items.drop i) G' = .ok r G'' ∧ (acc ++ r).length ≤ LIM ∧ ∀ ρ2 H2 vs2, Step ⟨X.K, Ts, fw X.w⟩ ρ1 H1 ρ2 G'' H2 → Dl ∉ ρ2 → H2 Dl = some (.lst vs2) → IsL X.K ρ2 H2 (acc ++ r) vs2 → Q (.ref Dl) H2
  have hDn : Dl ∉ ρ1 := fun z => by
    obtain ⟨o, e, _⟩ := st1.rel.there z
    rw [hD] at e; cases e
  have hstep : ∀ {ρ' : List Addr} {G' : GS} {H' H2 : Hp} {ρ2 : List Addr} {G2 : GS} {vacc : List V}, Step ⟨X.K, Ts, fw X.w⟩ ρ' H' ρ2 G2 H2 → Dl ∉ ρ' → H' Dl = some (.lst vacc) → H2 Dl = some (.lst vacc) ∧ Dl ∉ ρ2 := fun {ρ' G' H' H2 ρ2 G2 vacc} st hn e => by
    refine ⟨st.ext.keep Dl _ e hn (fun ps z => nomatch z), fun z => ?_⟩
    have := st.fresh Dl z hn
    rw [e] at this; cases this
  refine ⟨fun i m H' => m = w.items.length - i ∧ Word i H', ⟨w.items.length, by simp, ?_⟩, ?_⟩
  · have st2 : Step ⟨X.K, Ts, fw X.w⟩ ρ1 H1 ρ1 G1 (upd H1 Dl (.lst [])) := Step.lay st1.rel hD
    unfold bnd at h1
    cases e : comp2M w tgm me1 tgm1 melt vs1 (wipeD s vs) w.items G1 with
    | bad => rw [e] at h1; exact h1.elim
    | ex c d g => exact absurd e (comp2M_noex _ _ _ _ _ _ _ _ _ _ _ _)
    | ok r G'' =>
      rw [e] at h1
      dsimp only at h1
      split at h1
      · rename_i hc
        refine ⟨ρ1, G1, [], [], st2, hDn, upd_same, .nil, Nat.zero_le _, r, G'', e, hc, fun ρ2 H2 vs2 st3 hn e2 i2 => ?_⟩
        exact h1 Dl ρ2 H2 st3 ⟨st1.back hD, vs2, e2, hn, i2⟩
      · exact h1.elim
  · rintro i m H' ⟨rfl, ρ', G', acc, vacc, st, hn, eD, hacc, hile, r, G'', er, hlen, fin⟩
    by_cases hi : i < w.items.length
    · have hd : w.items.drop i = w.items[i] :: w.items.drop (i + 1) := List.drop_eq_getElem_cons hi
      have hx : w.items[i]? = some w.items[i] := List.getElem?_eq_getElem hi
      rw [hd] at er
      unfold comp2M at er
      split at er
      · rename_i hok
        refine .inr ⟨wk.go i ρ' G' H' _ st hok hx, fun H2 => Word (i + 1) H2, fun H2 w2 => ⟨w.items.length - (i + 1), by omega, rfl, w2⟩, fun x H2 hy => ?_⟩
        obtain ⟨st2, hx2⟩ := wk.yld i ρ' G' H' x H2 _ st hok hx hy
        have S2 : Sls X.K ρ' H2 (L2.wipe σ vs) (wipeD s vs) := ((((S.step R st1).step st1.rel st).step st.rel st2).wipe vs)
        have st2' := st.trans st2
        obtain ⟨eD2, hn2⟩ := hstep (G' := G') st2 hn eD
        have hacc2 : IsL X.K ρ' H2 acc vacc := IsL.step st.rel st2 hacc
        refine hg ρ' (L2.wipe σ vs) H2 (wipeD s vs) G' _ x _ st2.rel S2 hx2 ?_
        cases e1 : tgm w.items[i] (wipeD s vs) G' with
        | bad => rw [e1] at er; cases er
        | ex _ _ _ => rw [e1] at er; cases er
        | ok s1 g1 =>
          rw [e1] at er
          intro σ3 ρ3 H3 st3 ⟨S3, hl3, hσ3⟩
          have hl3 : σ3.length = σ.length := by rw [hl3, L2.wipe_length]
          refine ⟨wipe_eq hl3 hσ3, ?_⟩
          obtain ⟨eD3, hn3⟩ := hstep (G' := G') st3 hn2 eD2
          have hacc3 : IsL X.K ρ3 H3 acc vacc := IsL.step st2.rel st3 hacc2
          have st03 := st2'.trans st3
          dsimp only at er
          try unfold tYes
          try dsimp only
          rw [if_pos rfl]
          refine hi1 ρ3 σ3 H3 s1 g1 _ st3.rel S3 ?_
          unfold bnd at er
          cases e2 : me1 s1 g1 with
          | bad => rw [e2] at er; cases er
          | ex _ _ _ => rw [e2] at er; cases er
          | ok dt g2 =>
            rw [e2] at er
            dsimp only at er
            · skip
              intro u ρ4 H4 st4 hu
              cases ew : seqW dt g2 with
              | bad => rw [ew] at er; cases er
              | ex _ _ _ => rw [ew] at er; cases er
              | ok w1 g2' =>
              rw [ew] at er
              dsimp only at er
              obtain ⟨rfl, hin⟩ := inner_seq (C := ⟨X.K, Ts, fw X.w⟩) st4.rel hu ew
              obtain ⟨eD4, hn4⟩ := hstep (G' := g1) st4 hn3 eD3
              have hacc4 : IsL X.K ρ4 H4 acc vacc := IsL.step st3.rel st4 hacc3
              have st04 := st03.trans st4
              have S4 := S3.step st3.rel st4
              rcases hin with ⟨p, vs4, rfl, hp4, wk1⟩ | ⟨p, vs4, rfl, hp4, wk1⟩
              all_goals first | refine ⟨p, rfl, .inl ⟨⟨vs4, hp4⟩, ?_⟩⟩ | refine ⟨p, rfl, .inr ⟨⟨vs4, hp4⟩, ?_⟩⟩
              all_goals
                let Word1 : Nat → Hp → Prop := fun j H' => ∃ ρ' G' acc vacc, Step ⟨X.K, Ts, fw X.w⟩ ρ1 H1 ρ' G' H' ∧ ρ4 <+: ρ' ∧ TExt H4 H' ∧ Sls X.K ρ' H' σ3 s1 ∧ Dl ∉ ρ' ∧ H' Dl = some (.lst vacc) ∧ IsL X.K ρ' H' acc vacc ∧ j ≤ w1.items.length ∧
                  ∃ r1 g3, compM w1 tgm1 (fun _ => pur true) melt (wipeD s1 vs1) (w1.items.drop j) G' = .ok r1 g3 ∧ ∃ r G'', comp2M w tgm me1 tgm1 melt vs1 (wipeD s vs) (w.items.drop (i + 1)) g3 = .ok r G'' ∧ (acc ++ r1 ++ r).length ≤ LIM ∧
                    ∀ ρ2 H2 vs2, Step ⟨X.K, Ts, fw X.w⟩ ρ1 H1 ρ2 G'' H2 → Dl ∉ ρ2 → H2 Dl = some (.lst vs2) → IsL X.K ρ2 H2 (acc ++ r1 ++ r) vs2 → Q (.ref Dl) H2
                refine ⟨fun j m H' => m = w1.items.length - j ∧ Word1 j H', ⟨w1.items.length, by simp, ?_⟩, ?_⟩
                · cases e3 : compM w1 tgm1 (fun _ => pur true) melt (wipeD s1 vs1) w1.items g2' with
                  | bad => rw [e3] at er; cases er
                  | ex _ _ _ => rw [e3] at er; cases er
                  | ok r1 g3 =>
                    rw [e3] at er
                    dsimp only at er
                    cases e4 : comp2M w tgm me1 tgm1 melt vs1 (wipeD s vs) (w.items.drop (i + 1)) g3 with
                    | bad => rw [e4] at er; cases er
                    | ex _ _ _ => rw [e4] at er; cases er
                    | ok r' g4 =>
                      rw [e4] at er
                      cases er
                      exact ⟨ρ4, g2', acc, vacc, st04, List.prefix_refl _, ⟨fun _ _ e _ _ => e⟩, S4, hn4, eD4, hacc4, Nat.zero_le _, r1, g3, e3, r', _, e4, by rw [List.append_assoc]; exact hlen, by rw [List.append_assoc]; exact fin⟩
                · rintro j k H5 ⟨rfl, ρ5, G5, acc5, vacc5, st5, p45, x45, S5, hn5, eD5, hacc5, hjle, r1, g3, er1, r5, G6, er5, hlen5, fin5⟩
                  by_cases hj : j < w1.items.length
                  · have hd1 : w1.items.drop j = w1.items[j] :: w1.items.drop (j + 1) := List.drop_eq_getElem_cons hj
                    have hx1 : w1.items[j]? = some w1.items[j] := List.getElem?_eq_getElem hj
                    rw [hd1] at er1
                    unfold compM at er1
                    split at er1
                    · rename_i hok1
                      refine .inr ⟨wk1.go j ρ5 G5 H5 _ p45 x45 st5.rel hok1 hx1, fun H2 => Word1 (j + 1) H2, fun H2 w2 => ⟨w1.items.length - (j + 1), by omega, rfl, w2⟩, fun x H6 hy => ?_⟩
                      obtain ⟨st6, hx6⟩ := wk1.yld j ρ5 G5 H5 x H6 _ p45 x45 st5.rel hok1 hx1 hy
                      have S6' := S5.step st5.rel st6
                      have S6 : Sls X.K ρ5 H6 (L2.wipe σ3 vs1) (wipeD s1 vs1) := S6'.wipe vs1
                      have st6' := st5.trans st6
                      obtain ⟨eD6, hn6⟩ := hstep (G' := G5) st6 hn5 eD5
                      have hacc6 : IsL X.K ρ5 H6 acc5 vacc5 := IsL.step st5.rel st6 hacc5
                      refine hg1 ρ5 (L2.wipe σ3 vs1) H6 (wipeD s1 vs1) G5 _ x _ st6.rel S6 hx6 ?_
                      cases e7 : tgm1 w1.items[j] (wipeD s1 vs1) G5 with
                      | bad => rw [e7] at er1; cases er1
                      | ex _ _ _ => rw [e7] at er1; cases er1
                      | ok s7 g7 =>
                        rw [e7] at er1
                        intro σ7 ρ7 H7 st7 ⟨S7, hl7, hσ7⟩
                        have hl7 : σ7.length = σ3.length := by rw [hl7, L2.wipe_length]
                        refine ⟨wipe_eq hl7 hσ7, ?_⟩
                        obtain ⟨eD7, hn7⟩ := hstep (G' := G5) st7 hn6 eD6
                        have hacc7 : IsL X.K ρ7 H7 acc5 vacc5 := IsL.step st6.rel st7 hacc6
                        try unfold tYes
                        try dsimp only
                        rw [if_pos rfl]
                        dsimp only [pur] at er1
                        refine he ρ7 σ7 H7 s7 g7 _ st7.rel S7 ?_
                        cases e8 : melt s7 g7 with
                        | bad => rw [e8] at er1; cases er1
                        | ex _ _ _ => rw [e8] at er1; cases er1
                        | ok d g8 =>
                          rw [e8] at er1
                          intro y ρ8 H8 st8 iy
                          have iy : Is X.K ρ8 H8 d y := iy
                          obtain ⟨eD8, hn8⟩ := hstep (G' := g7) st8 hn7 eD7
                          have hacc8 : IsL X.K ρ8 H8 acc5 vacc5 := IsL.step st7.rel st8 hacc7
                          dsimp only at er1
                          cases e9 : compM w1 tgm1 (fun _ => pur true) melt (wipeD s1 vs1) (List.drop (j + 1) w1.items) g8 with
                          | bad => rw [e9] at er1; cases er1
                          | ex _ _ _ => rw [e9] at er1; cases er1
                          | ok r9 g9 =>
                            rw [e9] at er1
                            cases er1
                            have hlim : acc5.length < LIM := by
                              rw [List.length_append, List.length_append, List.length_cons] at hlen5
                              omega
                            refine ⟨vacc5, eD8, by rw [← hacc8.len]; exact lim_lt hlim, ?_⟩
                            have st08 := (st6'.trans st7).trans st8
                            have st58 := (st6.trans st7).trans st8
                            obtain ⟨st9, x9⟩ := Step.hidden (ws := vacc5 ++ [y]) st1.rel st08 hD hn8 eD8
                            have x59 := (st58.ext.text st5.rel).trans x9
                            exact ⟨ρ8, g8, acc5 ++ [d], vacc5 ++ [y], st9, p45.trans st58.pre, x45.trans x59, S5.mono st58.pre x59, hn8, upd_same, (hacc8.app (.cons iy .nil)).mono (List.prefix_refl _) x9, hj, r9, _, e9, r5, G6, er5, by simpa using hlen5, by simpa using fin5⟩
                    · cases er1
                  · have e : j = w1.items.length := by omega
                    subst e
                    rw [List.drop_length] at er1
                    unfold compM at er1
                    split at er1
                    · rename_i hok1
                      cases er1
                      rw [List.append_nil] at fin5 hlen5
                      exact .inl ⟨wk1.stop ρ5 G5 H5 p45 x45 st5.rel hok1, ρ5, G5, acc5, vacc5, st5, hn5, eD5, hacc5, hi, r5, G6, er5, hlen5, fin5⟩
                    · cases er1
      · cases er
    · have e : i = w.items.length := by omega
      subst e
      rw [List.drop_length] at er
      unfold comp2M at er
      split at er
      · rename_i hok
        cases er
        rw [List.append_nil] at fin
        exact .inl ⟨wk.stop ρ' G' H' st hok, fin ρ' H' vacc st hn eD hacc⟩
      · cases er
theorem DG.up {tg : Expr} {g : TG} {m : D → Sl → M Sl} {own own2 : List Nat} (h : DG X Ts E tg g m own) (hs : ∀ i ∈ own, i ∈ own2) : DG X Ts E tg g m own2 := ⟨h.pe, fun ρ σ H s G d v Q R S i h1 => h.rf ρ σ H s G d v Q R S i (by
  cases e : m d s G with
  | bad => rw [e] at h1; exact h1
  | ex c d g => rw [e] at h1; exact h1
  | ok s' g' =>
    rw [e] at h1
    intro σ' ρ' H' st ok
    exact h1 σ' ρ' H' st ⟨ok.1, ok.2.1, fun n hn => ok.2.2 n fun z => hn (hs n z)⟩)⟩
def comp2D (mi : Sl → M Itm) (tgm : D → Sl → M Sl) (me1 : Sl → M D) (tgm1 : D → Sl → M Sl) (melt : Sl → M D) (vs vs1 : List Nat) (s : Sl) : M (List D) := bnd (mi s) fun w => bnd (comp2M w tgm me1 tgm1 melt vs1 (wipeD s vs) w.items) fun ds => if ds.length ≤ LIM then pur ds else fail
section
variable {elt tg iter tg1 iter1 : Expr} {scope : Scope} {own : List (Str × Nat)} {vs vs1 : List Nat} {wi : TI} {g gg : Shared → Hp → Addr → List (Str × Addr) → List Addr → TG} {te te1 : Shared → Hp → Addr → List (Str × Addr) → List Addr → TE} {mi : Sl → M Itm} {me1 : Sl → M D} {tgm tgm1 : D → Sl → M Sl} {melt : Sl → M D}
theorem de_lc2B (own : List (Str × Nat)) (hc : X.calm = true) (hN : X.N.Nodup) (ok : blkB X.N X.env.scope scope own = true) (hvs : own.map (·.2) = vs) (hv : ∀ i ∈ vs1, i ∈ own.map (·.2)) (hi : DI X Ts E tg iter wi mi)
    (hg : ∀ (s : Shared) (H : Hp) (C : Addr) (cl : List (Str × Addr)) (fp : List Addr), DG (X.blk s H scope (compEnvC scope cl C X.env) fp) Ts E0 tg (g s H C cl fp) tgm vs)
    (h1 : ∀ (s : Shared) (H : Hp) (C : Addr) (cl : List (Str × Addr)) (fp : List Addr), DE (X.blk s H scope (compEnvC scope cl C X.env) fp) Ts E0 iter1 (te1 s H C cl fp) me1)
    (hg1 : ∀ (s : Shared) (H : Hp) (C : Addr) (cl : List (Str × Addr)) (fp : List Addr), DG (X.blk s H scope (compEnvC scope cl C X.env) fp) Ts E0 tg1 (gg s H C cl fp) tgm1 vs1)
    (he : ∀ (s : Shared) (H : Hp) (C : Addr) (cl : List (Str × Addr)) (fp : List Addr), DE (X.blk s H scope (compEnvC scope cl C X.env) fp) Ts E0 elt (te s H C cl fp) melt) (hs : ∀ x, foldedSetIterable iter X.env x = pure x := by intro _; rfl) (hs1 : ∀ env x, foldedSetIterable iter1 env x = pure x := by intro _ _; rfl)
    (cg : ∀ s H C cl fp, g s H C cl fp = g0 g := by intros; rfl) (c1 : ∀ s H C cl fp, te1 s H C cl fp = g0 te1 := by intros; rfl) (cg1 : ∀ s H C cl fp, gg s H C cl fp = g0 gg := by intros; rfl) (ce : ∀ s H C cl fp, te s H C cl fp = g0 te := by intros; rfl) :
    DE X Ts E (.ListComp elt [⟨tg, iter, [], 0⟩, ⟨tg1, iter1, [], 0⟩] scope pos) (tLc2 wi (g0 g) tYes (iSeq X.K (g0 te1)) (g0 gg) tYes (g0 te) (own.map (·.2)) vs1) (fun s => bnd (comp2D mi tgm me1 tgm1 melt vs vs1 s) newL) := by
  subst hvs
  refine ⟨pe_lc2 hc hN hi.pe (blk_of ok) hv (fun s H C cl fp => cg s H C cl fp ▸ (hg s H C cl fp).pe) (fun _ _ _ _ _ => pts_nil) (fun s H C cl fp => pi_seq (c1 s H C cl fp ▸ (h1 s H C cl fp).pe)) (fun s H C cl fp => cg1 s H C cl fp ▸ (hg1 s H C cl fp).pe) (fun _ _ _ _ _ => pts_nil) (fun s H C cl fp => ce s H C cl fp ▸ (he s H C cl fp).pe) hs hs1, fun ρ σ H s G Q R S h => ?_⟩
  exact rf_comp2 hi (hg {} (fun _ => none) 0 [] []).rf (h1 {} (fun _ => none) 0 [] []).rf (hg1 {} (fun _ => none) 0 [] []).rf (he {} (fun _ => none) 0 [] []).rf R S (run_newL (C := ⟨X.K, Ts, fw X.w⟩) h)
end
end
end DL
namespace DL
open PySem PySem.Spec PyProof.Rows L2
open Classical
noncomputable section
variable {X : Cx} {Ts : List Addr} {E : XK} {a b c e : Expr} {ta tb tc te : TE} {ma mb mc me : Sl → M D} {pos : Pos} {C : Ct} {es : List Expr} {t u : TT} {mt mu : Sl → M Bool} {tr : TA} {mr : Sl → M (List D)} {sts : List Stmt} {tS : TS} {m1 : MS}
abbrev oeq (x y : Option (Option Value)) : Bool := decide (x = y)
end
end DL
namespace DL
open PySem PySem.Spec PyProof.Rows L2
open Classical
noncomputable section
variable {X : Cx} {Ts : List Addr} {E : XK} {a b c e : Expr} {ta tb tc te : TE} {ma mb mc me : Sl → M D} {pos : Pos} {C : Ct} {es : List Expr} {t u : TT} {mt mu : Sl → M Bool} {tr : TA} {mr : Sl → M (List D)} {sts : List Stmt} {tS : TS} {m1 : MS}
theorem de_clsN {x : Str} {C1 : Addr} (hg : Gl X x) (hm : X.mg x = some (.ref C1)) (hd : (x == ("__debug__" : Str)) = false := by decide) : DE X Ts E (.Name x pos) (tC (.ref C1)) (fun _ => pur (.cls C1)) :=
  de_c (pe_glob hg hm rfl hd) rfl fun _ _ => by simp only [Is]
section
variable {C0 fI : Addr} {i : Nat} {x n : Str} {b0 : Stmt} {suite : List Stmt} {np pos' : Pos} {ts : Addr → Addr → TS} {ms : Addr → Addr → MS}
abbrev o0 : Obj := { cls := .none, data := .fields #[] }
end
end
end DL
namespace DL
open PySem PySem.Spec PyProof.Rows L2
open Classical
noncomputable section
variable {X : Cx} {Ts : List Addr} {E : XK} {a b c e : Expr} {ta tb tc te : TE} {ma mb mc me : Sl → M D} {pos : Pos} {C : Ct} {es : List Expr} {t u : TT} {mt mu : Sl → M Bool} {tr : TA} {mr : Sl → M (List D)}
def dictD (ds : List D) : M D := fun g => match ds with
  | [.ref n] => match g[n]? with
    | some (.dic kvs) => .ok (.ref g.length) (g ++ [.dic kvs])
    | _ => .bad
  | _ => .bad
theorem calld_dict : CallD C (fun xs H Q => ∃ (z : Addr) (kvs : List (Key × V)), xs = [.ref z] ∧ Rd H z (.dK kvs) ∧ ∀ p, H p = none → Q (.ref p) (upd H p (.dK kvs))) dictD := by
  intro ρ G H ds vs Q E R i h
  unfold dictD at h
  split at h
  · rename_i n
    split at h
    · rename_i kvs e
      obtain ⟨v, rfl, i2⟩ := isl_one i
      obtain ⟨z, ws, rfl, _, hz, hk⟩ := R.dic e i2
      exact ⟨z, ws, rfl, .inl hz, fun p hp => h (.ref p) _ _ (Step.alloc R hp ⟨_, rfl, hk⟩) (Rel.new_at R)⟩
    · exact h.elim
  · exact h.elim
end
end DL
namespace DL
open PySem PySem.Spec PyProof.Rows L2
open Classical
noncomputable section
variable {X : Cx} {Ts : List Addr} {E : XK} {a b c e : Expr} {ta tb tc te : TE} {ma mb mc me : Sl → M D} {pos : Pos} {C : Ct} {es : List Expr} {t u : TT} {mt mu : Sl → M Bool} {tr : TA} {mr : Sl → M (List D)}
theorem IsL.rev {K : PySem.W.Frag} {ρ : List Addr} {H : Hp} : ∀ {ds : List D} {vs : List V}, IsL K ρ H ds vs → IsL K ρ H ds.reverse vs.reverse
  | [], vs, h => by simp only [IsL] at h; subst h; exact .nil
  | d :: ds, vs, h => by
    simp only [IsL] at h
    obtain ⟨v, r, rfl, h1, h2⟩ := h
    rw [List.reverse_cons, List.reverse_cons]
    exact h2.rev.app (.cons h1 .nil)
end
end DL
namespace DL
open PySem PySem.Spec PyProof.Rows L2
open Classical
noncomputable section
abbrev NK := DN.NK
variable {X : Cx} {Ts : List Addr} {E : XK} {a b c e o : Expr} {ta tb tc te to : TE} {ma mb mc me mo : Sl → M D} {pos apos cpos : Pos} {C : Ct} {es : List Expr} {t u : TT} {mt mu : Sl → M Bool} {tr : TA} {mr : Sl → M (List D)}
def putK (ks : List NK) (k : NK) : List NK := if k ∈ ks then ks else ks ++ [k]
end
end DL
namespace DL
open PySem PySem.Spec PyProof.Rows L2
open Classical
end DL
namespace DL
open PySem PySem.Spec PyProof.Rows L2
end DL
namespace DL
open PySem PySem.Spec PyProof.Rows L2
open Classical
noncomputable section
variable {X : Cx} {Ts : List Addr} {E : XK} {a b c e o : Expr} {ta tb tc te to : TE} {ma mb mc me mo : Sl → M D} {pos apos cpos : Pos} {C : Ct} {es : List Expr} {t u : TT} {mt mu : Sl → M Bool} {tr : TA} {mr : Sl → M (List D)}
theorem IsN.keys {K : PySem.W.Frag} {ρ : List Addr} {H : Hp} : ∀ {ds : List (NK × D)} {L : List DN.DEnt}, IsN K ρ H ds L → ds.map (·.1) = L.map (·.1)
  | _, _, .nil => rfl
  | _, _, .cons h t => by rw [List.map_cons, List.map_cons, h.1, IsN.keys t]
theorem IsN.mem {K : PySem.W.Frag} {ρ : List Addr} {H : Hp} : ∀ {ds : List (NK × D)} {L : List DN.DEnt}, IsN K ρ H ds L → ∀ e ∈ L, DN.MemT K H e.1 e.2.1
  | _, _, .nil, e, m => by cases m
  | _, _, .cons h t, e, m => by
    rcases List.mem_cons.mp m with rfl | m
    · exact h.2.1
    · exact IsN.mem t e m
theorem IsN.len {K : PySem.W.Frag} {ρ : List Addr} {H : Hp} {ds : List (NK × D)} {L : List DN.DEnt} (h : IsN K ρ H ds L) : ds.length = L.length := Paired.length h
theorem IsN.over {K : PySem.W.Frag} {ρ : List Addr} {H : Hp} {k : NK} {d : D} {v : V} (hd : Is K ρ H d v) : ∀ {ds : List (NK × D)} {L : List DN.DEnt}, IsN K ρ H ds L → IsN K ρ H (ds.map (fun q => if q.1 = k then (q.1, d) else q)) (L.map (fun p => if p.1 = k then (p.1, p.2.1, v) else p))
  | _, _, .nil => .nil
  | p :: ds, q :: L, .cons h t => by
    rw [List.map_cons, List.map_cons]
    refine .cons ?_ (IsN.over hd t)
    by_cases e : p.1 = k
    · rw [if_pos e, if_pos (by rw [← h.1]; exact e)]
      exact ⟨h.1, h.2.1, hd⟩
    · rw [if_neg e, if_neg (by rw [← h.1]; exact e)]
      exact h
end
end DL
namespace DL
open PySem PySem.Spec PyProof.Rows L2
open Classical
end DL
namespace DL
open PySem PySem.Spec PyProof.Rows L2
open Classical
noncomputable section
variable {X : Cx} {Ts : List Addr} {E : XK} {a b c e : Expr} {ta tb tc te : TE} {ma mb mc me : Sl → M D} {pos : Pos}
/-- a constant and its value -/
def cB : D → Value → Bool
  | .bl b, .bool c => decide (b = c)
  | .int i, .int j _ => decide (i = j)
  | .str x, .str y _ => decide (x = y)
  | .non, .none => true
  | _, _ => false
def cV : D → V
  | .bl b => .bl b
  | .int i => .int i
  | .str x => .str x
  | _ => .non
theorem cB_ok {d : D} {u : Value} (h : cB d u = true) : RelV (cV d) u ∧ ∀ K ρ H, Is K ρ H d (cV d) := by
  unfold cB at h
  split at h
  · obtain rfl := of_decide_eq_true h
    exact ⟨rfl, fun K ρ H => isBl⟩
  · obtain rfl := of_decide_eq_true h
    exact ⟨⟨_, rfl⟩, fun K ρ H => isInt⟩
  · obtain rfl := of_decide_eq_true h
    exact ⟨⟨_, rfl⟩, fun K ρ H => isStr⟩
  · exact ⟨rfl, fun K ρ H => isNon⟩
  · cases h
def kvB : List DictEntry → List (Str × D) → Bool
  | [], [] => true
  | ⟨_, .str y _, u⟩ :: r, (x, d) :: xs => (y == x) && (cB d u && kvB r xs)
  | _, _ => false
def dictKB (K : PySem.W.Frag) (z : Addr) (kvs : List (Str × D)) : Bool := match K.lookup z with
  | some ⟨_, _, .dict es _, _⟩ => kvB es.toList kvs
  | _ => false
def kvGet (kvs : List (Str × D)) (z : Str) : Option D := (kvs.find? fun q => q.1 == z).map (·.2)
theorem kvB_ok : ∀ {es : List DictEntry} {kvs : List (Str × D)} (_ : kvB es kvs = true) (z : Str), es.any (·.refKey) = false ∧ ((kvGet kvs z = none ∧ es.find? (·.key.isStr z) = none) ∨ ∃ d e, kvGet kvs z = some d ∧ es.find? (·.key.isStr z) = some e ∧ cB d e.val = true)
  | [], [], _, z => ⟨rfl, .inl ⟨rfl, rfl⟩⟩
  | ⟨h, .str y t, u⟩ :: r, (x, d) :: xs, g, z => by
    rw [kvB, Bool.and_eq_true, Bool.and_eq_true] at g
    obtain ⟨g1, g2, g3⟩ := g
    obtain rfl := eq_of_beq g1
    obtain ⟨i1, i2⟩ := kvB_ok g3 z
    refine ⟨by rw [List.any_cons, i1]; rfl, ?_⟩
    cases q : (y == z) with
    | true => exact .inr ⟨d, ⟨h, .str y t, u⟩, by simp [kvGet, q], by simp [Value.isStr, q], g2⟩
    | false =>
      rcases i2 with ⟨j1, j2⟩ | ⟨d', e', j1, j2, j3⟩
      · exact .inl ⟨by simpa [q, kvGet] using j1, by simpa [Value.isStr, q] using j2⟩
      · exact .inr ⟨d', e', by simpa [q, kvGet] using j1, by simpa [Value.isStr, q] using j2, j3⟩
  | [], _ :: _, g, _ => by simp [kvB] at g
  | ⟨_, .str _ _, _⟩ :: _, [], g, _ => by simp [kvB] at g
  | ⟨_, .none, _⟩ :: _, _, g, _ => by simp [kvB] at g
  | ⟨_, .bool _, _⟩ :: _, _, g, _ => by simp [kvB] at g
  | ⟨_, .int _ _, _⟩ :: _, _, g, _ => by simp [kvB] at g
  | ⟨_, .bytes _ _, _⟩ :: _, _, g, _ => by simp [kvB] at g
  | ⟨_, .float _ _, _⟩ :: _, _, g, _ => by simp [kvB] at g
  | ⟨_, .ref _, _⟩ :: _, _, g, _ => by simp [kvB] at g
  | ⟨_, .type _, _⟩ :: _, _, g, _ => by simp [kvB] at g
  | ⟨_, .builtin _, _⟩ :: _, _, g, _ => by simp [kvB] at g
  | ⟨_, .ellipsis, _⟩ :: _, _, g, _ => by simp [kvB] at g
  | ⟨_, .notImplemented, _⟩ :: _, _, g, _ => by simp [kvB] at g
theorem dictKB_ok {K : PySem.W.Frag} {d : Addr} {kvs : List (Str × D)} (h : dictKB K d kvs = true) (z : Str) : (kvGet kvs z = none ∧ PySem.W.nsIn K d z = some none) ∨ ∃ x u, kvGet kvs z = some x ∧ PySem.W.nsIn K d z = some (some u) ∧ cB x u = true := by
  unfold dictKB at h
  split at h
  · rename_i es n sl e
    obtain ⟨i1, i2⟩ := kvB_ok h z
    unfold PySem.W.nsIn
    rw [e]
    dsimp only
    rcases i2 with ⟨j1, j2⟩ | ⟨x, en, j1, j2, j3⟩
    · rw [j2]
      dsimp only
      rw [i1]
      exact .inl ⟨j1, rfl⟩
    · rw [j2]
      exact .inr ⟨x, _, j1, rfl, j3⟩
  · cases h
/-- x in D, x not in D -/
def inKD (kvs : List (Str × D)) (neg : Bool) (x : D) : M D := match x with
  | .str z => pur (.bl (if neg then !(kvGet kvs z).isSome else (kvGet kvs z).isSome))
  | _ => fail
/-- D[x] -/
def itemKD (kvs : List (Str × D)) (x : D) : M D := match x with
  | .str z => match kvGet kvs z with
    | some d => pur d
    | none => fail
  | _ => fail
section
variable {x : Str} {d : Addr} {es : Array DictEntry} {n : Nat} {kvs : List (Str × D)} {p : Pos}
theorem de_itemK (D : KDict X.K X.w d es n) (hb : dictKB X.K d kvs = true) (ha : DE X Ts E a ta ma) (hs : PlainIx a) (hg : Gl X x) (hm : X.mg x = some (.ref d)) (hd : (x == ("__debug__" : Str)) = false := by decide) :
    DE X Ts E (.Subscript (.Name x p) a pos) (tOp (rIxD X.K X.w) (tC (.ref d)) ta) (fun s => bnd (ma s) (itemKD kvs)) := by
  refine ⟨pe_ix ix_kdict (pe_glob hg hm rfl hd) ha.pe hs, fun ρ σ H s G Q R S h => ?_⟩
  refine ha.rf ρ σ H s G _ R S (Run.map R h fun y G1 v ρ1 H1 R1 i h1 => ?_)
  unfold itemKD at h1
  cases y with
  | str z =>
    dsimp only at h1
    have i : Is X.K ρ1 H1 (.str z) v := i
    rw [is_str i]
    rcases dictKB_ok hb z with ⟨j1, j2⟩ | ⟨w, u, j1, j2, j3⟩
    · rw [j1] at h1
      exact h1.elim
    · rw [j1] at h1
      obtain ⟨c1, c2⟩ := cB_ok j3
      exact ⟨d, z, cV w, rfl, rfl, ⟨es, n, u, D.at_, D.lit, j2, c1⟩, Run.ret (Ok := okD ⟨X.K, Ts, fw X.w⟩) R1 h1 (c2 _ _ _)⟩
  | _ => exact h1.elim
end
end
end DL
namespace DL
open PySem PySem.Spec PyProof.Rows L2
open Classical
end DL
namespace DN
open PySem PySem.Spec PyProof.Rows L2
section
variable {X : Cx} {pins : List (Addr × Obj)} {σ : L2.St} {H : Hp} {s : Shared} {d : Addr} {ob : Obj} {kf : NK → Int} {L : List DEnt}
/-- the object of a locked dict -/
structure Lk (h : Heap) (d : Addr) (ob : Obj) (kf : NK → Int) (L : List DEnt) (es : Array DictEntry) (ep : Nat) (xs : List (NK × Addr × Value)) : Prop where
  lo : (d == sysModules) = false
  at_ : h.get? d = some ob
  ex : ob.ExactDict
  dat : ob.data = .dict es ep
  rows : es.toList = xs.map (rowD kf)
  nd : (xs.map (·.1)).Nodup
  rel : DRel L xs
variable {h : Heap} {es : Array DictEntry} {ep : Nat} {xs : List (NK × Addr × Value)}
theorem Lk.size (K : Lk h d ob kf L es ep xs) : es.size = L.length := by
  rw [← Array.length_toList, K.rows, List.length_map, ← Paired.length K.rel]
variable {P : Program} {w : World} {K : PySem.W.Frag} {tg : Expr}
end
end DN
namespace DL
open PySem PySem.Spec PyProof.Rows L2
open Classical
noncomputable section
variable {X : Cx} {Ts : List Addr} {E : XK} {a b c e o i : Expr} {ta tb tc te to ti : TE} {ma mb mc me mo mi : Sl → M D} {pos apos cpos : Pos} {C : Ct} {es : List Expr} {t u : TT} {mt mu : Sl → M Bool} {tr : TA} {mr : Sl → M (List D)}
def mapAt (ds : List (NK × D)) (k : NK) : Option D := (ds.find? fun p => decide (p.1 = k)).map (·.2)
theorem IsN.at {K : PySem.W.Frag} {ρ : List Addr} {H : Hp} {k : NK} {d : D} : ∀ {ds : List (NK × D)} {L : List DN.DEnt}, IsN K ρ H ds L → mapAt ds k = some d → ∃ v, DN.atE L k = some v ∧ Is K ρ H d v
  | _, _, .nil, h => by cases h
  | p :: ds, q :: L, .cons h t, g => by
    by_cases e : p.1 = k
    · have g : p.2 = d := by simpa [mapAt, e] using g
      refine ⟨q.2.2, ?_, by rw [← g]; exact h.2.2⟩
      have e2 : q.1 = k := by rw [← h.1]; exact e
      simp [DN.atE, e2]
    · have e2 : ¬ q.1 = k := by rw [← h.1]; exact e
      obtain ⟨v, v1, v2⟩ := IsN.at t (k := k) (d := d) (by simpa [mapAt, e] using g)
      exact ⟨v, by simpa [DN.atE, e2] using v1, v2⟩
end
end DL
namespace DL
open PySem PySem.Spec PyProof.Rows L2
open Classical
noncomputable section
variable {X : Cx} {Ts : List Addr} {E : XK} {a b c e o : Expr} {ta tb tc te to : TE} {ma mb mc me mo : Sl → M D} {pos apos cpos : Pos} {C : Ct} {es : List Expr} {t u : TT} {mt mu : Sl → M Bool} {tr : TA} {mr : Sl → M (List D)}
/-- where own classes stand, and the hash of keys -/
structure Ks where
  a : Str → Addr
  h : NK → Int
abbrev ks (K : PySem.W.Frag) (w : World) : Ks := ⟨fun x => He.ga K x, DN.hw w⟩
theorem no_zip {m : Str} : ∀ {ns : List Str} {vs : List V}, m ∉ ns → (ns.zip vs).lookup m = none
  | [], vs, _ => rfl
  | n :: ns, [], _ => rfl
  | n :: ns, v :: vs, h => by
    rw [List.mem_cons, not_or] at h
    rw [List.zip_cons_cons, List.lookup_cons]
    have e : (m == n) = false := beq_eq_false_iff_ne.mpr h.1
    rw [e]
    exact no_zip h.2
theorem no_fld {m : Str} (hm : m ∉ FLD) : ∀ {fs : List (Str × V)}, (∀ p ∈ fs, p.1 ∈ FLD) → fs.lookup m = none
  | [], _ => rfl
  | p :: fs, h => by
    have e : (m == p.1) = false := beq_eq_false_iff_ne.mpr fun z => hm (by rw [z]; exact h p List.mem_cons_self)
    rw [List.lookup_cons, e]
    exact no_fld hm fun q hq => h q (List.mem_cons_of_mem _ hq)
structure OwnM (P : Program) (w : World) (K : PySem.W.Frag) (mg : Str → Option Value) (base : Heap) (Ts : List Addr) (k : Nat) (C0 : Addr) (m : Str) (F : List D → M D) : Prop where
  ex : ∃ (f : Addr) (fd : FuncData) (ps : List Str), FnOk P w K mg base (L2.CX P w) k f fd ps (spD ⟨K, Ts, fw w⟩ F) ∧ Meth K C0 m f ∧ Binds K fd ps []
/-- the two forms that the receiver takes -/
def methF (F : List D → M D) (x : D) (ds : List D) : M D := F (x :: ds)
end
end DL
namespace DL
open PySem PySem.Spec PyProof.Rows L2
open Classical
end DL
namespace DL
open PySem PySem.Spec PyProof.Rows L2
open Classical
end DL
namespace DL
open PySem PySem.Spec PyProof.Rows L2
open Classical
end DL
namespace DL
open PySem PySem.Spec PyProof.Rows L2
end DL
namespace DL
open PySem PySem.Spec PyProof.Rows L2
open Classical
end DL
namespace DL
open PySem PySem.Spec PyProof.Rows L2
open Classical
end DL
namespace DL
open PySem PySem.Spec PyProof.Rows L2
open Classical
end DL
namespace DL
open PySem PySem.Spec PyProof.Rows L2
open Classical
end DL
namespace DL
open PySem PySem.Spec PyProof.Rows L2
open Classical
end DL
namespace DL
open PySem PySem.Spec PyProof.Rows L2
open Classical
end DL
namespace DL
open PySem PySem.Spec PyProof.Rows L2
open Classical
end DL
namespace DL
open PySem PySem.Spec PyProof.Rows L2
open Classical
end DL
namespace DL
open PySem PySem.Spec PyProof.Rows L2
open Classical
noncomputable section
variable {X : Cx} {Ts : List Addr} {E : XK} {o a b c e : Expr} {ta tb tc te to : TE} {ma mb mc me mo : Sl → M D} {pos apos : Pos} {C : Ct} {es : List Expr} {tr : TA} {mr : Sl → M (List D)}
theorem Rel.obj {ρ : List Addr} {G : GS} {H : Hp} (R : Rel C ρ G H) {n : Nat} {v : V} {C0 : Addr} {ns : List Str} {ds : List D} (e : G[n]? = some (.obj C0 ns ds)) (i : Is C.K ρ H (.ref n) v) :
    ∃ p dx vs fs, v = .ref p ∧ ρ[n]? = some p ∧ H p = some (.ins C0 dx (ns.zip vs ++ fs)) ∧ (ns.length = vs.length ∧ ns.head? = some ("tail" : Str) ∧ (∀ q ∈ fs, q.1 ∈ FLD) ∧ ns.length + fs.length < 1000) ∧ IsL C.K ρ H ds vs := by
  simp only [Is] at i
  obtain ⟨p, rfl, hp⟩ := i
  obtain ⟨o, e1, q⟩ := R.cell n _ p e hp
  obtain ⟨dx, vs, fs, rfl, h1, h2⟩ := q
  exact ⟨p, dx, vs, fs, rfl, hp, e1, h1, h2⟩
def fldO (C0 : Addr) (f : Str) (x : D) : M D := fun g => match x with
  | .ref n => match g[n]? with
    | some (.obj C ns ds) => if C = C0 then match (ns.zip ds).lookup f with
        | some d => .ok d g
        | none => .bad
      else .bad
    | _ => .bad
  | _ => .bad
theorem de_fldO {C0 : Addr} {f : Str} (c : Cls X.K C0) (n : NoAttr X.K C0 f) (ha : DE X Ts E a ta ma) (hb : attributeBase a f X.env (eval a X.env) = eval a X.env := by rfl) : DE X Ts E (.Attribute a f pos) (tFld X.K ta f) (fun s => bnd (ma s) (fldO C0 f)) := by
  refine ⟨pe_fld ha.pe hb, fun ρ σ H s G Q R S h => ?_⟩
  refine ha.rf ρ σ H s G _ R S (Run.map R h fun d G1 v ρ1 H1 R1 i h1 => ?_)
  unfold fldO at h1
  split at h1
  · rename_i m
    split at h1
    · rename_i C1 ns ds e1
      by_cases hC : C1 = C0
      · subst hC
        rw [if_pos rfl] at h1
        obtain ⟨p, dx, ws, fs, rfl, _, hp, hl, hi⟩ := R1.obj e1 i
        cases e : (ns.zip ds).lookup f with
        | some d =>
          rw [e] at h1
          obtain ⟨w, e1, e2⟩ := lookup_zip hi e
          have e1 : (ns.zip ws ++ fs).lookup f = some w := by rw [List.lookup_append, e1]; rfl
          exact ⟨p, C1, dx, _, w, rfl, hp, c, n, e1, Run.ret (Ok := okD ⟨X.K, Ts, fw X.w⟩) R1 h1 e2⟩
        | none =>
          rw [e] at h1
          exact h1.elim
      · rw [if_neg hC] at h1
        exact h1.elim
    · exact h1.elim
  · exact h1.elim
def insO (C0 : Addr) (m : Str) (x : D) : M D := fun g => match x with
  | .ref n => match g[n]? with
    | some (.obj C ns _) => if C = C0 ∧ m ∉ ns then .ok x g else .bad
    | _ => .bad
  | _ => .bad
theorem rf_methO {C0 : Addr} {m : Str} {F : List D → M D} (hm : m ∉ FLD) (ho : DE X Ts E o to mo) (ha : DA X Ts E es tr mr) (ρ : List Addr) (σ : L2.St) (H : Hp) (s : Sl) (G : GS) (Q : VK) (R : Rel ⟨X.K, Ts, fw X.w⟩ ρ G H) (S : Sls X.K ρ H σ s)
    (h : Run ⟨X.K, Ts, fw X.w⟩ ρ H (okD ⟨X.K, Ts, fw X.w⟩) (bnd (mo s) (fun x => bnd (insO C0 m x) fun x => bnd (mr s) (methF F x)) G) Q E) : tMeth C0 m (spD ⟨X.K, Ts, fw X.w⟩ F) [] E to tr σ H Q := by
  refine ho.rf ρ σ H s G _ R S (Run.first h fun x G1 v ρ1 H1 st i h1 => ?_)
  have i : Is X.K ρ1 H1 x v := i
  unfold bnd insO at h1
  cases x with
  | ref n =>
    dsimp only at h1
    cases e1 : G1[n]? with
    | none => rw [e1] at h1; exact h1.elim
    | some cl =>
      cases cl with
      | obj C1 ns ds =>
        rw [e1] at h1
        dsimp only at h1
        by_cases hc : C1 = C0 ∧ m ∉ ns
        · rw [if_pos hc] at h1
          obtain ⟨rfl, hn⟩ := hc
          obtain ⟨p, dx, vs, fs, rfl, _, hp, hl, hi⟩ := st.rel.obj e1 i
          refine ⟨p, dx, _, rfl, hp, ?_, ?_⟩
          · rw [List.lookup_append, no_zip hn, no_fld hm hl.2.2.1]
            rfl
          refine ha.rf ρ1 σ H1 s G1 _ st.rel (S.step R st) (Run.first (k := methF F (.ref n)) h1 fun ds2 G2 vs2 ρ2 H2 st2 i2 h2 => ?_)
          exact ⟨ρ2, G2, _, st2.rel, by rw [List.append_nil]; exact .cons (Is.step st.rel st2 i) i2, h2⟩
        · rw [if_neg hc] at h1
          exact h1.elim
      | lst _ => rw [e1] at h1; exact h1.elim
      | dic _ => rw [e1] at h1; exact h1.elim
      | set _ => rw [e1] at h1; exact h1.elim
      | map _ => rw [e1] at h1; exact h1.elim
  | _ => exact h1.elim
theorem de_methO {k : Nat} {C0 : Addr} {m : Str} {F : List D → M D} {pl : Sem Bool} (c : Cls X.K C0) (h : OwnM X.prog X.w X.K X.mg X.base Ts k C0 m F) (hr : Room k X.A) (hx : PsE X E) (ho : DE X Ts E o to mo) (ha : DA X Ts E (e :: es) tr mr) (hm : m ∉ FLD := by decide)
    (hst : starEach (e :: es) X.env = (false, eval e X.env) :: starEach es X.env := by rfl) (hpl : (backTo pos (starEach es X.env)).any (·.1) = false := by rfl)
    (ht : eval (.Call (.Attribute o m apos) (e :: es) [] pos) X.env = (do
      let ov ← eval o X.env
      standAt apos.atName
      let (f, first) ← holding [ov] (getMethod ov m pl)
      callWith pos f first (backTo pos (starEach (e :: es) X.env)) (backToKw pos (keywordEach [] X.env))) := by rfl) :
    DE X Ts E (.Call (.Attribute o m apos) (e :: es) [] pos) (tMeth C0 m (spD ⟨X.K, Ts, fw X.w⟩ F) [] E to tr) (fun s => bnd (mo s) fun x => bnd (insO C0 m x) fun x => bnd (mr s) (methF F x)) := by
  obtain ⟨f, fd, ps, hF, hM, hb⟩ := h.ex
  exact ⟨pe_meth ho.pe c hM hF hr hb .nil hx ha.pe hst hpl ht, rf_methO hm ho ha⟩
theorem de_meth0O {k : Nat} {C0 : Addr} {m : Str} {F : List D → M D} {pl : Sem Bool} (c : Cls X.K C0) (h : OwnM X.prog X.w X.K X.mg X.base Ts k C0 m F) (hr : Room k X.A) (hx : PsE X E) (ho : DE X Ts E o to mo) (hm : m ∉ FLD := by decide)
    (ht : eval (.Call (.Attribute o m apos) [] [] pos) X.env = (do
      let ov ← eval o X.env
      standAt apos.atName
      let (f, first) ← holding [ov] (getMethod ov m pl)
      callWith pos f first (backTo pos (starEach [] X.env)) (backToKw pos (keywordEach [] X.env))) := by rfl) :
    DE X Ts E (.Call (.Attribute o m apos) [] [] pos) (tMeth C0 m (spD ⟨X.K, Ts, fw X.w⟩ F) [] E to tNil) (fun s => bnd (mo s) fun x => bnd (insO C0 m x) fun x => bnd (pur []) (methF F x)) := by
  obtain ⟨f, fd, ps, hF, hM, hb⟩ := h.ex
  exact ⟨pe_meth0 ho.pe c hM hF hr hb .nil hx ht, rf_methO hm ho da_nil⟩
end
end DL
namespace DL
open PySem PySem.Spec PyProof.Rows L2
open Classical
noncomputable section
variable {X : Cx} {Ts : List Addr} {E : XK} {o a b c e value : Expr} {ta tb tc te to tv : TE} {ma mb mc me mo mv : Sl → M D} {pos apos tpos : Pos} {C : Ct}
/-- the value of the field f written -/
def setAt {α : Type} (f : Str) (d : α) : List Str → List α → List α
  | n :: ns, x :: xs => if n = f then d :: xs else x :: setAt f d ns xs
  | _, xs => xs
theorem setAt_len {α : Type} (f : Str) (d : α) : ∀ (ns : List Str) (xs : List α), (setAt f d ns xs).length = xs.length
  | [], xs => by cases xs <;> rfl
  | n :: ns, [] => rfl
  | n :: ns, x :: xs => by
    unfold setAt
    split
    · rfl
    · rw [List.length_cons, List.length_cons, setAt_len f d ns xs]
theorem setAt_is {K : PySem.W.Frag} {ρ : List Addr} {H : Hp} {f : Str} {d : D} {v : V} (i : Is K ρ H d v) : ∀ (ns : List Str) {ds : List D} {vs : List V}, IsL K ρ H ds vs → IsL K ρ H (setAt f d ns ds) (setAt f v ns vs)
  | [], ds, vs, h => by cases ds <;> cases vs <;> exact h
  | n :: ns, [], vs, h => by
    simp only [IsL] at h
    subst h
    exact .nil
  | n :: ns, x :: ds, vs, h => by
    simp only [IsL] at h
    obtain ⟨w, r, rfl, h1, h2⟩ := h
    unfold setAt
    split
    · exact .cons i h2
    · exact .cons h1 (setAt_is i ns h2)
theorem putF_zip {f : Str} {z : V} : ∀ {ns : List Str} {vs : List V} {fs : List (Str × V)}, f ∈ ns → ns.length = vs.length → putF f z (ns.zip vs ++ fs) = ns.zip (setAt f z ns vs) ++ fs
  | [], vs, fs, h, _ => by cases h
  | n :: ns, [], fs, h, l => by cases l
  | n :: ns, v :: vs, fs, h, l => by
    show (if n = f then (n, z) :: (ns.zip vs ++ fs) else (n, v) :: putF f z (ns.zip vs ++ fs)) = _
    unfold setAt
    by_cases e : n = f
    · rw [if_pos e, if_pos e]
      rfl
    · rw [if_neg e, if_neg e, putF_zip ((List.mem_cons.mp h).resolve_left fun q => e q.symm) (by simpa using l)]
      rfl
theorem lookup_mem {α : Type} {f : Str} {d : α} : ∀ {ns : List Str} {ds : List α}, (ns.zip ds).lookup f = some d → f ∈ ns
  | [], ds, h => by simp at h
  | n :: ns, [], h => by simp at h
  | n :: ns, x :: ds, h => by
    rw [List.zip_cons_cons, List.lookup_cons] at h
    cases q : f == n with
    | true => exact List.mem_cons.mpr (.inl (beq_iff_eq.mp q))
    | false =>
      rw [q] at h
      exact List.mem_cons_of_mem _ (lookup_mem h)
def wrO (C0 : Addr) (f : Str) (x d : D) : M Unit := fun g => match x with
  | .ref n => match g[n]? with
    | some (.obj C ns ds) => if C = C0 ∧ f ∈ ns then .ok () (g.set n (.obj C ns (setAt f d ns ds))) else .bad
    | _ => .bad
  | _ => .bad
def augO (C0 : Addr) (f : Str) (mo mv : Sl → M D) : MS := fun s => bndS (mo s) fun x => bndS (fldO C0 f x) fun y => bndS (mv s) fun z => match y, z with
  | .int i, .int j => bndS (wrO C0 f x (.int (i + j))) fun _ => RS.nx s
  | _, _ => fun _ => .bad
theorem ds_fldaug {C0 : Addr} {f : Str} (c : Cls X.K C0) (n : NoAttr X.K C0 f) (ho : DE X Ts E o to mo) (hv : DE X Ts E value tv mv) : DS X Ts E (.AugAssign (.Attribute o f tpos) .Add value pos) (sFldAug X.K to tv rAdd f) (augO C0 f mo mv) := by
  refine ⟨ps_fldaug ho.pe hv.pe in_add, fun ρ σ H s G Dn R S h => ?_⟩
  unfold augO at h
  refine ho.rf ρ σ H s G _ R S (RunS.first h fun x G1 v ρ1 H1 st i h1 => ?_)
  have i : Is X.K ρ1 H1 x v := i
  unfold bndS fldO at h1
  cases x with
  | ref m =>
    dsimp only at h1
    cases e1 : G1[m]? with
    | none => rw [e1] at h1; exact h1.elim
    | some cl =>
      cases cl with
      | lst _ => rw [e1] at h1; exact h1.elim
      | dic _ => rw [e1] at h1; exact h1.elim
      | set _ => rw [e1] at h1; exact h1.elim
      | map _ => rw [e1] at h1; exact h1.elim
      | obj C1 ns ds =>
        rw [e1] at h1
        dsimp only at h1
        by_cases hC : C1 = C0
        · subst hC
          rw [if_pos rfl] at h1
          obtain ⟨p, dx, ws, fs, rfl, _, hp, hl, hi⟩ := st.rel.obj e1 i
          cases e : (ns.zip ds).lookup f with
          | none => rw [e] at h1; exact h1.elim
          | some y =>
            rw [e] at h1
            dsimp only at h1
            obtain ⟨w, w1, w2⟩ := lookup_zip hi e
            refine ⟨p, C1, dx, _, w, rfl, hp, c, n, by rw [List.lookup_append, w1]; rfl, ?_⟩
            refine hv.rf ρ1 σ H1 s G1 _ st.rel (S.step R st) (RunS.first h1 fun z G2 u ρ2 H2 st2 iz h3 => ?_)
            split at h3
            · rename_i i1 j1
              refine ⟨i1, j1, is_int w2, is_int iz, ?_⟩
              unfold wrO at h3
              dsimp only at h3
              cases e3 : G2[m]? with
              | none => rw [e3] at h3; exact h3.elim
              | some cl2 =>
                rw [e3] at h3
                cases cl2 with
                | lst _ => exact h3.elim
                | dic _ => exact h3.elim
                | set _ => exact h3.elim
                | map _ => exact h3.elim
                | obj C2 ns2 ds2 =>
                  dsimp only at h3
                  by_cases hc : C2 = C1 ∧ f ∈ ns2
                  · rw [if_pos hc] at h3
                    obtain ⟨rfl, hf⟩ := hc
                    obtain ⟨p2, dx2, ws2, fs2, e4, hr2, hp2, hl2, hi2⟩ := st2.rel.obj e3 (Is.step st.rel st2 i)
                    cases e4
                    have lw := hl2.1
                    have lf := hl2.2.2.2
                    refine ⟨dx2, _, hp2, by rw [List.length_append, List.length_zip]; omega, ?_⟩
                    rw [putF_zip hf lw]
                    have st3 := Step.write (o := .ins C2 dx2 (ns2.zip (setAt f (.int (i1 + j1)) ns2 ws2) ++ fs2)) (c := .obj C2 ns2 (setAt f (.int (i1 + j1)) ns2 ds2)) st2.rel hr2 hp2 ⟨dx2, _, fs2, rfl, ⟨by rw [setAt_len]; exact lw, hl2.2⟩, setAt_is isInt ns2 hi2⟩
                    exact RunS.nx st3.rel (((S.step R st).step st.rel st2).step st2.rel st3) (RunS.step st3 h3)
                  · rw [if_neg hc] at h3
                    exact h3.elim
            · exact h3.elim
        · rw [if_neg hC] at h1
          exact h1.elim
  | _ => exact h1.elim
end
end DL
namespace DL
open PySem PySem.Spec PyProof.Rows L2
open Classical
noncomputable section
theorem Step.growO {C : Ct} {ρ ρ1 : List Addr} {G1 : GS} {H H1 : Hp} {x dx C0 : Addr} {f0 fs : List (Str × V)} (st : Step C ρ H ρ1 G1 H1) (h0 : H x = none) (hn : x ∉ ρ1) (hx : H1 x = some (.ins C0 dx f0)) (hF : f0 = [] ∨ ∀ p ∈ fs, p.1 ∈ FLD) : Step C ρ H ρ1 G1 (upd H1 x (.ins C0 dx (f0 ++ fs))) := by
  refine ⟨st.pre, ⟨fun a o e n nt => ?_, fun a ps e => ?_⟩, ⟨st.rel.len, st.rel.nd, fun i c a h1 h2 => ?_, fun P hP => ?_⟩, st.fresh⟩
  · rw [upd_ne (ne_of_none e h0)]
    exact st.ext.keep a o e n nt
  · rw [upd_ne (ne_of_none e h0)]
    exact st.ext.tbl a ps e
  · obtain ⟨o, e, q⟩ := st.rel.cell i c a h1 h2
    refine ⟨o, ?_, q.grow hx hF⟩
    rw [upd_ne fun z => hn (by rw [← z]; exact List.mem_of_getElem? h2)]
    exact e
  · obtain ⟨ps, e, t⟩ := st.rel.tab P hP
    refine ⟨ps, ?_, t⟩
    rw [upd_ne]
    · exact e
    · intro z
      rw [z, hx] at e
      cases e
section
variable {X : Cx} {Ts : List Addr} {E : XK} {o a b c e : Expr} {ta tb tc te to : TE} {ma mb mc me mo : Sl → M D} {pos apos : Pos} {C : Ct} {es : List Expr} {tr : TA} {mr : Sl → M (List D)}
def RunO (C : Ct) (ρ0 : List Addr) (H0 : Hp) (ρ : List Addr) (H : Hp) (C0 p dx : Addr) (f0 : List (Str × V)) (ns : List Str) (r : R (List D)) (W : Hp → Prop) : Prop := match r with
  | .ok ds G' => ∀ ws ρ' H', Step C ρ0 H0 ρ' G' H' → p ∉ ρ' → (∀ d v, Is C.K ρ H d v → Is C.K ρ' H' d v) → IsL C.K ρ' H' ds ws → H' p = some (.ins C0 dx (f0 ++ ns.zip ws)) → W H'
  | _ => False
/-- a constructor's body: p the instance (slot 0), f0 its fields so far -/
structure DO2 (X : Cx) (Ts : List Addr) (C0 : Addr) (body : List Stmt) (t : TS) (ns : List Str) (mF : Sl → M (List D)) : Prop where
  pe : PSs X body t
  rf : ∀ ρ0 H0 ρ σ H s G p dx f0 Dn (W : Hp → Prop), (∀ σ H, W H → Dn.nx σ H) → Step ⟨X.K, Ts, fw X.w⟩ ρ0 H0 ρ G H → H0 p = none → p ∉ ρ → Sls X.K ρ H σ s → s[0]? = some (some (.cls p)) → H p = some (.ins C0 dx f0) → (f0.map (·.1) ++ ns).Nodup → f0.length + ns.length < 1000 → RunO ⟨X.K, Ts, fw X.w⟩ ρ0 H0 ρ H C0 p dx f0 ns (mF s G) W → t Dn σ H
theorem do_nil {C0 : Addr} : DO2 X Ts C0 [] tNext [] (fun _ => pur []) := ⟨pss_nil, fun ρ0 H0 ρ σ H s G p dx f0 Dn W hW st h0 hn S hs hp _ _ h => by
  exact hW _ _ <| h [] ρ H st hn (fun _ _ z => z) .nil (by rw [List.zip_nil_left, List.append_nil]; exact hp)⟩
theorem slot0 {K : PySem.W.Frag} {ρ : List Addr} {H : Hp} {σ : L2.St} {s : Sl} {p : Addr} (S : Sls K ρ H σ s) (hs : s[0]? = some (some (.cls p))) : σ[0]? = some (some (.ref p)) := by
  obtain ⟨w, w1, w2⟩ := S.at_ 0 _ hs
  simp only [Is] at w2
  rw [w1, w2]
theorem do_cons {C0 : Addr} {sts : List Stmt} {tr : TS} {f : Str} {x : Str} {px pa : Pos} {ns : List Str} {mF : Sl → M (List D)} (c : Cls X.K C0) (n : NoAttr X.K C0 f) (hf : f ∈ FLD) (hx : PE X (.Name x px) (tVar 0)) (he : DE X Ts E0 e te me) (hr : DO2 X Ts C0 sts tr ns mF)
    (sw : swapsWith e (some (.Attribute (.Name x px) f pa)) pos.line X.env = pure false := by rfl) : DO2 X Ts C0 (.Assign [.Attribute (.Name x px) f pa] e pos :: sts) (tSeq (sFld X.K (tVar 0) te f) tr) (f :: ns) (fun s => bnd (me s) fun x => bnd (mF s) fun xs => pur (x :: xs)) := by
  refine ⟨pss_cons (ps_fld hx he.pe sw) hr.pe, fun ρ0 H0 ρ σ H s G p dx f0 Dn W hW st0 h0 hn S hs hp nd few h => ?_⟩
  refine he.rf ρ σ H s G _ st0.rel S ?_
  unfold bnd at h
  cases e1 : me s G with
  | bad => rw [e1] at h; exact h.elim
  | ex c d g => rw [e1] at h; exact h.elim
  | ok d G1 =>
    rw [e1] at h
    dsimp only at h
    intro v ρ1 H1 st1 iv
    have iv : Is X.K ρ1 H1 d v := iv
    have hp1 : H1 p = some (.ins C0 dx f0) := st1.ext.keep p _ hp hn fun _ z => nomatch z
    have hn1 : p ∉ ρ1 := fun z => by
      have := st1.fresh p z hn
      rw [hp] at this
      cases this
    refine ⟨.ref p, slot0 S hs, p, C0, dx, f0, rfl, hp1, c, n, by omega, ?_⟩
    have fresh : f ∉ f0.map (·.1) := fun z => (List.nodup_append.mp nd).2.2 f z f List.mem_cons_self rfl
    rw [putF_new fresh]
    have st01 := st0.trans st1
    have hF : f0 = [] ∨ ∀ q ∈ [(f, v)], q.1 ∈ FLD := .inr fun q hq => by rw [List.mem_singleton.mp hq]; exact hf
    have st2 := Step.growO (fs := [(f, v)]) st01 h0 hn1 hp1 hF
    have S1 := S.step st0.rel st1
    have S2 : Sls X.K ρ1 (upd H1 p (.ins C0 dx (f0 ++ [(f, v)]))) σ s := ⟨S1.len, fun i d e => by
      obtain ⟨w, w1, w2⟩ := S1.at_ i d e
      exact ⟨w, w1, Is.grow hp1 hF _ _ w2⟩⟩
    refine hr.rf ρ0 H0 ρ1 σ _ s G1 p dx (f0 ++ [(f, v)]) Dn W hW st2 h0 hn1 S2 hs upd_same (by simpa using nd) (by simp at few ⊢; omega) ?_
    cases e2 : mF s G1 with
    | bad => rw [e2] at h; exact h.elim
    | ex c d g => rw [e2] at h; exact h.elim
    | ok ds G2 =>
      rw [e2] at h
      intro ws ρ' H' st3 hn3 tp iw hp3
      have tp2 : ∀ d v, Is X.K ρ H d v → Is X.K ρ' H' d v := fun d v z => tp d v (Is.grow hp1 hF _ _ (Is.step st0.rel st1 z))
      refine h (v :: ws) ρ' H' st3 hn3 tp2 (.cons (tp _ _ (Is.grow hp1 hF _ _ iv)) iw) ?_
      rw [hp3, List.append_assoc]
      rfl
/-- a statement before -/
def preO (m1 : MS) (mF : Sl → M (List D)) : Sl → M (List D) := fun s g => match m1 s g with
  | .nx s1 g1 => if s1[0]? = s[0]? then mF s1 g1 else .bad
  | _ => .bad
theorem do_st {C0 : Addr} {st : Stmt} {sts : List Stmt} {tS tr : TS} {m1 : MS} {ns : List Str} {mF : Sl → M (List D)} (hs : DS X Ts E0 st tS m1) (hr : DO2 X Ts C0 sts tr ns mF) : DO2 X Ts C0 (st :: sts) (tSeq tS tr) ns (preO m1 mF) := by
  refine ⟨pss_cons hs.pe hr.pe, fun ρ0 H0 ρ σ H s G p dx f0 Dn W hW st0 h0 hn S h1 hp nd few h => ?_⟩
  refine hs.rf ρ σ H s G _ st0.rel S ?_
  unfold preO at h
  cases e1 : m1 s G with
  | nx s1 g1 =>
    rw [e1] at h
    dsimp only at h
    by_cases hz : s1[0]? = s[0]?
    · rw [if_pos hz] at h
      intro σ' ρ' H' st1 S'
      have hp1 : H' p = some (.ins C0 dx f0) := st1.ext.keep p _ hp hn fun _ z => nomatch z
      have hn1 : p ∉ ρ' := fun z => by
        have := st1.fresh p z hn
        rw [hp] at this
        cases this
      refine hr.rf ρ0 H0 ρ' σ' H' s1 g1 p dx f0 Dn W hW (st0.trans st1) h0 hn1 S' (hz.trans h1) hp1 nd few ?_
      cases e2 : mF s1 g1 with
      | bad => rw [e2] at h; exact h.elim
      | ex c d g => rw [e2] at h; exact h.elim
      | ok ds G2 =>
        rw [e2] at h
        intro ws ρ2 H2 st3 hn3 tp iw hp3
        exact h ws ρ2 H2 st3 hn3 (fun d v z => tp d v (Is.step st0.rel st1 z)) iw hp3
    · rw [if_neg hz] at h
      exact h.elim
  | rt _ _ => rw [e1] at h; exact h.elim
  | bk _ _ => rw [e1] at h; exact h.elim
  | ct _ _ => rw [e1] at h; exact h.elim
  | ex _ _ _ => rw [e1] at h; exact h.elim
  | bad => rw [e1] at h; exact h.elim
/-- it does not matter what stands first -/
def FreeO (mF : Sl → M (List D)) : Prop := ∀ (d d' : Option D) (r : Sl), mF (d :: r) = mF (d' :: r)
theorem free_nil : FreeO (fun _ => pur []) := fun _ _ _ => rfl
theorem free_cons {me : Sl → M D} {mF : Sl → M (List D)} (h1 : ∀ d d' r, me (d :: r) = me (d' :: r)) (h2 : FreeO mF) : FreeO (fun s => bnd (me s) fun x => bnd (mF s) fun xs => pur (x :: xs)) := fun d d' r => by
  show (bnd (me (d :: r)) fun x => bnd (mF (d :: r)) fun xs => pur (x :: xs)) = _
  rw [h1 d d' r, h2 d d' r]
theorem free_pre {me : Sl → M D} {i : Nat} {mF : Sl → M (List D)} (h1 : ∀ d d' r, me (d :: r) = me (d' :: r)) (h2 : FreeO mF) : FreeO (preO (asgS me (tgN (i + 1))) mF) := fun d d' r => by
  funext g
  unfold preO asgS bndS tgN
  rw [h1 d d' r]
  cases me (d' :: r) g with
  | bad => rfl
  | ex _ _ _ => rfl
  | ok v g1 =>
    dsimp only [pur]
    simp only [List.set_cons_succ, List.getElem?_cons_zero, if_true]
    exact congrFun (h2 d d' _) g1
def makeO (C0 : Addr) (ns : List Str) (mF : Sl → M (List D)) (np k : Nat) (ds : List D) : M D := fun g => if ds.length = np then match mF (some .non :: (ds.map some ++ List.replicate k none)) g with
    | .ok fs g' => if fs.length = ns.length then .ok (.ref g'.length) (g' ++ [.obj C0 ns fs]) else .bad
    | _ => .bad
  else .bad
def spO (C : Ct) (C0 : Addr) (ns : List Str) (mF : Sl → M (List D)) (np k : Nat) : Sp := fun vs H Q _ => ∃ p dx ρ0 H0 ρ G ds vs', vs = .ref p :: vs' ∧ H p = some (.ins C0 dx []) ∧ H0 p = none ∧ p ∉ ρ ∧ Step C ρ0 H0 ρ G H ∧ IsL C.K ρ H ds vs' ∧ ds.length = np ∧
  RunO C ρ0 H0 ρ H C0 p dx [] ns (mF (some .non :: (ds.map some ++ List.replicate k none)) G) (Q .non)
structure OwnO (P : Program) (w : World) (K : PySem.W.Frag) (mg : Str → Option Value) (base : Heap) (Ts : List Addr) (j : Nat) (x : Str) (C0 : Addr) (ns : List Str) (mF : Sl → M (List D)) (np k : Nat) : Prop where
  ex : ∃ (f : Addr) (fd : FuncData) (ps : List Str), FnOk P w K mg base (L2.CX P w) j f fd ps (spO ⟨K, Ts, fw w⟩ C0 ns mF np k) ∧ mg x = some (.ref C0) ∧ Mk K C0 f ∧ Binds K fd ps []
end
section
variable {Ts : List Addr} {P : Program} {w : World} {K : PySem.W.Frag} {mg : Str → Option Value} {base : Heap} {x qual : Str} {params : Arguments} {body : List Stmt} {scope : Scope} {dvs : List V} {kws : List (Str × V)} {p : Str × Option Str} {fd : FuncData} {C0 : Addr}
theorem fn_O {N ps ns : List Str} {j np k : Nat} {mF : Sl → M (List D)} (F : FunD K x qual params body scope dvs kws (He.fAd K p) fd) (S : FnScope N ps scope) (hps : ps.length = np + 1) (hN : N.length = np + 1 + k) (nd : ns.Nodup) (few : ns.length < 1000) (fr : FreeO mF)
    (hbody : ∀ (A : Around) (outer : List Env) (s : Shared) (H : Hp) (E : XK), Room j (A.deeper (envOfC qual scope s.heap.objs.size (He.fAd K p) (.ref (He.codeOf K p)))) →
      ∃ t, DO2 (cxOf (L2.CX P w) P w K mg base N qual scope (He.fAd K p) (.ref (He.codeOf K p)) A outer s H E) Ts C0 body t ns mF) :
    FnOk P w K mg base (L2.CX P w) (j + 1) (He.fAd K p) fd ps (spO ⟨K, Ts, fw w⟩ C0 ns mF np k) := by
  obtain ⟨oc, od, dV, kV, doc, pm, an, cdv, ct, osl, rfl, lk, hcd, _, _⟩ := F.ex
  obtain ⟨cc, rfl⟩ := He.codeIn_ref hcd
  have ec : He.codeOf K p = cc := He.codeOf_eq lk rfl
  refine fn_of lk hcd S (fun vs H Q E h => ?_) fun A outer s H vs Q E hr h => ?_
  · obtain ⟨q, dx, ρ0, H0, ρ, G, ds, vs', rfl, hx, h0, hn, st, i, hd, h⟩ := h
    rw [List.length_cons, ← i.len, hd, hps]
  · obtain ⟨q, dx, ρ0, H0, ρ, G, ds, vs', rfl, hx, h0, hn, st, i, hd, h⟩ := h
    subst ec
    obtain ⟨t, ht⟩ := hbody A outer s H E hr
    have j2 : IsL K ρ H (.cls q :: ds) (.ref q :: vs') := .cons (by simp only [Is]) i
    have S0 := sls_start (N := N) j2 (n := ds.length + 1) rfl
    have ek : N.length - (ds.length + 1) = k := by omega
    rw [ek] at S0
    refine ⟨t, ht.pe, ht.rf ρ0 H0 ρ (L2.start N (.ref q :: vs')) H _ G q dx [] _ (Q .non) (fun _ _ z => z) st h0 hn S0 rfl hx (by simpa using nd) (by simpa using few) ?_⟩
    have e1 : mF (List.map some (D.cls q :: ds) ++ List.replicate k none) = mF (some .non :: (ds.map some ++ List.replicate k none)) := fr (some (.cls q)) (some .non) _
    rw [e1]
    exact h
end
section
variable {X : Cx} {Ts : List Addr} {E : XK} {e : Expr} {es : List Expr} {tr : TA} {mr : Sl → M (List D)}
theorem de_makeO {j np k : Nat} {x : Str} {C0 : Addr} {ns : List Str} {mF : Sl → M (List D)} {p pos : Pos} (h : OwnO X.prog X.w X.K X.mg X.base Ts j x C0 ns mF np k) (hr : Room (j + 1) X.A) (hg : Gl X x) (hx : PsE X E) (ha : DA X Ts E (e :: es) tr mr) (hne : ns.head? = some ("tail" : Str)) (hl : ns.length < 1000) (hdb : (x == ("__debug__" : Str)) = false := by decide)
    (he : starEach (e :: es) X.env = (false, eval e X.env) :: starEach es X.env := by rfl) (hpl : (backTo pos (starEach es X.env)).any (·.1) = false := by rfl) :
    DE X Ts E (.Call (.Name x p) (e :: es) [] pos) (tMake C0 (spO ⟨X.K, Ts, fw X.w⟩ C0 ns mF np k) [] E tr) (fun s => bnd (mr s) (makeO C0 ns mF np k)) := by
  obtain ⟨f, fd, ps, hF, hm, MK, hb⟩ := h.ex
  refine ⟨pe_make MK hF hr hg hm hb .nil hx ha.pe hdb he hpl, fun ρ σ H s G Q R S h => ?_⟩
  refine ha.rf ρ σ H s G _ R S (Run.map R h fun ds G1 zs ρ1 H1 R1 i h1 => ?_)
  have i : IsL X.K ρ1 H1 ds zs := i
  unfold makeO at h1
  by_cases hd : ds.length = np
  · rw [if_pos hd] at h1
    intro y dx hy hdx ne
    have st1 : Step ⟨X.K, Ts, fw X.w⟩ ρ1 H1 ρ1 G1 (upd H1 dx (.own y)) := Step.lay R1 hdx
    have hy1 : upd H1 dx (.own y) y = none := by rw [upd_ne ne.symm]; exact hy
    have st2 : Step ⟨X.K, Ts, fw X.w⟩ ρ1 H1 ρ1 G1 (upd (upd H1 dx (.own y)) y (.ins C0 dx [])) := st1.trans (Step.lay st1.rel hy1)
    have hyn : y ∉ ρ1 := fun z => by
      obtain ⟨o, e, _⟩ := R1.there z
      rw [hy] at e
      cases e
    refine ⟨y, dx, ρ1, H1, ρ1, G1, ds, zs, by rw [List.append_nil], upd_same, hy, hyn, st2, IsL.step R1 st2 i, hd, ?_⟩
    cases e1 : mF (some .non :: (ds.map some ++ List.replicate k none)) G1 with
    | bad => rw [e1] at h1; exact h1.elim
    | ex c d g => rw [e1] at h1; exact h1.elim
    | ok fs g =>
      rw [e1] at h1
      dsimp only at h1
      by_cases hz : fs.length = ns.length
      · rw [if_pos hz] at h1
        intro ws ρ2 H2 st3 hn3 _ iw hy2
        have iw : IsL X.K ρ2 H2 fs ws := iw
        have hy2 : H2 y = some (.ins C0 dx (ns.zip ws)) := hy2
        have lw : ns.length = ws.length := by rw [← iw.len, hz]
        have cell : CellIs X.K ρ2 H2 (fw X.w) y (.obj C0 ns fs) (.ins C0 dx (ns.zip ws ++ [])) := ⟨dx, ws, [], rfl, ⟨lw, hne, (fun _ z => by cases z), by simpa using hl⟩, iw⟩
        refine ⟨rfl, ?_⟩
        rw [List.append_nil] at cell
        have st4 := Step.show (C := ⟨X.K, Ts, fw X.w⟩) (c := .obj C0 ns fs) st3 hy hn3 hy2 cell.cell (o := .ins C0 dx (ns.zip ws)) cell
        have same : upd H2 y (.ins C0 dx (ns.zip ws)) = H2 := by
          funext b
          unfold upd
          split
          · rename_i z
            rw [z, hy2]
          · rfl
        rw [same] at st4
        exact h1 (.ref y) _ H2 st4 st3.rel.new_at
      · rw [if_neg hz] at h1
        exact h1.elim
  · rw [if_neg hd] at h1
    exact h1.elim
end
end
end DL
namespace DL
open PySem PySem.Spec PyProof.Rows L2
open Classical
noncomputable section
variable {C : Ct} {E : XK}
def splitD (x : D) (ds : List D) : M D := fun g => match x, ds with
  | .str a, [.str b] => if (b.length == 0) = false ∧ a.length + 2 ≤ 100000 then .ok (.ref g.length) (g ++ [.lst ((Txt.split a b).map D.str)]) else .bad
  | _, _ => .bad
abbrev rSplitS : V → List V → Hp → VK → Prop := fun x xs H Q => ∃ a b, x = .str a ∧ xs = [.str b] ∧ (b.length == 0) = false ∧ a.length + 2 ≤ sizeLine ∧ rNewStrs (Txt.split a b) H Q
theorem isl_str {K : PySem.W.Frag} {ρ : List Addr} {H : Hp} : ∀ (ys : List Str), IsL K ρ H (ys.map D.str) (ys.map V.str)
  | [] => .nil
  | y :: ys => .cons isStr (isl_str ys)
theorem mtd_split : MtD C rSplitS "str" splitD := by
  intro ρ G H x ds u vs Q E R i j h
  unfold splitD at h
  split at h
  · rename_i a b
    split at h
    · rename_i hc
      obtain ⟨w, rfl, j2⟩ := isl_one j
      exact ⟨a, b, is_str i, by rw [is_str j2], hc.1, Nat.le_trans hc.2 (by rw [sizeLine_eq]; decide), Run.newL R h (isl_str _)⟩
    · exact h.elim
  · exact h.elim
end
end DL
namespace DL
open PySem PySem.Spec PyProof.Rows L2
open Classical
noncomputable section
variable {X : Cx} {Ts : List Addr} {E : XK} {a : Expr} {ta : TE} {ma : Sl → M D} {pos : Pos}
variable {x : Str} {d : Addr} {es : Array DictEntry} {n : Nat} {kvs : List (Str × D)} {p : Pos}
theorem de_notInK (D : KDict X.K X.w d es n) (hb : dictKB X.K d kvs = true) (ha : DE X Ts E a ta ma) (hg : Gl X x) (hm : X.mg x = some (.ref d)) (mk : behindInMarks .NotIn (.Name x p) = false := by with_unfolding_all rfl) (hd : (x == ("__debug__" : Str)) = false := by decide) :
    DE X Ts E (.Compare a [.NotIn] [.Name x p] pos) (tOp (fun x y H Q => ∃ (z : Str) (r : Option Value), x = .str z ∧ y = .ref d ∧ PySem.W.nsIn X.K d z = some r ∧ Q (.bl (!r.isSome)) H) ta (tC (.ref d))) (fun s => bnd (ma s) (inKD kvs true)) := by
  refine ⟨pe_cmpR (op_notIn_kd D) ha.pe (pe_glob hg hm rfl hd) mk, fun ρ σ H s G Q R S h => ?_⟩
  refine ha.rf ρ σ H s G _ R S (Run.map R h fun y G1 v ρ1 H1 R1 i h1 => ?_)
  unfold inKD at h1
  cases y with
  | str z =>
    have i : Is X.K ρ1 H1 (.str z) v := i
    rw [is_str i]
    rcases dictKB_ok hb z with ⟨j1, j2⟩ | ⟨w, u, j1, j2, _⟩
    · refine ⟨z, none, rfl, rfl, j2, Run.ret (Ok := okD ⟨X.K, Ts, fw X.w⟩) R1 h1 ?_⟩
      rw [j1]
      exact isBl
    · refine ⟨z, some u, rfl, rfl, j2, Run.ret (Ok := okD ⟨X.K, Ts, fw X.w⟩) R1 h1 ?_⟩
      rw [j1]
      exact isBl
  | _ => exact h1.elim
end
end DL
namespace DL
open PySem PySem.Spec PyProof.Rows L2
open Classical
noncomputable section
variable {X : Cx} {Ts : List Addr} {E : XK} {a b c : Expr} {C : Ct} {tr : TA} {mr : Sl → M (List D)}
def rngItemsC (lo c : Int) (n : Nat) : List D := (List.range n).map fun i => .int (lo + (i : Nat) * c)
def rng3W (ds : List D) : M Itm := fun g => match ds with
  | [.int i, .int j, .int c] => if h : ∃ n, RgC i j c n then .ok ⟨rngItemsC i c h.choose, none⟩ g else .bad
  | _ => .bad
theorem rngC_at {lo c : Int} {n i : Nat} {d : D} (h : (rngItemsC lo c n)[i]? = some d) : i < n ∧ d = .int (lo + (i : Nat) * c) := by
  unfold rngItemsC at h
  rw [List.getElem?_map] at h
  obtain ⟨k, hk, rfl⟩ := Option.map_eq_some_iff.mp h
  have hi := (List.getElem?_eq_some_iff.mp hk).1
  rw [List.length_range] at hi
  rw [List.getElem?_range hi] at hk
  cases hk
  exact ⟨hi, rfl⟩
theorem walk_rngC {ρ : List Addr} {G : GS} {H : Hp} {lo c : Int} {n : Nat} (R : Rel C ρ G H) : Walk C ⟨rngItemsC lo c n, none⟩ ρ H (Itc lo c n) := by
  refine ⟨fun i ρ1 G1 H1 d st ok hd => (rngC_at hd).1, fun i ρ1 G1 H1 x H' d st ok hd y => ?_, fun ρ1 G1 H1 st ok => ?_⟩
  · obtain ⟨rfl, rfl⟩ := y
    rw [(rngC_at hd).2]
    exact ⟨Step.refl st.rel, isInt⟩
  · show n ≤ (rngItemsC lo c n).length
    unfold rngItemsC
    simp
theorem di_range3 {tg : Expr} {p pos : Pos} (hg : Gl X "range") (hm : X.mg "range" = none) (ha : DA X Ts E [a, b, c] tr mr) (hs : starEach [a, b, c] X.env = (false, eval a X.env) :: starEach [b, c] X.env := by rfl) (hpl : (backTo pos (starEach [b, c] X.env)).any (·.1) = false := by rfl) :
    DI X Ts E tg (.Call (.Name "range" p) [a, b, c] [] pos) (iRng3 tr) (fun s => bnd (mr s) rng3W) := by
  refine ⟨pi_range3 hg hm ha.pe hs hpl, fun ρ σ H s G Rk R S h => ?_⟩
  refine ha.rf ρ σ H s G _ R S (Run.map R h fun ds G1 vs ρ1 H1 R1 i h1 => ?_)
  have i : IsL X.K ρ1 H1 ds vs := i
  unfold rng3W at h1
  split at h1
  · rename_i i1 j1 c1 _
    split at h1
    · rename_i hc
      simp only [IsL] at i
      obtain ⟨v1, r1, rfl, q1, v2, r2, rfl, q2, v3, r3, rfl, q3, rfl⟩ := i
      exact ⟨i1, j1, c1, hc.choose, by rw [is_int q1, is_int q2, is_int q3], hc.choose_spec, Run.ret (Ok := okW ⟨X.K, Ts, fw X.w⟩) R1 h1 (walk_rngC (C := ⟨X.K, Ts, fw X.w⟩) R1)⟩
    · exact h1.elim
  · exact h1.elim
end
end DL
namespace DL
open PySem PySem.Spec PyProof.Rows L2
open Classical
noncomputable section
variable {X : Cx} {Ts : List Addr} {E : XK} {e : Expr} {te : TE} {me : Sl → M D} {pos : Pos}
def insFB (K : PySem.W.Frag) (C : Addr) : Bool :=
  decide (PySem.W.kitOne K (.ref C) (.ref C) = some true) && (oeq (PySem.W.findIn K (.ref C) "__class__") (some (some (.builtin "object.__class__"))) && (oeq (PySem.W.specialIn K (.builtin "object.__class__") "__get__") (some (some (.builtin "getset_descriptor.__get__"))) &&
    (decide (PySem.W.takesIn K (.builtin "object.__class__") = some true) && decide (PySem.W.mroIn K C (.type "object") = some true))))
def rIsN (K : PySem.W.Frag) (C1 : Addr) : List V → Hp → VK → Prop := fun xs H Q => ∃ x t b, xs = [x, .ref C1] ∧ TyOf K H x t ∧ PySem.W.kitOne K t (.ref C1) = some b ∧ Q (.bl b) H
theorem call_isN {C1 : Addr} : CallR X (.builtin "isinstance") (rIsN X.K C1) := by
  intro pins s σ H xs us Q I r h
  obtain ⟨x, t, b, rfl, ty, ek, q⟩ := h
  cases r with
  | cons rx rr =>
    cases rr with
    | cons rt rr =>
      cases rr
      cases rt
      exact isinst_ok I rx ty ek fun tk => ⟨.bl b, H, I.tok tk, rfl, q⟩
def isND (C1 : Addr) (ds : List D) : M D := match ds with
  | [.ins C _ _, .cls C2] => if C = C1 ∧ C2 = C1 then pur (.bl true) else fail
  | _ => fail
theorem calld_isN {K : PySem.W.Frag} {ff : Fo} {C1 : Addr} (cl : Cls K C1) (hF : insFB K C1 = true) : CallD ⟨K, Ts, ff⟩ (rIsN K C1) (isND C1) := by
  unfold insFB oeq at hF
  simp only [Bool.and_eq_true, decide_eq_true_eq] at hF
  obtain ⟨h1, h2, h3, h4, h5⟩ := hF
  intro ρ G H ds vs Q E R i h
  unfold isND at h
  split at h
  · rename_i C ns fs C2
    split at h
    · rename_i hc
      obtain ⟨rfl, rfl⟩ := hc
      obtain ⟨v, w, rfl, i1, i2⟩ := isl_two i
      simp only [Is] at i1 i2
      obtain ⟨p, dx, ws, gs, rfl, hp, _, _⟩ := i1
      subst i2
      exact ⟨_, _, true, rfl, .ins hp cl h2 h3 h4 h5, h1, Run.ret (Ok := okD ⟨K, Ts, ff⟩) R h isBl⟩
    · exact h.elim
  · exact h.elim
theorem de_isN {C1 : Addr} {y : Str} {q q2 : Pos} (cl : Cls X.K C1) (hF : insFB X.K C1 = true) (he : DE X Ts E e te me) (hg : Gl X "isinstance") (hm : X.mg "isinstance" = none) (hgy : Gl X y) (hmy : X.mg y = some (.ref C1)) (hdb : (y == ("__debug__" : Str)) = false := by decide)
    (he2 : starEach (e :: [.Name y q2]) X.env = (false, eval e X.env) :: starEach [.Name y q2] X.env := by rfl) (he3 : starEach (.Name y q2 :: []) X.env = (false, eval (.Name y q2) X.env) :: starEach [] X.env := by rfl) (hpl : (backTo pos (starEach [.Name y q2] X.env)).any (·.1) = false := by rfl) :
    DE X Ts E (.Call (.Name "isinstance" q) [e, .Name y q2] [] pos) (tCB (rIsN X.K C1) (tCons te (tCons (tC (.ref C1)) tNil))) (fun s => bnd (bnd (me s) fun x => bnd (bnd (pur (.cls C1)) fun x => bnd (pur []) fun r => pur (x :: r)) fun r => pur (x :: r)) (isND C1)) :=
  de_callB call_isN (calld_isN cl hF) hg hm PyProof.Rows.boot_isinstance (da_cons he (da_cons (de_clsN hgy hmy hdb) da_nil he3) he2) (by decide) (by decide) he2 hpl
end
end DL
namespace DL
open PySem PySem.Spec PyProof.Rows L2
open Classical
noncomputable section
theorem valueAt_mid {pre r : List (Key × Value)} {k : Key} {y : Value} (h : k ∉ pre.map (·.1)) : valueAt (pre ++ (k, y) :: r) k = some y := by
  unfold valueAt
  rw [List.find?_append]
  have e : pre.find? (fun kv => decide (kv.1 = k)) = none := by
    rw [List.find?_eq_none]
    intro x hx q
    exact h (List.mem_map.mpr ⟨x, hx, by simpa using q⟩)
  rw [e]
  simp
theorem hitsK {X : Cx} {pins : List (Addr × Obj)} {σ : L2.St} {H : Hp} {s : Shared} (I : Inv X pins σ H s) {A : Around} (hu : A.units + 62 < cLine) : ∀ (kas kbs : List (Key × V)) (va vb pre : List (Key × Value)) (pas pbs : List PyData), KV kas va → KV kbs vb → kas.map (·.1) = kbs.map (·.1) → ((pre ++ vb).map (·.1)).Nodup →
    DpAll X.K H (kas.map (·.2)) pas → DpAll X.K H (kbs.map (·.2)) pbs → PyData.plainAll pas = true → PyData.plainAll pbs = true → (∀ p ∈ pas, p.depth ≤ 60) → PySem.W.KeqHits A s (pre ++ vb) va (PyData.eqvAll pas pbs)
  | [], [], va, vb, pre, pas, pbs, ra, rb, _, _, da, db, _, _, _ => by
    cases ra
    cases da
    cases db
    exact .nil
  | [], _ :: _, _, _, _, _, _, _, _, e, _, _, _, _, _, _ => by cases e
  | _ :: _, [], _, _, _, _, _, _, _, e, _, _, _, _, _, _ => by cases e
  | (k, v) :: kas, (k2, v2) :: kbs, va, vb, pre, pas, pbs, ra, rb, e, nd, da, db, pa, pb, dep => by
    cases ra with
    | @cons _ a _ va' h1 t1 =>
    cases rb with
    | @cons _ b _ vb' h2 t2 =>
    cases da with
    | @cons _ _ pa1 pas' d1 da' =>
    cases db with
    | @cons _ _ pb1 pbs' d2 db' =>
    obtain ⟨a1, a2⟩ := a
    obtain ⟨b1, b2⟩ := b
    obtain ⟨h1, r1⟩ := h1
    obtain ⟨h2, r2⟩ := h2
    dsimp only at h1 r1 h2 r2
    rw [List.map_cons, List.map_cons] at e
    injection e with e1 e2
    dsimp only at e1
    have ek : a1 = b1 := by rw [← h1, ← h2]; exact e1
    subst ek
    obtain ⟨as, q1⟩ := Dp.reads I _ _ _ d1 r1
    obtain ⟨bs, q2⟩ := Dp.reads I _ _ _ d2 r2
    have pa' : pa1.plain = true ∧ PyData.plainAll pas' = true := by simpa [PyData.plainAll] using pa
    have pb' : pb1.plain = true ∧ PyData.plainAll pbs' = true := by simpa [PyData.plainAll] using pb
    have dd := dep pa1 List.mem_cons_self
    have nm : a1 ∉ pre.map (·.1) := fun hm => by
      rw [List.map_append, List.map_cons] at nd
      exact (List.nodup_append.mp nd).2.2 _ hm _ List.mem_cons_self rfl
    have hit := SeqAt.eqAt_plain pa1 pb1 A s a2 b2 as bs q1 q2 pa'.1 pb'.1 (by have := Nat.min_le_left pa1.depth pb1.depth; omega)
    have ih := hitsK I hu kas kbs va' vb' (pre ++ [(a1, b2)]) pas' pbs' t1 t2 e2 (by simpa using nd) da' db' pa'.2 pb'.2 fun p hp => dep p (List.mem_cons_of_mem _ hp)
    rw [List.append_assoc] at ih
    rw [show PyData.eqvAll (pa1 :: pas') (pb1 :: pbs') = (PyData.eqv pa1 pb1 && PyData.eqvAll pas' pbs') from by simp only [PyData.eqvAll]]
    exact .hit (valueAt_mid nm) hit ih
def rEqK (K : PySem.W.Frag) : R2 := fun x y H Q => ∃ a b kas kbs pas pbs, x = .ref a ∧ y = .ref b ∧ H a = some (.dK kas) ∧ H b = some (.dK kbs) ∧ kas.map (·.1) = kbs.map (·.1) ∧ (kas.map (·.1)).Nodup ∧ DpAll K H (kas.map (·.2)) pas ∧ DpAll K H (kbs.map (·.2)) pbs ∧ PyData.plainAll pas = true ∧ PyData.plainAll pbs = true ∧ (∀ p ∈ pas, p.depth ≤ 60) ∧ Q (.bl (PyData.eqvAll pas pbs)) H
theorem kv_keys : ∀ {kas : List (Key × V)} {va : List (Key × Value)}, KV kas va → kas.map (·.1) = va.map (·.1)
  | _, _, .nil => rfl
  | _, _, .cons h t => by rw [List.map_cons, List.map_cons, h.1, kv_keys t]
theorem op_eqK {X : Cx} (hu : X.A.units + 64 < cLine) : OpR X (compareOp .Eq) (rEqK X.K) := by
  intro pins s σ H x y v u Q I rx ry h
  obtain ⟨a, b, kas, kbs, pas, pbs, rfl, rfl, ea, eb, ek, nd, da, db, pa, pb, dep, q⟩ := h
  obtain rfl : v = Value.ref a := rx
  obtain rfl : u = Value.ref b := ry
  obtain ⟨_, ya, va, ra, ma⟩ := (show ObjOk X.prog X.w H s.heap a (.dK kas) from I.hok a _ ea)
  obtain ⟨_, yb, vb, rb, mb⟩ := (show ObjOk X.prog X.w H s.heap b (.dK kbs) from I.hok b _ eb)
  have hl : va.length = vb.length := by
    have := congrArg List.length ek
    rw [List.length_map, List.length_map] at this
    rw [← ra.length, ← rb.length]; exact this
  have nb : ((([] : List (Key × Value)) ++ vb).map (·.1)).Nodup := by
    rw [List.nil_append, ← kv_keys rb, ← ek]
    exact nd
  exact PySem.W.keq_eq (knd := mixKind X.prog X.w) ya yb ma mb (by omega) (fun _ => hitsK I (show X.A.in1.units + 62 < cLine from by show X.A.units + 1 + 62 < cLine; omega) kas kbs va vb [] pas pbs ra rb ek nb da db pa pb dep) (fin_bl I q (by simp [hl]))
def eqKD (x y : D) : M D := fun g => match x, y with
  | .ref n, .ref m => (match g[n]?, g[m]? with
    | some (.dic kas), some (.dic kbs) => (match pyL (kas.map (·.2)), pyL (kbs.map (·.2)) with
      | some pas, some pbs => if kas.map (·.1) = kbs.map (·.1) ∧ (kas.map (·.1)).Nodup ∧ PyData.plainAll pas = true ∧ PyData.plainAll pbs = true ∧ ∀ p ∈ pas, p.depth ≤ 60 then .ok (.bl (PyData.eqvAll pas pbs)) g else .bad
      | _, _ => .bad)
    | _, _ => .bad)
  | _, _ => .bad
theorem isk_keys {K : PySem.W.Frag} {ρ : List Addr} {H : Hp} : ∀ {kds : List (Key × D)} {kvs : List (Key × V)}, IsK K ρ H kds kvs → kds.map (·.1) = kvs.map (·.1)
  | _, _, .nil => rfl
  | _, _, .cons h t => by rw [List.map_cons, List.map_cons, h.1, isk_keys t]
theorem isk_vals {K : PySem.W.Frag} {ρ : List Addr} {H : Hp} : ∀ {kds : List (Key × D)} {kvs : List (Key × V)}, IsK K ρ H kds kvs → IsL K ρ H (kds.map (·.2)) (kvs.map (·.2))
  | _, _, .nil => by simp only [List.map_nil, IsL]
  | _, _, .cons h t => by
    simp only [List.map_cons, IsL]
    exact ⟨_, _, rfl, h.2, isk_vals t⟩
theorem opd_eqK {C : Ct} : OpD C (rEqK C.K) eqKD := by
  intro ρ G H x y u v Q E R i j h
  unfold eqKD at h
  split at h
  · rename_i n m
    split at h
    · rename_i kas kbs e1 e2
      split at h
      · rename_i pas pbs p1 p2
        by_cases hc : kas.map (·.1) = kbs.map (·.1) ∧ (kas.map (·.1)).Nodup ∧ PyData.plainAll pas = true ∧ PyData.plainAll pbs = true ∧ ∀ p ∈ pas, p.depth ≤ 60
        · rw [if_pos hc] at h
          obtain ⟨a, va, rfl, _, ha, ia⟩ := R.dic e1 i
          obtain ⟨b, vb, rfl, _, hb, ib⟩ := R.dic e2 j
          exact ⟨a, b, va, vb, pas, pbs, rfl, rfl, ha, hb, by rw [← isk_keys ia, ← isk_keys ib]; exact hc.1, by rw [← isk_keys ia]; exact hc.2.1, dpl_of _ _ _ p1 (isk_vals ia), dpl_of _ _ _ p2 (isk_vals ib), hc.2.2.1, hc.2.2.2.1, hc.2.2.2.2, Run.ret (Ok := okD C) R h isBl⟩
        · rw [if_neg hc] at h
          exact h.elim
      · exact h.elim
    · exact h.elim
  · exact h.elim
end
end DL
namespace DL
open PySem PySem.Spec PyProof.Rows L2 HT
open Classical
noncomputable section
section
variable {prog : Program} {w : World} {A : Around} {E : Value → Shared → Prop} {s : Shared}
theorem adjust_rev (n : Nat) : Builtin.Slice.sliceAdjust none none (-1) (n : Int) = ((n : Int) - 1, -1) := rfl
theorem places_rev (n : Nat) : Builtin.Slice.slicePlaces ((n : Int) - 1) (-1) (-1) = n := by
  unfold Builtin.Slice.slicePlaces
  rw [if_neg (by decide)]
  by_cases h : n = 0
  · subst h; rfl
  · rw [if_pos (by omega)]
    have : ((n : Int) - 1 - -1 - 1) / (- -1) = (n : Int) - 1 := by
      rw [show (- -1 : Int) = 1 from rfl, Int.ediv_one]; omega
    rw [this]; omega
theorem applied_rev {sl : Addr} {vl vu vs : Value} {n : Nat} {Q : Int × Int × Nat → Shared → Prop} (hs : s.heap.IsSliceOf sl vl vu vs) (pl : IsPart vl none) (pu : IsPart vu none) (ps : IsPart vs (some (-1)))
    (h : Q ((n : Int) - 1, -1, n) s) : wpAny (model prog w) A (Builtin.Slice.sliceApplied (.ref sl) (pure (n : Int))) Q E s := by
  obtain ⟨os, hos, hcs, hds⟩ := id hs
  unfold Builtin.Slice.sliceApplied Builtin.Slice.sliceFields
  refine wpAny_bind (wpAny_bind (wpAny_field hos hds (x := vl) rfl (wpAny_bind (wpAny_field hos hds (x := vu) rfl (wpAny_bind (wpAny_field hos hds (x := vs) rfl (wpAny_pure ?_)))))))
  refine wpAny_bind (slicePart_ ps ?_)
  show wpAny _ _ (if ((-1 : Int) == 0) = true then _ else _) _ _ s
  rw [if_neg (by decide)]
  refine wpAny_bind (slicePart_ pl (wpAny_bind (slicePart_ pu (wpAny_bind (wpAny_pure ?_)))))
  show wpAny _ _ (match Builtin.Slice.sliceAdjust none none (-1) (n : Int) with | (lo, hi) => pure (lo, (-1 : Int), Builtin.Slice.slicePlaces lo hi (-1))) _ _ s
  rw [adjust_rev]
  show wpAny _ _ (pure ((n : Int) - 1, (-1 : Int), Builtin.Slice.slicePlaces ((n : Int) - 1) (-1) (-1))) _ _ s
  rw [places_rev]
  exact wpAny_pure h
theorem fm_congr {α β : Type} {f f' : α → Option β} : ∀ l : List α, (∀ m ∈ l, f m = f' m) → l.filterMap f = l.filterMap f'
  | [], _ => rfl
  | x :: l, h => by rw [List.filterMap_cons, List.filterMap_cons, h x List.mem_cons_self, fm_congr l fun y hy => h y (List.mem_cons_of_mem _ hy)]
theorem pick_rev (xs : Array Value) : ((List.range xs.size).filterMap fun (m : Nat) => xs[((xs.size : Int) - 1 + (m : Int) * (-1)).toNat]?).toArray = xs.toList.reverse.toArray := by
  congr 1
  have e : (List.range xs.size).filterMap (fun (m : Nat) => xs[((xs.size : Int) - 1 + (m : Int) * (-1)).toNat]?) = (List.range xs.size).filterMap (fun m => xs.toList.reverse[m]?) := by
    refine fm_congr _ fun m hm => ?_
    have hm := List.mem_range.mp hm
    rw [List.getElem?_reverse (by simpa using hm), Array.length_toList]
    have : ((xs.size : Int) - 1 + (m : Int) * (-1)).toNat = xs.size - 1 - m := by omega
    rw [this]
    simp
  rw [e]
  have := pick_run xs.toList.reverse.toArray 0 xs.size
  simp only [Nat.zero_add, List.drop_zero] at this
  have hl : xs.toList.reverse.length = xs.size := by simp
  have q : ∀ l : List Value, (List.range l.length).filterMap (fun m => l[m]?) = l := fun l => by
    induction l with
    | nil => rfl
    | cons x l ih =>
      rw [List.length_cons, List.range_succ_eq_map, List.filterMap_cons]
      simp only [List.getElem?_cons_zero, List.filterMap_map]
      congr 1
  rw [← hl]
  exact q _
theorem getItem_tuple_rev {t sl : Addr} {items : Array Value} {vl vu vs : Value} {Q : Value → Shared → Prop} (ht : IsTup s.heap t items) (hs : s.heap.IsSliceOf sl vl vu vs) (pl : IsPart vl none) (pu : IsPart vu none) (ps : IsPart vs (some (-1)))
    (h : Q (.ref s.heap.objs.size) { s with heap := s.heap.push { cls := .type "tuple", data := .seq items.toList.reverse.toArray } })
    (hsz : items.size ≤ sizeLine) : wpAny (model prog w) A (getItem (.ref t) (.ref sl)) Q E s := by
  have htake : sizeOk (.seq items.toList.reverse.toArray) := by
    show items.toList.reverse.toArray.size ≤ sizeLine
    simpa using hsz
  obtain ⟨os, hos, hcs, hds⟩ := id hs
  have hTs : s.TypeIs (.ref sl) "slice" := ⟨os, hos, hcs⟩
  unfold getItem
  try with_reducible refine wpAny_holding ?_
  first | refine wpAny_bind (wpAny_pure ?_) | skip
  refine wpAny_bind (wpAny_sequenceKey ht.typeIs (by decide) ?_)
  refine wpAny_bind (wpAny_callSpecial?_slot (name := Str.ofString "__getitem__") ht.typeIs PyProof.Rows.slot_tuple_getitem
    (wpAny_call_entry PyProof.Rows.slot_tuple_getitem ht.typeIs entry_tuple_getitem ?_ (args_tuple_getitem _ _)))
  show wpAny _ _ (Builtin.Tuple.tupleItemsOf (.ref t) >>= _) _ _ s
  refine wpAny_bind (tupleItemsOf_ ht ?_)
  refine wpAny_bind (wpAny_typeOf hTs ?_)
  rw [if_pos (by decide)]
  refine wpAny_bind (applied_rev hs pl pu ps ?_)
  have hno : ¬ ((((items.size : Int) - 1) == 0 && (-1 : Int) == 1 && items.size == items.size) = true) := by
    intro q
    rw [Bool.and_eq_true, Bool.and_eq_true] at q
    exact absurd q.1.2 (by decide)
  show wpAny _ _ (if (((items.size : Int) - 1) == 0 && (-1 : Int) == 1 && items.size == items.size) = true then _ else _) _ _ s
  rw [if_neg hno, pick_rev]
  first
    | exact wpAny_bind (m := Builtin.Tuple.tupleExact _) (wpAny_newObj_type (wpAny_pure ⟨_, rfl, wpAny_pure h⟩) htake)
    | exact wpAny_bind (m := Builtin.Tuple.tupleExact _) (wpAny_newObj_type (wpAny_bind (wpAny_pure (wpAny_pure ⟨_, rfl, wpAny_pure h⟩))) htake)
    | exact wpAny_bind (wpAny_bind (m := Builtin.Tuple.tupleExact _) (wpAny_newObj_type (wpAny_pure (wpAny_pure ⟨_, rfl, wpAny_pure h⟩)) htake))
    | exact wpAny_bind (wpAny_bind (m := Builtin.Tuple.tupleExact _) (wpAny_newObj_type (wpAny_pure ⟨_, rfl, wpAny_pure h⟩) htake))
end
variable {X : Cx} {Ts : List Addr} {E : XK} {e : Expr} {te : TE} {me : Sl → M D} {pos : Pos} {C : Ct}
def tRevT (K : PySem.W.Frag) (te : TE) : TE := fun σ H Q => te σ H fun x H1 => ∃ a xs, x = .ref a ∧ SqT K H1 a xs ∧ ∀ p, H1 p = none → Q (.ref p) (upd H1 p (.tup xs.reverse))
theorem pe_revT {e : Expr} {te : TE} {k : Nat} {p1 p2 p3 pos : Pos} (he : PE X e te) : PE X (.Subscript e (.Slice none none (some (.UnaryOp .USub (.Constant (.int 1) k p1) p2)) p3) pos) (tRevT X.K te) := by
  refine ⟨fun pins s σ H Q I h => ?_⟩
  refine Subscript_ (thn (he.run pins s σ H _ I h) fun v s1 ⟨x, H1, I1, r1, q1⟩ => ?_)
  obtain ⟨a, xs, ex, hx, q⟩ := q1
  subst ex
  cases r1
  have hst : PO X (some (.UnaryOp .USub (.Constant (.int 1) k p1) p2)) (tPart (tUn (rU fun i => .int (-i)) (tC (.int 1)))) := po_some (pe_un un_neg pe_int)
  refine wpAny_Slice (thn (po_none.run pins s1 σ H1 (fun o H2 => o = none ∧ H2 = H1) I1 ⟨rfl, rfl⟩) fun vl s2 ⟨l, H2, I2, pl, el, e2⟩ => ?_)
  subst el e2
  refine thn (po_none.run pins s2 σ H2 (fun o H3 => o = none ∧ H3 = H2) I2 ⟨rfl, rfl⟩) fun vu s3 ⟨u, H3, I3, pu, eu, e3⟩ => ?_
  subst eu e3
  refine thn (hst.run pins s3 σ H3 (fun o H4 => o = some (-1) ∧ H4 = H3) I3 ⟨1, rfl, -1, rfl, rfl, rfl⟩) fun vs s4 ⟨o, H4, I4, ps, eo, e4⟩ => ?_
  subst eo e4
  have I5 : Inv X pins σ H4 { s4 with heap := s4.heap.push { cls := .type "slice", data := .fields #[vl, vu, vs] } } := I4.kept (t' := s4.toks) fun b ob q => Heap.get?_push_of_some _ q
  obtain ⟨its, r, ht, hz⟩ := I5.tuple hx
  have hlen := r.length
  show wpAny (model X.prog X.w) X.A (subscriptTail e (.Slice none none (some (.UnaryOp .USub (.Constant (.int 1) k p1) p2)) p3) (.ref a) (.ref s4.heap.objs.size)) (EP X pins σ Q) X.xe { s4 with heap := s4.heap.push { cls := .type "slice", data := .fields #[vl, vu, vs] } }
  refine tail_any (ops := [.ref a, .ref s4.heap.objs.size]) ht.typeIs (PyProof.Rows.slot_tuple_getitem.lookup) ?_ (by with_unfolding_all rfl)
  refine getItem_tuple_rev ht (Heap.IsSliceOf.new _ vl vu vs) pl pu ps ?_ (by rw [List.size_toArray]; omega)
  refine ⟨.ref _, _, I5.laid (t' := s4.toks) (o := .tup xs.reverse) (fun b ob q => Heap.get?_push_of_some _ q) (Nat.le_refl _) ?_, rfl, q _ (I5.hok.fresh (Nat.le_refl _))⟩
  exact ⟨by rw [List.length_reverse]; exact hz, _, r.reverse, IsTup.new _ _⟩
def revT (x : D) : M D := fun g => match x with
  | .tup ds => .ok (.tup ds.reverse) g
  | _ => .bad
theorem de_revT {k : Nat} {p1 p2 p3 : Pos} (he : DE X Ts E e te me) : DE X Ts E (.Subscript e (.Slice none none (some (.UnaryOp .USub (.Constant (.int 1) k p1) p2)) p3) pos) (tRevT X.K te) (fun s => bnd (me s) revT) := by
  refine ⟨pe_revT he.pe, fun ρ σ H s G Q R S h => ?_⟩
  refine he.rf ρ σ H s G _ R S (Run.first h fun x G1 v ρ1 H1 st i h1 => ?_)
  unfold revT at h1
  split at h1
  · obtain ⟨p, vs, rfl, hp, hl⟩ := is_tup i
    exact ⟨p, vs, rfl, hp, Run.newT st.rel h1 hl.rev⟩
  · exact h1.elim
end
end DL
namespace DL
open PySem PySem.Spec PyProof.Rows L2
open Classical
noncomputable section
mutual
/-- plain, at most n deep -/
def D.pl (n : Nat) : D → Bool
  | .non => true
  | .int _ => true
  | .str x => PyData.strOk x
  | .tup ds => match n with
    | 0 => false
    | n + 1 => plL n ds
  | .bl _ => false
  | .ref _ => false
  | .ins _ _ _ => false
  | .scr _ => false
  | .ty _ => false
  | .cls _ => false
  | .exc _ _ _ => false
  | .dct _ _ _ => false
def plL (n : Nat) : List D → Bool
  | [] => true
  | d :: ds => d.pl n && plL n ds
end
mutual
def toPy : D → PyData
  | .int i => .int i
  | .str x => .str x
  | .tup ds => .tuple (toPyL ds)
  | .non => .none
  | .bl _ => .none
  | .ref _ => .none
  | .ins _ _ _ => .none
  | .scr _ => .none
  | .ty _ => .none
  | .cls _ => .none
  | .exc _ _ _ => .none
  | .dct _ _ _ => .none
def toPyL : List D → List PyData
  | [] => []
  | d :: ds => toPy d :: toPyL ds
end
mutual
theorem pyD_pl : ∀ (n : Nat) (d : D), d.pl n = true → pyD d = some (toPy d)
  | n, .non, _ => by simp only [pyD, toPy]
  | n, .int i, _ => by simp only [pyD, toPy]
  | n, .str i, _ => by simp only [pyD, toPy]
  | 0, .tup ds, h => by simp [D.pl] at h
  | n + 1, .tup ds, h => by
    simp only [D.pl] at h
    simp only [pyD, toPy, pyL_pl n ds h, Option.map_some]
  | n, .bl _, h => by simp [D.pl] at h
  | n, .ref _, h => by simp [D.pl] at h
  | n, .ins _ _ _, h => by simp [D.pl] at h
  | n, .scr _, h => by simp [D.pl] at h
  | n, .ty _, h => by simp [D.pl] at h
  | n, .cls _, h => by simp [D.pl] at h
  | n, .exc _ _ _, h => by simp [D.pl] at h
  | n, .dct _ _ _, h => by simp [D.pl] at h
theorem pyL_pl : ∀ (n : Nat) (ds : List D), plL n ds = true → pyL ds = some (toPyL ds)
  | n, [], _ => by simp only [pyL, toPyL]
  | n, d :: ds, h => by
    simp only [plL, Bool.and_eq_true] at h
    simp only [pyL, toPyL, pyD_pl n d h.1, pyL_pl n ds h.2]
end
mutual
theorem shp_pl : ∀ (n : Nat) (d : D), d.pl n = true → (toPy d).canLay0 = true ∧ (toPy d).depth ≤ n
  | n, .non, _ => by simp [toPy, PyData.canLay0, PyData.depth]
  | n, .int i, _ => by simp [toPy, PyData.canLay0, PyData.depth]
  | n, .str i, h => by
    simp only [D.pl] at h
    simp [toPy, PyData.canLay0, PyData.depth, h]
  | 0, .tup ds, h => by simp [D.pl] at h
  | n + 1, .tup ds, h => by
    simp only [D.pl] at h
    have := shpL_pl n ds h
    simp only [toPy, PyData.canLay0, PyData.depth]
    exact ⟨this.1, by omega⟩
  | n, .bl _, h => by simp [D.pl] at h
  | n, .ref _, h => by simp [D.pl] at h
  | n, .ins _ _ _, h => by simp [D.pl] at h
  | n, .scr _, h => by simp [D.pl] at h
  | n, .ty _, h => by simp [D.pl] at h
  | n, .cls _, h => by simp [D.pl] at h
  | n, .exc _ _ _, h => by simp [D.pl] at h
  | n, .dct _ _ _, h => by simp [D.pl] at h
theorem shpL_pl : ∀ (n : Nat) (ds : List D), plL n ds = true → PyData.canLayAll0 (toPyL ds) = true ∧ PyData.depthAll (toPyL ds) ≤ n
  | n, [], _ => by simp [toPyL, PyData.canLayAll0, PyData.depthAll]
  | n, d :: ds, h => by
    simp only [plL, Bool.and_eq_true] at h
    have h1 := shp_pl n d h.1
    have h2 := shpL_pl n ds h.2
    simp only [toPyL, PyData.canLayAll0, PyData.depthAll, h1.1, h2.1, Bool.and_self, true_and]
    omega
end
mutual
theorem eqv_pl : ∀ (n : Nat) (d e : D), d.pl n = true → e.pl n = true → (PyData.eqv (toPy d) (toPy e) = true ↔ d = e)
  | n, .non, e, _, h => by cases e <;> simp [D.pl] at h <;> simp [toPy, PyData.eqv]
  | n, .int i, e, _, h => by cases e <;> simp [D.pl] at h <;> simp [toPy, PyData.eqv]
  | n, .str i, e, _, h => by cases e <;> simp [D.pl] at h <;> simp [toPy, PyData.eqv]
  | 0, .tup ds, e, h, _ => by simp [D.pl] at h
  | n + 1, .tup ds, e, h, h2 => by
    simp only [D.pl] at h
    cases e with
    | tup es =>
      simp only [D.pl] at h2
      simp only [toPy, PyData.eqv, D.tup.injEq]
      exact eqvL_pl n ds es h h2
    | _ => simp [D.pl] at h2 <;> simp [toPy, PyData.eqv]
  | n, .bl _, _, h, _ => by simp [D.pl] at h
  | n, .ref _, _, h, _ => by simp [D.pl] at h
  | n, .ins _ _ _, _, h, _ => by simp [D.pl] at h
  | n, .scr _, _, h, _ => by simp [D.pl] at h
  | n, .ty _, _, h, _ => by simp [D.pl] at h
  | n, .cls _, _, h, _ => by simp [D.pl] at h
  | n, .exc _ _ _, _, h, _ => by simp [D.pl] at h
  | n, .dct _ _ _, _, h, _ => by simp [D.pl] at h
theorem eqvL_pl : ∀ (n : Nat) (ds es : List D), plL n ds = true → plL n es = true → (PyData.eqvAll (toPyL ds) (toPyL es) = true ↔ ds = es)
  | n, [], [], _, _ => by simp [toPyL, PyData.eqvAll]
  | n, [], e :: es, _, _ => by simp [toPyL, PyData.eqvAll]
  | n, d :: ds, [], _, _ => by simp [toPyL, PyData.eqvAll]
  | n, d :: ds, e :: es, h, h2 => by
    simp only [plL, Bool.and_eq_true] at h h2
    simp only [toPyL, PyData.eqvAll, Bool.and_eq_true, List.cons.injEq, eqv_pl n d e h.1 h2.1, eqvL_pl n ds es h.2 h2.2]
end
theorem pyG_pl {n : Nat} {g : GS} {d : D} (h : d.pl n = true) : pyG g d = some (toPy d) := by
  unfold pyG
  cases d with
  | ref _ => simp [D.pl] at h
  | tup ds =>
    dsimp only
    rw [pyD_pl n _ h]
  | _ => exact pyD_pl n _ h
theorem shaped_pl {n : Nat} {d : D} (hn : n ≤ 64) (h : d.pl n = true) : SeqAt.shaped (toPy d) = true := by
  unfold SeqAt.shaped
  have := shp_pl n d h
  rw [this.1]
  simp
  omega
theorem eqM_pl {n : Nat} {g : GS} {x y : D} (hn : n ≤ 64) (hx : x.pl n = true) (hy : y.pl n = true) : eqM x y g = some (decide (x = y)) := by
  unfold eqM
  rw [pyG_pl hx, pyG_pl hy]
  dsimp only
  rw [shaped_pl hn hx, shaped_pl hn hy]
  simp only [Bool.and_self, if_true]
  congr 1
  rw [Bool.eq_iff_iff, eqv_pl n x y hx hy, decide_eq_true_eq]
theorem eqD_pl {n : Nat} {g : GS} {x y : D} (hn : n ≤ 64) (hx : x.pl n = true) (hy : y.pl n = true) : eqD x y g = .ok (.bl (decide (x = y))) g := by
  unfold eqD
  rw [eqM_pl hn hx hy]
theorem neD_pl {n : Nat} {g : GS} {x y : D} (hn : n ≤ 64) (hx : x.pl n = true) (hy : y.pl n = true) : neD x y g = .ok (.bl (!decide (x = y))) g := by
  unfold neD
  rw [eqM_pl hn hx hy]
end
end DL
namespace DL
open PySem PySem.Spec PyProof.Rows L2
open Classical
noncomputable section
def okM {α : Type} (r : R α) (P : α → GS → Prop) : Prop := match r with
  | .ok a g => P a g
  | _ => False
def okS (r : RS) (Pn : Sl → GS → Prop) (Pr : D → GS → Prop) (Pb Pc : Sl → GS → Prop) : Prop := match r with
  | .nx s g => Pn s g
  | .rt d g => Pr d g
  | .bk s g => Pb s g
  | .ct s g => Pc s g
  | _ => False
theorem okM.mono {α : Type} {r : R α} {P Q : α → GS → Prop} (h : okM r P) (k : ∀ a g, P a g → Q a g) : okM r Q := by
  cases r with
  | ok a g => exact k _ _ h
  | bad => exact h
  | ex _ _ _ => exact h
theorem okM.out {α : Type} {r : R α} {P : α → GS → Prop} (h : okM r P) : ∃ a g, r = .ok a g ∧ P a g := by
  cases r with
  | ok a g => exact ⟨a, g, rfl, h⟩
  | bad => exact h.elim
  | ex _ _ _ => exact h.elim
theorem okM.of {α : Type} {r : R α} {P : α → GS → Prop} {a : α} {g : GS} (e : r = .ok a g) (h : P a g) : okM r P := by rw [e]; exact h
theorem okS.mono {r : RS} {Pn Qn : Sl → GS → Prop} {Pr Qr : D → GS → Prop} {Pb Pc Qb Qc : Sl → GS → Prop} (h : okS r Pn Pr Pb Pc) (kn : ∀ a g, Pn a g → Qn a g) (kr : ∀ a g, Pr a g → Qr a g) (kb : ∀ a g, Pb a g → Qb a g) (kc : ∀ a g, Pc a g → Qc a g) : okS r Qn Qr Qb Qc := by
  cases r with
  | nx s g => exact kn _ _ h
  | rt s g => exact kr _ _ h
  | bk s g => exact kb _ _ h
  | ct s g => exact kc _ _ h
  | bad => exact h
  | ex _ _ _ => exact h
section
variable {α β : Type} {g : GS} {s : Sl} {P : α → GS → Prop} {Q : β → GS → Prop} {Pd : D → GS → Prop} {Pl : List D → GS → Prop} {Pb : Bool → GS → Prop} {Po : Option Int → GS → Prop} {Ps : Sl → GS → Prop} {Pu : Unit → GS → Prop}
theorem w_bnd {m : M α} {k : α → M β} : okM (bnd m k g) Q ↔ okM (m g) fun a g' => okM (k a g') Q := by
  unfold bnd
  cases m g <;> rfl
theorem w_pur {a : α} : okM (pur a g) P ↔ P a g := Iff.rfl
theorem w_sub {i j : Int} : okM (subI (.int i) (.int j) g) Pd ↔ Pd (.int (i - j)) g := Iff.rfl
theorem w_addi {i j : Int} : okM (addD (.int i) (.int j) g) Pd ↔ Pd (.int (i + j)) g := Iff.rfl
theorem w_lt {i j : Int} : okM (ltI (.int i) (.int j) g) Pd ↔ Pd (.bl (decide (i < j))) g := Iff.rfl
theorem w_le {i j : Int} : okM (leI (.int i) (.int j) g) Pd ↔ Pd (.bl (decide (i ≤ j))) g := Iff.rfl
theorem w_mul {i j : Int} (h : (-18446744073709551616 < i ∧ i < 18446744073709551616) ∨ (-18446744073709551616 < j ∧ j < 18446744073709551616)) : okM (mulI (.int i) (.int j) g) Pd ↔ Pd (.int (i * j)) g := by
  unfold mulI iopC
  dsimp only
  rw [if_pos]
  · rfl
  · rw [Bool.or_eq_true, Bool.and_eq_true, Bool.and_eq_true, decide_eq_true_eq, decide_eq_true_eq, decide_eq_true_eq, decide_eq_true_eq]
    exact h
theorem w_asB {b : Bool} : okM (asB (.bl b) g) Pb ↔ Pb b g := Iff.rfl
theorem w_asI {b : Int} : okM (asI (.int b) g) Po ↔ Po (some b) g := Iff.rfl
theorem w_truB {b : Bool} : okM (truM (.bl b) g) Pb ↔ Pb b g := Iff.rfl
theorem w_truT {ds : List D} : okM (truM (.tup ds) g) Pb ↔ Pb (!ds.isEmpty) g := Iff.rfl
theorem w_mkT {ds : List D} (h : ds.length ≤ 1000000) : okM (mkT ds g) Pd ↔ Pd (.tup ds) g := by
  unfold mkT
  rw [if_pos (show ds.length ≤ LIM from h)]; rfl
theorem w_mkL {ds : List D} (h : ds.length ≤ 1000000) : okM (mkL ds g) Pd ↔ Pd (.ref g.length) (g ++ [.lst ds]) := by
  unfold mkL
  rw [if_pos (show ds.length ≤ LIM from h)]; rfl
theorem w_newL {ds : List D} : okM (newL ds g) Pd ↔ Pd (.ref g.length) (g ++ [.lst ds]) := Iff.rfl
theorem w_listT {ds : List D} : okM (listD [.tup ds] g) Pd ↔ Pd (.ref g.length) (g ++ [.lst ds]) := Iff.rfl
theorem w_listR {n : Nat} {ds : List D} (h : g[n]? = some (.lst ds)) : okM (listD [.ref n] g) Pd ↔ Pd (.ref g.length) (g ++ [.lst ds]) := by
  unfold listD
  dsimp only
  rw [h]; rfl
theorem w_lenT {ds : List D} : okM (lenD [.tup ds] g) Pd ↔ Pd (.int ds.length) g := Iff.rfl
theorem w_lenR {n : Nat} {ds : List D} (h : g[n]? = some (.lst ds)) : okM (lenD [.ref n] g) Pd ↔ Pd (.int ds.length) g := by
  unfold lenD
  dsimp only
  rw [h]; rfl
theorem w_ixT {ds : List D} {i : Int} {d : D} (h : atI ds i = some d) : okM (ixD (.tup ds) (.int i) g) Pd ↔ Pd d g := by
  unfold ixD
  dsimp only
  rw [h]; rfl
theorem w_ixR {ds : List D} {n : Nat} {i : Int} {d : D} (hn : g[n]? = some (.lst ds)) (h : atI ds i = some d) : okM (ixD (.ref n) (.int i) g) Pd ↔ Pd d g := by
  unfold ixD
  dsimp only
  rw [hn]
  dsimp only
  rw [h]; rfl
theorem w_slT {ds : List D} {l u : Option Int} : okM (slD (.tup ds) l u g) Pd ↔ Pd (.tup (cutD ds l u)) g := Iff.rfl
theorem w_starT {ds : List D} : okM (starD (.tup ds) g) Pl ↔ Pl ds g := Iff.rfl
theorem w_tgN {i : Nat} {d : D} : okM (tgN i d s g) Ps ↔ Ps (s.set i (some d)) g := Iff.rfl
theorem w_subG {mo mi : Sl → M D} {d : D} : okM (subG mo mi d s g) Ps ↔ okM (mo s g) fun x g1 => okM (mi s g1) fun i g2 => okM (setD x i d g2) fun _ g3 => Ps s g3 := by
  unfold subG
  simp only [w_bnd, w_pur]
theorem w_eq {n : Nat} {x y : D} (hn : n ≤ 64) (hx : x.pl n = true) (hy : y.pl n = true) : okM (eqD x y g) Pd ↔ Pd (.bl (decide (x = y))) g := by
  rw [eqD_pl hn hx hy]; rfl
theorem w_ne {n : Nat} {x y : D} (hn : n ≤ 64) (hx : x.pl n = true) (hy : y.pl n = true) : okM (neD x y g) Pd ↔ Pd (.bl (!decide (x = y))) g := by
  rw [neD_pl hn hx hy]; rfl
theorem w_eqI {x y : Int} : okM (eqD (.int x) (.int y) g) Pd ↔ Pd (.bl (decide (x = y))) g := by
  rw [w_eq (n := 0) (by decide) rfl rfl, show decide (D.int x = D.int y) = decide (x = y) from Bool.eq_iff_iff.mpr (by simp)]
theorem w_neI {x y : Int} : okM (neD (.int x) (.int y) g) Pd ↔ Pd (.bl (!decide (x = y))) g := by
  rw [w_ne (n := 0) (by decide) rfl rfl, show decide (D.int x = D.int y) = decide (x = y) from Bool.eq_iff_iff.mpr (by simp)]
theorem w_if {c : Bool} {a b : M α} : okM ((if c = true then a else b) g) P ↔ if c = true then okM (a g) P else okM (b g) P := by
  cases c <;> rfl
end
section
variable {g : GS} {s : Sl} {Pn : Sl → GS → Prop} {Pr : D → GS → Prop} {Pb Pc : Sl → GS → Prop}
theorem v_seq {m1 m2 : MS} : okS (seqS m1 m2 s g) Pn Pr Pb Pc ↔ okS (m1 s g) (fun s g => okS (m2 s g) Pn Pr Pb Pc) Pr Pb Pc := by
  unfold seqS
  cases m1 s g <;> rfl
theorem v_skip : okS (skipS s g) Pn Pr Pb Pc ↔ Pn s g := Iff.rfl
theorem v_bnd {α : Type} {m : M α} {k : α → GS → RS} : okS (bndS m k g) Pn Pr Pb Pc ↔ okM (m g) fun a g' => okS (k a g') Pn Pr Pb Pc := by
  unfold bndS
  cases m g <;> rfl
theorem v_asg {me : Sl → M D} {tg : D → Sl → M Sl} : okS (asgS me tg s g) Pn Pr Pb Pc ↔ okM (me s g) fun d g1 => okM (tg d s g1) fun s2 g2 => Pn s2 g2 := by
  unfold asgS
  rw [v_bnd]
  refine Eq.to_iff (congrArg (okM (me s g)) (funext fun d => funext fun g1 => propext ?_))
  rw [v_bnd]
  rfl
theorem v_ret {me : Sl → M D} : okS (retS me s g) Pn Pr Pb Pc ↔ okM (me s g) Pr := by
  unfold retS
  rw [v_bnd]; rfl
theorem v_drop {me : Sl → M D} : okS (dropS me s g) Pn Pr Pb Pc ↔ okM (me s g) fun _ g' => Pn s g' := by
  unfold dropS
  rw [v_bnd]; rfl
theorem v_if {mc : Sl → M Bool} {m1 m2 : MS} : okS (ifS mc m1 m2 s g) Pn Pr Pb Pc ↔ okM (mc s g) fun b g' => if b = true then okS (m1 s g') Pn Pr Pb Pc else okS (m2 s g') Pn Pr Pb Pc := by
  unfold ifS
  rw [v_bnd]
  refine Eq.to_iff (congrArg (okM (mc s g)) (funext fun b => funext fun g1 => propext ?_))
  cases b <;> rfl
theorem v_for {mi : Sl → M Itm} {tg : D → Sl → M Sl} {body : MS} : okS (forS mi tg body s g) Pn Pr Pb Pc ↔ okM (mi s g) fun w g' => okS (loopM w tg body w.items s g') Pn Pr Pb Pc := by
  unfold forS
  rw [v_bnd]
theorem loop_wp {w : Itm} {tg : D → Sl → M Sl} {body : MS} (I : Nat → Sl → GS → Prop) (items : List D) (h0 : I 0 s g) (hok : ∀ i s g, i ≤ items.length → I i s g → w.ok g)
    (step : ∀ i x s g, items[i]? = some x → I i s g → okM (tg x s g) fun s1 g1 => okS (body s1 g1) (I (i + 1)) Pr Pn (I (i + 1))) (fin : ∀ s g, I items.length s g → Pn s g) : okS (loopM w tg body items s g) Pn Pr Pb Pc := by
  have key : ∀ (rest : List D) (i : Nat) (s : Sl) (g : GS), items.drop i = rest → i ≤ items.length → I i s g → okS (loopM w tg body rest s g) Pn Pr Pb Pc := by
    intro rest
    induction rest with
    | nil =>
      intro i s g e hi h
      have hl : items.length ≤ i := List.drop_eq_nil_iff.mp e
      have ei : i = items.length := by omega
      subst ei
      unfold loopM
      rw [if_pos (hok _ _ _ hi h)]
      exact fin _ _ h
    | cons x rest ih =>
      intro i s g e hi h
      have hlt : i < items.length := by
        rcases Nat.lt_or_ge i items.length with q | q
        · exact q
        · rw [List.drop_eq_nil_of_le q] at e; cases e
      have hx : items[i]? = some x := by
        rw [List.drop_eq_getElem_cons hlt] at e
        rw [List.getElem?_eq_getElem hlt, (List.cons.inj e).1]
      have hr : items.drop (i + 1) = rest := by
        rw [List.drop_eq_getElem_cons hlt] at e
        exact (List.cons.inj e).2
      unfold loopM
      rw [if_pos (hok _ _ _ hi h)]
      obtain ⟨s1, g1, e1, h1⟩ := (step i x s g hx h).out
      rw [e1]
      dsimp only
      generalize body s1 g1 = r at h1 ⊢
      cases r with
      | nx s2 g2 => exact ih (i + 1) s2 g2 hr hlt h1
      | ct s2 g2 => exact ih (i + 1) s2 g2 hr hlt h1
      | bk s2 g2 => exact h1
      | rt d g2 => exact h1
      | bad => exact h1.elim
      | ex _ _ _ => exact h1.elim
  exact key items 0 s g rfl (Nat.zero_le _) h0
end
theorem fn_wp {np k : Nat} {ms : MS} {ds : List D} {g : GS} {P : D → GS → Prop} (hn : ds.length = np) (h : okS (ms (ds.map some ++ List.replicate (k - np) none) g) (fun _ g' => P .non g' ∧ P .non (g'.take g.length)) (fun d g' => P d g' ∧ P d (g'.take g.length)) (fun _ _ => False) fun _ _ => False) : okM (fnM np k ms ds g) P := by
  unfold fnM
  rw [if_pos hn]
  generalize ms (ds.map some ++ List.replicate (k - np) none) g = r at h ⊢
  have key : ∀ d g', P d g' ∧ P d (g'.take g.length) → okM (gcR g.length (.ok d g')) P := fun d g' h => by
    unfold gcR
    dsimp only
    split
    · exact h.2
    · exact h.1
  cases r with
  | nx s g' => exact key _ _ h
  | rt d g' => exact key _ _ h
  | bk _ _ => exact h.elim
  | ct _ _ => exact h.elim
  | bad => exact h.elim
  | ex _ _ _ => exact h.elim
section
variable {g : GS} {s : Sl} {Pd : D → GS → Prop} {Pu : Unit → GS → Prop} {Pi : Itm → GS → Prop}
theorem x_get {i : Nat} : okM (sget s i g) Pd ↔ match s[i]? with | some (some d) => Pd d g | _ => False := by
  unfold sget
  cases s[i]? with
  | none => rfl
  | some o => cases o <;> rfl
theorem x_ixT {ds : List D} {i : Int} : okM (ixD (.tup ds) (.int i) g) Pd ↔ match atI ds i with | some d => Pd d g | none => False := by
  unfold ixD
  dsimp only
  cases atI ds i <;> rfl
theorem x_lenR {n : Nat} : okM (lenD [.ref n] g) Pd ↔ match g[n]? with | some (.lst ds) => Pd (.int ds.length) g | _ => False := by
  unfold lenD
  dsimp only
  cases g[n]? with
  | none => rfl
  | some c => cases c <;> rfl
theorem x_tupR {n : Nat} : okM (tupleD [.ref n] g) Pd ↔ match g[n]? with | some (.lst ds) => Pd (.tup ds) g | _ => False := by
  unfold tupleD
  dsimp only
  cases g[n]? with
  | none => rfl
  | some c => cases c <;> rfl
theorem x_seqT {ds : List D} : okM (seqW (.tup ds) g) Pi ↔ Pi ⟨ds, none⟩ g := Iff.rfl
theorem x_seqR {n : Nat} : okM (seqW (.ref n) g) Pi ↔ match g[n]? with | some (.lst ds) => Pi ⟨ds, some (n, ds)⟩ g | _ => False := by
  unfold seqW
  dsimp only
  cases g[n]? with
  | none => rfl
  | some c => cases c <;> rfl
theorem x_rng {j : Int} (h1 : -(2 ^ 62) ≤ j) (h2 : j < 2 ^ 62) : okM (rngW [.int j] g) Pi ↔ Pi ⟨rngItems 0 j, none⟩ g := by
  unfold rngW
  dsimp only
  rw [if_pos ⟨h1, h2⟩]; rfl
theorem x_addR {a b : Nat} {xs ys : List D} (ha : g[a]? = some (.lst xs)) (hb : g[b]? = some (.lst ys)) (hl : xs.length + ys.length ≤ 1000000) : okM (addD (.ref a) (.ref b) g) Pd ↔ Pd (.ref g.length) (g ++ [.lst (xs ++ ys)]) := by
  unfold addD addL
  dsimp only
  rw [ha, hb]
  dsimp only
  rw [if_pos (show xs.length + ys.length ≤ LIM from hl)]; rfl
theorem x_addT {xs ys : List D} (hl : xs.length + ys.length ≤ 1000000) : okM (addD (.tup xs) (.tup ys) g) Pd ↔ Pd (.tup (xs ++ ys)) g := by
  unfold addD addT
  dsimp only
  rw [if_pos (show xs.length + ys.length ≤ LIM from hl)]; rfl
theorem ixN_nat {n k : Nat} (h : k < n) : ixN n (k : Int) = some k := by
  unfold ixN
  rw [if_pos (Int.natCast_nonneg k), if_pos (by omega)]; simp
theorem atI_nat {ds : List D} {k : Nat} {d : D} (h : ds[k]? = some d) : atI ds (k : Int) = some d := by
  unfold atI
  rw [ixN_nat (List.getElem?_eq_some_iff.mp h).1]
  exact h
end
theorem ixN0 {n : Nat} : ixN (n + 1) (0 : Int) = some 0 := by
  unfold ixN
  rw [if_pos (by decide), if_pos (by omega)]; rfl
theorem ixN1 {n : Nat} : ixN (n + 1 + 1) (1 : Int) = some 1 := by
  unfold ixN
  rw [if_pos (by decide), if_pos (by omega)]; rfl
theorem ixN2 {n : Nat} : ixN (n + 1 + 1 + 1) (2 : Int) = some 2 := by
  unfold ixN
  rw [if_pos (by decide), if_pos (by omega)]; rfl
theorem atI0 {x : D} {r : List D} : atI (x :: r) (0 : Int) = some x := by
  unfold atI
  rw [List.length_cons, ixN0]; rfl
theorem atI1 {x y : D} {r : List D} : atI (x :: y :: r) (1 : Int) = some y := by
  unfold atI
  rw [List.length_cons, List.length_cons, ixN1]; rfl
theorem atI2 {x y z : D} {r : List D} : atI (x :: y :: z :: r) (2 : Int) = some z := by
  unfold atI
  rw [List.length_cons, List.length_cons, List.length_cons, ixN2]; rfl
theorem comp_wpT {α : Type} {w : Itm} {tg : D → Sl → M Sl} {cond : Sl → M Bool} {elt : Sl → M D} {s : Sl} {g : GS} (hok : w.ok g) (e f : α → D) : ∀ (xs : List α), (∀ x ∈ xs, ∃ s1, tg (e x) s g = .ok s1 g ∧ cond s1 g = .ok true g ∧ elt s1 g = .ok (f x) g) → compM w tg cond elt s (xs.map e) g = .ok (xs.map f) g
  | [], h => by
    unfold compM
    rw [List.map_nil]
    dsimp only
    rw [if_pos hok]; rfl
  | x :: xs, h => by
    obtain ⟨s1, e1, e2, e3⟩ := h x List.mem_cons_self
    rw [List.map_cons]
    unfold compM
    rw [if_pos hok, e1]
    dsimp only
    rw [e2]
    dsimp only
    rw [e3]
    dsimp only
    rw [comp_wpT hok e f xs fun y hy => h y (List.mem_cons_of_mem _ hy)]
    rfl
theorem gen_wpT {α : Type} {w : Itm} {tg : D → Sl → M Sl} {elt : Sl → M D} {stop : Bool} {s : Sl} {g : GS} (hok : w.ok g) (e : α → D) (f : α → Bool) : ∀ (xs : List α), (∀ x ∈ xs, ∃ s1, tg (e x) s g = .ok s1 g ∧ elt s1 g = .ok (.bl (f x)) g) → genM w tg elt stop s (xs.map e) g = .ok (.bl (if xs.any (fun x => f x == stop) then stop else !stop)) g
  | [], h => by
    unfold genM
    rw [List.map_nil]
    dsimp only
    rw [if_pos hok]; rfl
  | x :: xs, h => by
    obtain ⟨s1, e1, e2⟩ := h x List.mem_cons_self
    rw [List.map_cons]
    unfold genM
    rw [if_pos hok, e1]
    dsimp only
    rw [e2]
    dsimp only
    by_cases q : f x = stop
    · rw [if_pos q, List.any_cons, q, beq_self_eq_true, Bool.true_or]
      rfl
    · rw [if_neg q, gen_wpT hok e f xs fun y hy => h y (List.mem_cons_of_mem _ hy), List.any_cons, beq_eq_false_iff_ne.mpr q, Bool.false_or]
/-- from an end told backwards to the end itself -/
theorem okM.eq {α : Type} {r : R α} {a : α} {g : GS} (h : okM r fun b g' => b = a ∧ g' = g) : r = .ok a g := by
  obtain ⟨b, g', e, rfl, rfl⟩ := h.out
  exact e
end
end DL
namespace DL
open PySem PySem.Spec PyProof.Rows L2
open Classical
noncomputable section
section
variable {Pn : Sl → GS → Prop} {Pr : D → GS → Prop} {Pb Pc : Sl → GS → Prop} {mc : Sl → M Bool} {body : MS}
theorem whl_go (I : Nat → Sl → GS → Prop)
    (step : ∀ n s g, I n s g → okM (mc s g) fun b g1 => if b = true then okS (body s g1) (fun s' g' => ∃ m, m < n ∧ I m s' g') Pr Pn (fun s' g' => ∃ m, m < n ∧ I m s' g') else Pn s g1) :
    ∀ n s g, I n s g → okS (whileM mc body (n + 1) s g) Pn Pr Pb Pc := by
  intro n
  induction n using Nat.strongRecOn with
  | ind n ih =>
    intro s g h
    obtain ⟨b, g1, e1, h1⟩ := (step n s g h).out
    unfold whileM
    rw [e1]
    have more : ∀ s2 g2, (∃ m, m < n ∧ I m s2 g2) → okS (whileM mc body n s2 g2) Pn Pr Pb Pc := fun s2 g2 ⟨m, hm, hi⟩ => by
      have z := ih m hm s2 g2 hi
      have nb : whileM mc body (m + 1) s2 g2 ≠ .bad := fun e => by
        rw [e] at z
        exact z
      rw [whileM_mono (show m + 1 ≤ n from hm) nb]
      exact z
    cases b with
    | false => exact h1
    | true =>
      dsimp only
      rw [if_pos rfl] at h1
      generalize body s g1 = r at h1 ⊢
      cases r with
      | nx s2 g2 => exact more s2 g2 h1
      | ct s2 g2 => exact more s2 g2 h1
      | bk s2 g2 => exact h1
      | rt d g2 => exact h1
      | bad => exact h1.elim
      | ex _ _ _ => exact h1.elim
theorem whl_wp {s : Sl} {g : GS} (I : Nat → Sl → GS → Prop) (n : Nat) (h0 : I n s g)
    (step : ∀ n s g, I n s g → okM (mc s g) fun b g1 => if b = true then okS (body s g1) (fun s' g' => ∃ m, m < n ∧ I m s' g') Pr Pn (fun s' g' => ∃ m, m < n ∧ I m s' g') else Pn s g1) :
    okS (whileS mc body s g) Pn Pr Pb Pc := by
  have z := whl_go (Pb := Pb) (Pc := Pc) I step n s g h0
  rw [whileS_eq (n := n + 1) fun e => by rw [e] at z; exact z]
  exact z
end
theorem pre_set {g g' : GS} {n : Nat} {c : Cell} (h : g <+: g') (hn : g.length ≤ n) : g <+: g'.set n c := by
  obtain ⟨ex, rfl⟩ := h
  rw [List.set_append_right _ _ hn]
  exact List.prefix_append _ _
theorem pre_get {g g' : GS} (h : g <+: g') {n : Nat} {c : Cell} (e : g[n]? = some c) : g'[n]? = some c := by
  obtain ⟨ex, rfl⟩ := h
  rw [List.getElem?_append_left (List.getElem?_eq_some_iff.mp e).1]
  exact e
theorem pre_app {g g' : GS} (h : g <+: g') (ex : GS) : g <+: g' ++ ex := h.trans (List.prefix_append _ _)
/-- a def that makes lists of its own and answers plain data -/
theorem fn_pre {np k : Nat} {ms : MS} {ds : List D} {g : GS} {d : D} {P : D → GS → Prop} (hn : ds.length = np) (h : okS (ms (ds.map some ++ List.replicate (k - np) none) g) (fun _ _ => False) (fun d' g' => d' = d ∧ g <+: g') (fun _ _ => False) fun _ _ => False) (hP : ∀ g2, g <+: g2 → P d g2) : okM (fnM np k ms ds g) P := by
  refine fn_wp hn (h.mono (fun _ _ z => z.elim) (fun d' g' z => ?_) (fun _ _ z => z) fun _ _ z => z)
  obtain ⟨rfl, pre⟩ := z
  refine ⟨hP _ pre, hP _ ?_⟩
  obtain ⟨ex, rfl⟩ := pre
  rw [List.take_left' rfl]
  exact List.prefix_refl _
end
end DL
namespace DL
open PySem PySem.Spec PyProof.Rows L2
open Classical
end DL
namespace DL
open PySem PySem.Spec PyProof.Rows L2
open Classical
noncomputable section
/-- only the cells of S change, and new ones come -/
structure Chg (S : List Nat) (g g' : GS) : Prop where
  le : g.length ≤ g'.length
  at_ : ∀ i, i ∉ S → i < g.length → g'[i]? = g[i]?
theorem Chg.refl (S : List Nat) (g : GS) : Chg S g g := ⟨Nat.le_refl _, fun _ _ _ => rfl⟩
theorem Chg.trans {S : List Nat} {g1 g2 g3 : GS} (h : Chg S g1 g2) (k : Chg S g2 g3) : Chg S g1 g3 :=
  ⟨Nat.le_trans h.le k.le, fun i hi hl => (k.at_ i hi (Nat.lt_of_lt_of_le hl h.le)).trans (h.at_ i hi hl)⟩
theorem Chg.pre {S : List Nat} {g g' : GS} (h : g <+: g') : Chg S g g' := by
  obtain ⟨ex, rfl⟩ := h
  exact ⟨by simp, fun i _ hl => List.getElem?_append_left hl⟩
theorem Chg.get {S : List Nat} {g g' : GS} (h : Chg S g g') {i : Nat} {c : Cell} (hi : i ∉ S) (e : g[i]? = some c) : g'[i]? = some c := by
  rw [h.at_ i hi (List.getElem?_eq_some_iff.mp e).1]
  exact e
theorem Chg.set {S : List Nat} {g g' : GS} (h : Chg S g g') {n : Nat} {c : Cell} (hn : n ∈ S ∨ g.length ≤ n) : Chg S g (g'.set n c) := by
  refine ⟨by rw [List.length_set]; exact h.le, fun i hi hl => ?_⟩
  rw [List.getElem?_set_ne]
  · exact h.at_ i hi hl
  · rintro rfl
    rcases hn with hn | hn
    · exact hi hn
    · omega
theorem Chg.app {S : List Nat} {g g' : GS} (h : Chg S g g') (ex : GS) : Chg S g (g' ++ ex) := h.trans (.pre (List.prefix_append _ _))
theorem Chg.take {S : List Nat} {g g' : GS} (h : Chg S g g') : Chg S g (g'.take g.length) := by
  refine ⟨by rw [List.length_take]; have := h.le; omega, fun i hi hl => ?_⟩
  rw [List.getElem?_take_of_lt hl]
  exact h.at_ i hi hl
theorem Chg.mono {S T : List Nat} {g g' : GS} (h : Chg S g g') (k : ∀ i ∈ S, i ∈ T ∨ g.length ≤ i) : Chg T g g' := by
  refine ⟨h.le, fun i hi hl => h.at_ i (fun z => ?_) hl⟩
  rcases k i z with y | y
  · exact hi y
  · omega
theorem Chg.to_pre {S : List Nat} {g g1 g2 : GS} (h : Chg S g1 g2) (p : g <+: g1) (far : ∀ i ∈ S, g.length ≤ i) : g <+: g2 := by
  have le := Nat.le_trans p.length_le h.le
  refine ⟨g2.drop g.length, ?_⟩
  have e : g = g2.take g.length := by
    apply List.ext_getElem?
    intro i
    by_cases hi : i < g.length
    · rw [List.getElem?_take_of_lt hi, h.at_ i (fun z => by have := far i z; omega) (Nat.lt_of_lt_of_le hi p.length_le)]
      exact (pre_get p (List.getElem?_eq_getElem hi)).symm ▸ List.getElem?_eq_getElem hi
    · rw [List.getElem?_eq_none (by omega), List.getElem?_eq_none (by rw [List.length_take]; omega)]
  conv => lhs; rw [e]
  rw [List.length_take, Nat.min_eq_left le]
  exact List.take_append_drop _ _
theorem w_methF {F : List D → M D} {x : D} {ds : List D} {g : GS} {P : D → GS → Prop} : okM (methF F x ds g) P ↔ okM (F (x :: ds) g) P := Iff.rfl
end
end DL
namespace DL
open PySem PySem.Spec PyProof.Rows L2
open Classical
end DL
namespace DL
open PySem PySem.Spec PyProof.Rows L2
open Classical
noncomputable section
variable {s : Sl} {g : GS} {Pn Pb Pc : Sl → GS → Prop} {Pr Pd : D → GS → Prop}
theorem x_fldO {C0 : Addr} {f : Str} {n : Nat} {ns : List Str} {ds : List D} {d : D} (h : g[n]? = some (.obj C0 ns ds)) (e : (ns.zip ds).lookup f = some d) : okM (fldO C0 f (.ref n) g) Pd ↔ Pd d g := by
  unfold fldO
  dsimp only
  rw [h]
  dsimp only
  rw [if_pos rfl, e]
  exact Iff.rfl
theorem x_insO {C0 : Addr} {m : Str} {n : Nat} {ns : List Str} {ds : List D} (h : g[n]? = some (.obj C0 ns ds)) (hm : m ∉ ns) : okM (insO C0 m (.ref n) g) Pd ↔ Pd (.ref n) g := by
  unfold insO
  dsimp only
  rw [h]
  dsimp only
  rw [if_pos ⟨rfl, hm⟩]
  exact Iff.rfl
/-- self.f += j -/
theorem x_augO {C0 : Addr} {f : Str} {n : Nat} {ns : List Str} {ds : List D} {i j : Int} {mo mv : Sl → M D} (hx : mo s g = .ok (.ref n) g) (hv : mv s g = .ok (.int j) g) (h : g[n]? = some (.obj C0 ns ds)) (e : (ns.zip ds).lookup f = some (.int i)) :
    okS (augO C0 f mo mv s g) Pn Pr Pb Pc ↔ Pn s (g.set n (.obj C0 ns (setAt f (.int (i + j)) ns ds))) := by
  have e1 : augO C0 f mo mv s g = .nx s (g.set n (.obj C0 ns (setAt f (.int (i + j)) ns ds))) := by
    have q : fldO C0 f (.ref n) g = .ok (.int i) g := by
      unfold fldO
      dsimp only
      rw [h]
      dsimp only
      rw [if_pos rfl, e]
    unfold augO bndS
    dsimp only
    rw [hx]
    dsimp only
    rw [q]
    dsimp only
    rw [hv]
    dsimp only
    unfold wrO
    dsimp only
    rw [h]
    dsimp only
    rw [if_pos ⟨rfl, lookup_mem e⟩]
  rw [e1]
  exact Iff.rfl
theorem w_preO {m1 : MS} {mF : Sl → M (List D)} {P : List D → GS → Prop} (h : okS (m1 s g) (fun s1 g1 => s1[0]? = s[0]? ∧ okM (mF s1 g1) P) (fun _ _ => False) (fun _ _ => False) fun _ _ => False) : okM (preO m1 mF s g) P := by
  unfold preO
  generalize m1 s g = r at h
  cases r with
  | nx s1 g1 =>
    obtain ⟨h1, h2⟩ := (show s1[0]? = s[0]? ∧ okM (mF s1 g1) P from h)
    dsimp only
    rw [if_pos h1]
    exact h2
  | rt _ _ => exact h.elim
  | bk _ _ => exact h.elim
  | ct _ _ => exact h.elim
  | ex _ _ _ => exact h.elim
  | bad => exact h.elim
theorem w_makeO {C0 : Addr} {ns : List Str} {mF : Sl → M (List D)} {np k : Nat} {ds : List D} (hd : ds.length = np) (h : okM (mF (some .non :: (ds.map some ++ List.replicate k none)) g) fun fs g' => fs.length = ns.length ∧ Pd (.ref g'.length) (g' ++ [.obj C0 ns fs])) : okM (makeO C0 ns mF np k ds g) Pd := by
  obtain ⟨fs, g', e, l, p⟩ := h.out
  unfold makeO
  rw [if_pos hd, e]
  dsimp only
  rw [if_pos l]
  exact p
theorem w_split {a b : Str} (hb : (b.length == 0) = false) (ha : a.length + 2 ≤ 100000) : okM (splitD (.str a) [.str b] g) Pd ↔ Pd (.ref g.length) (g ++ [.lst ((Txt.split a b).map D.str)]) := by
  unfold splitD
  dsimp only
  rw [if_pos ⟨hb, ha⟩]
  exact Iff.rfl
theorem w_rng3 {i j c : Int} {n : Nat} {P : Itm → GS → Prop} (h : RgC i j c n) : okM (rng3W [.int i, .int j, .int c] g) P ↔ P ⟨rngItemsC i c n, none⟩ g := by
  unfold rng3W
  dsimp only
  have hx : ∃ n, RgC i j c n := ⟨n, h⟩
  rw [dif_pos hx]
  have e : hx.choose = n := by
    have h1 := hx.choose_spec.2.2.2
    have h2 := h.2.2.2
    rw [h1] at h2
    exact_mod_cast h2
  rw [e]
  exact Iff.rfl
theorem w_isND {C0 : Addr} {ns : List Str} {ds : List D} : okM (isND C0 [.ins C0 ns ds, .cls C0] g) Pd ↔ Pd (.bl true) g := by
  unfold isND
  dsimp only
  rw [if_pos ⟨rfl, rfl⟩]
  exact Iff.rfl
end
end DL
namespace DL
open PySem PySem.Spec PyProof.Rows L2
theorem split_of {c : Nat} (hc : c < 256) {x : Str} {parts : List (List Nat)} (hne : parts ≠ []) (h : ∀ p ∈ parts, c ∉ p) (e : x.cps.toList = TL.joinL [c] parts) : Txt.split x (SX.S [c]) = parts.map SX.S := by
  rw [← SX.S_tl x, SX.split_S (List.cons_ne_nil _ _) (by simp [hc]), e, SX.spl_join hne h]
/-- lines, each with its end -/
theorem joinL_ends (c : Nat) : ∀ L : List (List Nat), TL.joinL [c] (L ++ [[]]) = (L.map fun l => l ++ [c]).flatten
  | [] => rfl
  | [p] => by simp [TL.joinL]
  | p :: q :: r => by
    have ih := joinL_ends c (q :: r)
    show p ++ ([c] ++ TL.joinL [c] (q :: r ++ [[]])) = _
    rw [ih]
    simp
theorem joinL_nil : ∀ L : List (List Nat), TL.joinL [] L = L.flatten
  | [] => rfl
  | [p] => by simp [TL.joinL]
  | p :: q :: r => by
    have ih := joinL_nil (q :: r)
    show p ++ ([] ++ TL.joinL [] (q :: r)) = _
    rw [ih]
    simp
theorem nl_S : ("\n" : Str) = SX.S [10] := by decide +kernel
theorem sp_S : (" " : Str) = SX.S [32] := by decide +kernel
theorem split_lines (L : List Str) (h : ∀ s ∈ L, 10 ∉ s.cps.toList) : Txt.split (Str.join Str.empty (L.map fun s => s ++ ("\n" : Str))) ("\n" : Str) = L ++ [Str.empty] := by
  have e : (Str.join Str.empty (L.map fun s => s ++ ("\n" : Str))).cps.toList = TL.joinL [10] (L.map (fun s => s.cps.toList) ++ [[]]) := by
    have z := TL.tl_join Str.empty (L.map fun s => s ++ ("\n" : Str))
    rw [show TL.tl Str.empty = [] from rfl, joinL_nil] at z
    show TL.tl _ = _
    rw [z, joinL_ends, List.map_map, List.map_map]
    congr 1
    refine List.map_congr_left fun s _ => ?_
    show TL.tl (s ++ ("\n" : Str)) = s.cps.toList ++ [10]
    rw [TL.tl_append, nl_S]
  rw [nl_S]
  rw [nl_S] at e
  rw [split_of (by decide) (by simp) (fun p hp => ?_) e, List.map_append, List.map_map]
  · have q : (SX.S ∘ fun s : Str => s.cps.toList) = id := funext fun s => SX.S_tl s
    rw [q, List.map_id]
    rfl
  · rcases List.mem_append.mp hp with hp | hp
    · obtain ⟨s, hs, rfl⟩ := List.mem_map.mp hp
      exact h s hs
    · rw [List.mem_singleton.mp hp]
      simp
theorem split_words {ws : List Str} (hne : ws ≠ []) (h : ∀ s ∈ ws, 32 ∉ s.cps.toList) : Txt.split (Str.join (" " : Str) ws) (" " : Str) = ws := by
  have e : (Str.join (" " : Str) ws).cps.toList = TL.joinL [32] (ws.map fun s => s.cps.toList) := by
    have z := TL.tl_join (" " : Str) ws
    rw [sp_S] at z ⊢
    exact z
  rw [sp_S] at e ⊢
  rw [split_of (by decide) (by simpa using hne) (fun p hp => ?_) e, List.map_map]
  · have q : (SX.S ∘ fun s : Str => s.cps.toList) = id := funext fun s => SX.S_tl s
    rw [q, List.map_id]
  · obtain ⟨s, hs, rfl⟩ := List.mem_map.mp hp
    exact h s hs
end DL
namespace DL
open PySem PySem.Spec PyProof.Rows L2
section
variable (cells : List Addr) (fas : List He.Fa) (fns : List He.DefD) (tds : List He.Tab) (tfs : List He.Defn) (exB : PySem.W.Frag → Bool)
def obsA (look : Addr → Option Obj) : He.AlX :=
  let K := He.frT look cells
  (He.obsT fas fns tds K, exB K && He.tabsB look tfs K)
variable {cells fas fns tds tfs exB}
theorem obsA_says {w : World} {h : Heap} (e : obsA cells fas fns tds tfs exB h.get? = He.valX fns tds w) : He.SaysX fas fns tds tfs exB w h (He.frT h.get? cells) := by
  have e1 := congrArg Prod.fst e
  have e2 := congrArg Prod.snd e
  have e2 : (exB (He.frT h.get? cells) && He.tabsB h.get? tfs (He.frT h.get? cells)) = true := e2
  rw [Bool.and_eq_true] at e2
  have each : ∀ p, p ∈ tfs → PySem.W.codeHdIn (He.frT h.get? cells) (He.cT (He.frT h.get? cells) p).1 (He.cT (He.frT h.get? cells) p).2 = true ∧ ∃ o, h.get? (He.cT (He.frT h.get? cells) p).2 = some o ∧ He.emptyTab o = true := fun p m => by
    have a := List.all_eq_true.mp e2.2 p m
    rw [Bool.and_eq_true] at a
    refine ⟨a.1, ?_⟩
    have b := a.2
    cases c : h.get? (He.cT (He.frT h.get? cells) p).2 with
    | none => rw [c] at b; cases b
    | some o => rw [c] at b; exact ⟨o, rfl, b⟩
  refine ⟨e1, e2.1, fun p m => (each p m).1, fun p m => ?_, fun p m => ?_⟩
  · obtain ⟨_, o, c, b⟩ := each p m
    exact He.frT_none c b
  · obtain ⟨_, o, c, b⟩ := each p m
    rw [c, He.emptyTab_eq b]
variable (cells fas fns tds tfs exB)
def hookA : PySem.W.Hook :=
  ⟨He.AlX, fun s => obsA cells fas fns tds tfs exB s.heap.get?, fun w => He.valX fns tds w, (He.hookX 0 fas fns tds tfs exB).says, fun _ _ e => ⟨_, He.frT_in, obsA_says e⟩, (He.hookX 0 fas fns tds tfs exB).keeps⟩
theorem obsA_eq {look : Addr → Option Obj} {s : Shared} (h : ∀ a, look a = s.heap.get? a) : obsA cells fas fns tds tfs exB look = (hookA cells fas fns tds tfs exB).obs s := by
  have e : look = s.heap.get? := funext h
  subst e
  rfl
end
end DL
namespace K14
open PySem PySem.Spec PyProof.Rows L2 DL
open Classical
noncomputable section
def top (i : Nat) : Stmt := PySem.Challenge.pw_twoknowers_k14_whole_texts_come_back.main.body.getD i (.Pass ⟨0, 0, 0, 0⟩)
abbrev s__line : Stmt := top 20
abbrev s__changes_line : Stmt := top 23
abbrev s__shown_line : Stmt := top 22
abbrev s__part_lines : Stmt := top 21
abbrev s_write_program : Stmt := top 19
abbrev s__is_number : Stmt := top 8
abbrev s_are_indexes : Stmt := top 16
abbrev s__is_change : Stmt := top 14
abbrev s_are_changes : Stmt := top 13
abbrev s__are_ticks : Stmt := top 15
abbrev s_is_shown : Stmt := top 12
abbrev s__is_part : Stmt := top 11
abbrev s__are_parts : Stmt := top 10
abbrev s_are_sizes : Stmt := top 9
abbrev s_init : Stmt := inClass (top 7) 0
abbrev s__law_made : Stmt := top 36
abbrev s__law_next : Stmt := top 32
abbrev s__law_changes : Stmt := top 33
abbrev s__law_pair : Stmt := top 34
abbrev s__law_data : Stmt := top 35
abbrev s__law_other : Stmt := top 42
abbrev s_Lines_finish : Stmt := inClass (top 24) 4
abbrev s_Lines_words : Stmt := inClass (top 24) 1
abbrev s_Lines_take : Stmt := inClass (top 24) 3
abbrev s_Lines_sees : Stmt := inClass (top 24) 2
abbrev s__take_indexes : Stmt := top 30
abbrev s__take_changes : Stmt := top 29
abbrev s__take_shown : Stmt := top 28
abbrev s__take_part : Stmt := top 27
abbrev s__take_sizes : Stmt := top 26
abbrev s_Lines_init : Stmt := inClass (top 24) 0
abbrev s_parse_program : Stmt := top 25
abbrev s__law_all : Stmt := top 41
abbrev s__law_text : Stmt := top 40
abbrev s__law_line : Stmt := top 37
abbrev s__law_flat : Stmt := top 38
abbrev s__law_lines : Stmt := top 39
abbrev s_law : Stmt := top 43
def tabs (K : PySem.W.Frag) : List Addr := [(He.cT K (("are_changes" : Str), none)).2, (He.cT K (("_are_ticks" : Str), none)).2, (He.cT K (("is_shown" : Str), none)).2, (He.cT K (("_are_parts" : Str), none)).2, (He.cT K (("are_sizes" : Str), none)).2, (He.cT K (("Lines" : Str), some ("take" : Str))).2]
abbrev FnP (K : PySem.W.Frag) (x : Str) (st : Stmt) (f : Addr) (fd : FuncData) : Prop := FunD K x x (defArgs st) (defBody st) (defScope st) [] [] f fd
def kwsP (K : PySem.W.Frag) : List (Str × V) := []
def k_NUMBERS : List (Str × D) := ([(("0" : Str), .int 0), (("1" : Str), .int 1), (("2" : Str), .int 2), (("3" : Str), .int 3), (("4" : Str), .int 4), (("5" : Str), .int 5), (("6" : Str), .int 6), (("7" : Str), .int 7), (("8" : Str), .int 8), (("9" : Str), .int 9)] : List (Str × D))
structure Fx (P : Program) (w : World) (K : PySem.W.Frag) (mg : Str → Option Value) (base : Heap) : Prop where
  g_NUMBERS : mg ("NUMBERS" : Str) = some (.ref (He.ga K ("NUMBERS" : Str)))
  kd_NUMBERS : ∃ es n, KDict K w (He.ga K ("NUMBERS" : Str)) es n
  kb_NUMBERS : dictKB K (He.ga K ("NUMBERS" : Str)) k_NUMBERS = true
  c_MOST_PARTS : ∃ t, mg ("MOST_PARTS" : Str) = some (.int 4 t)
  c_MOST_TICKS : ∃ t, mg ("MOST_TICKS" : Str) = some (.int 2 t)
  g_all : mg ("all" : Str) = none
  g_any : mg ("any" : Str) = none
  g_bool : mg ("bool" : Str) = none
  g_dict : mg ("dict" : Str) = none
  g_int : mg ("int" : Str) = none
  g_isinstance : mg ("isinstance" : Str) = none
  g_len : mg ("len" : Str) = none
  g_list : mg ("list" : Str) = none
  g_range : mg ("range" : Str) = none
  g_str : mg ("str" : Str) = none
  g_tuple : mg ("tuple" : Str) = none
  cls : Cls K (He.ga K ("Program" : Str))
  g_Program : mg ("Program" : Str) = some (.ref (He.ga K ("Program" : Str)))
  mkC : Mk K (He.ga K ("Program" : Str)) (He.fAd K (("Program" : Str), some "__init__"))
  isI_C : insFB K (He.ga K ("Program" : Str)) = true
  no_live : NoAttr K (He.ga K ("Program" : Str)) ("live" : Str)
  no_parts : NoAttr K (He.ga K ("Program" : Str)) ("parts" : Str)
  no_sizes : NoAttr K (He.ga K ("Program" : Str)) ("sizes" : Str)
  no_skips : NoAttr K (He.ga K ("Program" : Str)) ("skips" : Str)
  no_ticks : NoAttr K (He.ga K ("Program" : Str)) ("ticks" : Str)
  no_all : ∀ f ∈ ([("sizes" : Str), ("parts" : Str), ("ticks" : Str), ("live" : Str), ("skips" : Str)] : List Str), NoAttr K (He.ga K ("Program" : Str)) f
  f_init : ∃ fd, FunD K "__init__" ("Program.__init__" : Str) (defArgs s_init) (defBody s_init) (defScope s_init) [] (kwsP K) (He.fAd K (("Program" : Str), some "__init__")) fd
  g_Lines : mg ("Lines" : Str) = some (.ref (He.ga K ("Lines" : Str)))
  cls_Lines : Cls K (He.ga K ("Lines" : Str))
  mk_Lines : Mk K (He.ga K ("Lines" : Str)) (He.fAd K (("Lines" : Str), some "__init__"))
  no_Lines_rows : NoAttr K (He.ga K ("Lines" : Str)) ("rows" : Str)
  no_Lines_tail : NoAttr K (He.ga K ("Lines" : Str)) ("tail" : Str)
  no_Lines_taken : NoAttr K (He.ga K ("Lines" : Str)) ("taken" : Str)
  f_Lines_finish : ∃ fd, FunD K ("finish" : Str) (("Lines.finish" : Str)) (defArgs s_Lines_finish) (defBody s_Lines_finish) (defScope s_Lines_finish) [] [] (He.fAd K (("Lines" : Str), some ("finish" : Str))) fd
  me_Lines_finish : Meth K (He.ga K ("Lines" : Str)) ("finish" : Str) (He.fAd K (("Lines" : Str), some ("finish" : Str)))
  f_Lines_words : ∃ fd, FunD K ("words" : Str) (("Lines.words" : Str)) (defArgs s_Lines_words) (defBody s_Lines_words) (defScope s_Lines_words) [] [] (He.fAd K (("Lines" : Str), some ("words" : Str))) fd
  me_Lines_words : Meth K (He.ga K ("Lines" : Str)) ("words" : Str) (He.fAd K (("Lines" : Str), some ("words" : Str)))
  f_Lines_take : ∃ fd, FunD K ("take" : Str) (("Lines.take" : Str)) (defArgs s_Lines_take) (defBody s_Lines_take) (defScope s_Lines_take) [] [] (He.fAd K (("Lines" : Str), some ("take" : Str))) fd
  me_Lines_take : Meth K (He.ga K ("Lines" : Str)) ("take" : Str) (He.fAd K (("Lines" : Str), some ("take" : Str)))
  f_Lines_sees : ∃ fd, FunD K ("sees" : Str) (("Lines.sees" : Str)) (defArgs s_Lines_sees) (defBody s_Lines_sees) (defScope s_Lines_sees) [] [] (He.fAd K (("Lines" : Str), some ("sees" : Str))) fd
  me_Lines_sees : Meth K (He.ga K ("Lines" : Str)) ("sees" : Str) (He.fAd K (("Lines" : Str), some ("sees" : Str)))
  f_Lines_init : ∃ fd, FunD K ("__init__" : Str) (("Lines.__init__" : Str)) (defArgs s_Lines_init) (defBody s_Lines_init) (defScope s_Lines_init) [] [] (He.fAd K (("Lines" : Str), some ("__init__" : Str))) fd
  g__line : mg ("_line" : Str) = some (.ref (He.fAd K (("_line" : Str), none)))
  f__line : ∃ fd, FnP K ("_line" : Str) s__line (He.fAd K (("_line" : Str), none)) fd
  g__changes_line : mg ("_changes_line" : Str) = some (.ref (He.fAd K (("_changes_line" : Str), none)))
  f__changes_line : ∃ fd, FnP K ("_changes_line" : Str) s__changes_line (He.fAd K (("_changes_line" : Str), none)) fd
  g__shown_line : mg ("_shown_line" : Str) = some (.ref (He.fAd K (("_shown_line" : Str), none)))
  f__shown_line : ∃ fd, FnP K ("_shown_line" : Str) s__shown_line (He.fAd K (("_shown_line" : Str), none)) fd
  g__part_lines : mg ("_part_lines" : Str) = some (.ref (He.fAd K (("_part_lines" : Str), none)))
  f__part_lines : ∃ fd, FnP K ("_part_lines" : Str) s__part_lines (He.fAd K (("_part_lines" : Str), none)) fd
  g_write_program : mg ("write_program" : Str) = some (.ref (He.fAd K (("write_program" : Str), none)))
  f_write_program : ∃ fd, FnP K ("write_program" : Str) s_write_program (He.fAd K (("write_program" : Str), none)) fd
  g__is_number : mg ("_is_number" : Str) = some (.ref (He.fAd K (("_is_number" : Str), none)))
  f__is_number : ∃ fd, FnP K ("_is_number" : Str) s__is_number (He.fAd K (("_is_number" : Str), none)) fd
  g_are_indexes : mg ("are_indexes" : Str) = some (.ref (He.fAd K (("are_indexes" : Str), none)))
  f_are_indexes : ∃ fd, FnP K ("are_indexes" : Str) s_are_indexes (He.fAd K (("are_indexes" : Str), none)) fd
  g__is_change : mg ("_is_change" : Str) = some (.ref (He.fAd K (("_is_change" : Str), none)))
  f__is_change : ∃ fd, FnP K ("_is_change" : Str) s__is_change (He.fAd K (("_is_change" : Str), none)) fd
  g_are_changes : mg ("are_changes" : Str) = some (.ref (He.fAd K (("are_changes" : Str), none)))
  f_are_changes : ∃ fd, FnP K ("are_changes" : Str) s_are_changes (He.fAd K (("are_changes" : Str), none)) fd
  g__are_ticks : mg ("_are_ticks" : Str) = some (.ref (He.fAd K (("_are_ticks" : Str), none)))
  f__are_ticks : ∃ fd, FnP K ("_are_ticks" : Str) s__are_ticks (He.fAd K (("_are_ticks" : Str), none)) fd
  g_is_shown : mg ("is_shown" : Str) = some (.ref (He.fAd K (("is_shown" : Str), none)))
  f_is_shown : ∃ fd, FnP K ("is_shown" : Str) s_is_shown (He.fAd K (("is_shown" : Str), none)) fd
  g__is_part : mg ("_is_part" : Str) = some (.ref (He.fAd K (("_is_part" : Str), none)))
  f__is_part : ∃ fd, FnP K ("_is_part" : Str) s__is_part (He.fAd K (("_is_part" : Str), none)) fd
  g__are_parts : mg ("_are_parts" : Str) = some (.ref (He.fAd K (("_are_parts" : Str), none)))
  f__are_parts : ∃ fd, FnP K ("_are_parts" : Str) s__are_parts (He.fAd K (("_are_parts" : Str), none)) fd
  g_are_sizes : mg ("are_sizes" : Str) = some (.ref (He.fAd K (("are_sizes" : Str), none)))
  f_are_sizes : ∃ fd, FnP K ("are_sizes" : Str) s_are_sizes (He.fAd K (("are_sizes" : Str), none)) fd
  g__law_made : mg ("_law_made" : Str) = some (.ref (He.fAd K (("_law_made" : Str), none)))
  f__law_made : ∃ fd, FnP K ("_law_made" : Str) s__law_made (He.fAd K (("_law_made" : Str), none)) fd
  g__law_next : mg ("_law_next" : Str) = some (.ref (He.fAd K (("_law_next" : Str), none)))
  f__law_next : ∃ fd, FnP K ("_law_next" : Str) s__law_next (He.fAd K (("_law_next" : Str), none)) fd
  g__law_changes : mg ("_law_changes" : Str) = some (.ref (He.fAd K (("_law_changes" : Str), none)))
  f__law_changes : ∃ fd, FnP K ("_law_changes" : Str) s__law_changes (He.fAd K (("_law_changes" : Str), none)) fd
  g__law_pair : mg ("_law_pair" : Str) = some (.ref (He.fAd K (("_law_pair" : Str), none)))
  f__law_pair : ∃ fd, FnP K ("_law_pair" : Str) s__law_pair (He.fAd K (("_law_pair" : Str), none)) fd
  g__law_data : mg ("_law_data" : Str) = some (.ref (He.fAd K (("_law_data" : Str), none)))
  f__law_data : ∃ fd, FnP K ("_law_data" : Str) s__law_data (He.fAd K (("_law_data" : Str), none)) fd
  g__law_other : mg ("_law_other" : Str) = some (.ref (He.fAd K (("_law_other" : Str), none)))
  f__law_other : ∃ fd, FnP K ("_law_other" : Str) s__law_other (He.fAd K (("_law_other" : Str), none)) fd
  g__take_indexes : mg ("_take_indexes" : Str) = some (.ref (He.fAd K (("_take_indexes" : Str), none)))
  f__take_indexes : ∃ fd, FnP K ("_take_indexes" : Str) s__take_indexes (He.fAd K (("_take_indexes" : Str), none)) fd
  g__take_changes : mg ("_take_changes" : Str) = some (.ref (He.fAd K (("_take_changes" : Str), none)))
  f__take_changes : ∃ fd, FnP K ("_take_changes" : Str) s__take_changes (He.fAd K (("_take_changes" : Str), none)) fd
  g__take_shown : mg ("_take_shown" : Str) = some (.ref (He.fAd K (("_take_shown" : Str), none)))
  f__take_shown : ∃ fd, FnP K ("_take_shown" : Str) s__take_shown (He.fAd K (("_take_shown" : Str), none)) fd
  g__take_part : mg ("_take_part" : Str) = some (.ref (He.fAd K (("_take_part" : Str), none)))
  f__take_part : ∃ fd, FnP K ("_take_part" : Str) s__take_part (He.fAd K (("_take_part" : Str), none)) fd
  g__take_sizes : mg ("_take_sizes" : Str) = some (.ref (He.fAd K (("_take_sizes" : Str), none)))
  f__take_sizes : ∃ fd, FnP K ("_take_sizes" : Str) s__take_sizes (He.fAd K (("_take_sizes" : Str), none)) fd
  g_parse_program : mg ("parse_program" : Str) = some (.ref (He.fAd K (("parse_program" : Str), none)))
  f_parse_program : ∃ fd, FnP K ("parse_program" : Str) s_parse_program (He.fAd K (("parse_program" : Str), none)) fd
  g__law_all : mg ("_law_all" : Str) = some (.ref (He.fAd K (("_law_all" : Str), none)))
  f__law_all : ∃ fd, FnP K ("_law_all" : Str) s__law_all (He.fAd K (("_law_all" : Str), none)) fd
  g__law_text : mg ("_law_text" : Str) = some (.ref (He.fAd K (("_law_text" : Str), none)))
  f__law_text : ∃ fd, FnP K ("_law_text" : Str) s__law_text (He.fAd K (("_law_text" : Str), none)) fd
  g__law_line : mg ("_law_line" : Str) = some (.ref (He.fAd K (("_law_line" : Str), none)))
  f__law_line : ∃ fd, FnP K ("_law_line" : Str) s__law_line (He.fAd K (("_law_line" : Str), none)) fd
  g__law_flat : mg ("_law_flat" : Str) = some (.ref (He.fAd K (("_law_flat" : Str), none)))
  f__law_flat : ∃ fd, FnP K ("_law_flat" : Str) s__law_flat (He.fAd K (("_law_flat" : Str), none)) fd
  g__law_lines : mg ("_law_lines" : Str) = some (.ref (He.fAd K (("_law_lines" : Str), none)))
  f__law_lines : ∃ fd, FnP K ("_law_lines" : Str) s__law_lines (He.fAd K (("_law_lines" : Str), none)) fd
  g_law : mg ("law" : Str) = some (.ref (He.fAd K (("law" : Str), none)))
  f_law : ∃ fd, FnP K ("law" : Str) s_law (He.fAd K (("law" : Str), none)) fd
  tb_are_changes : GxR.TabB base mg (He.cT K (("are_changes" : Str), none)).1 (He.cT K (("are_changes" : Str), none)).2
  ts_are_changes : (He.cT K (("are_changes" : Str), none)).2 ∈ tabs K
  tb__are_ticks : GxR.TabB base mg (He.cT K (("_are_ticks" : Str), none)).1 (He.cT K (("_are_ticks" : Str), none)).2
  ts__are_ticks : (He.cT K (("_are_ticks" : Str), none)).2 ∈ tabs K
  tb_is_shown : GxR.TabB base mg (He.cT K (("is_shown" : Str), none)).1 (He.cT K (("is_shown" : Str), none)).2
  ts_is_shown : (He.cT K (("is_shown" : Str), none)).2 ∈ tabs K
  tb__are_parts : GxR.TabB base mg (He.cT K (("_are_parts" : Str), none)).1 (He.cT K (("_are_parts" : Str), none)).2
  ts__are_parts : (He.cT K (("_are_parts" : Str), none)).2 ∈ tabs K
  tb_are_sizes : GxR.TabB base mg (He.cT K (("are_sizes" : Str), none)).1 (He.cT K (("are_sizes" : Str), none)).2
  ts_are_sizes : (He.cT K (("are_sizes" : Str), none)).2 ∈ tabs K
  tb_Lines_take : GxR.TabB base mg (He.cT K (("Lines" : Str), some ("take" : Str))).1 (He.cT K (("Lines" : Str), some ("take" : Str))).2
  ts_Lines_take : (He.cT K (("Lines" : Str), some ("take" : Str))).2 ∈ tabs K
section
variable {P : Program} {w : World} {K : PySem.W.Frag} {mg : Str → Option Value} {base : Heap}
def m__line (cP : Addr) : MS := (seqS (asgS (fun s => bnd (bnd (bnd (sget s 0) fun x => bnd (pur []) fun r => pur (x :: r)) mkL) fun x => bnd (bnd (compD (fun s => bnd (sget s 1) seqW) (tgN 3) (fun s => pur true) (fun s => bnd (bnd (sget s 3) fun x => bnd (pur []) fun r => pur (x :: r)) strD) [3] s) newL) fun y => addD x y) (tgN 2))
    (seqS (retS fun s => bnd (bnd (pur (.str (" " : Str))) fun x => bnd (tyM "str" x) fun x => bnd (bnd (sget s 2) fun x => bnd (pur []) fun r => pur (x :: r)) (joinD x)) fun x => bnd (pur (.str ("\n" : Str))) fun y => addD x y)
    skipS))
def F__line (cP : Addr) : List D → M D := fnM 2 4 (m__line cP)
theorem sc__line : FnScope [("kind" : Str), ("numbers" : Str), ("words" : Str), ("number" : Str)] [("kind" : Str), ("numbers" : Str)] (defScope s__line) := ⟨rfl, rfl, rfl, by decide +kernel, rfl, by decide +kernel, by decide +kernel⟩
theorem ok__line (F : Fx P w K mg base) {fd : FuncData} (hF : FnP K ("_line" : Str) s__line (He.fAd K (("_line" : Str), none)) fd) : FnOk P w K mg base (L2.CX P w) 1 (He.fAd K (("_line" : Str), none)) fd [("kind" : Str), ("numbers" : Str)] (spD ⟨K, tabs K, DL.fw w⟩ (F__line (He.ga K ("Program" : Str)))) :=
  fn_D (N := [("kind" : Str), ("numbers" : Str), ("words" : Str), ("number" : Str)]) (ps := [("kind" : Str), ("numbers" : Str)]) (k := 0) hF sc__line 2 4 rfl rfl fun A outer s H E hr => by
    apply Exists.intro
    unfold m__line
    exact (dss_cons (ds_set (i := 2) sc__line.nd rfl (by first | exact Or.inl rfl | exact Or.inr rfl) (de_op op_addA opd_addD (de_lst (da_cons (de_var (pv 0)) da_nil)) (de_lcB [(("number" : Str), 3)] rfl sc__line.nd rfl rfl (di_seq (de_var (pv 1))) (fun s H C cl fp => by exact (dg_name (pg_name sc__line.nd rfl (by first | exact Or.inl rfl | exact Or.inr rfl)))) (fun s H C cl fp => by exact dts_nil) (fun s H C cl fp => by exact (de_callTy call_str_int calld_str rfl F.g_str PyProof.Rows.boot_str (da_cons (de_var (pv 3)) da_nil))))))
      (dss_cons (ds_ret (de_op op_addA opd_addD (de_bm (T := "str") (.inr (.inr rfl)) PySem.F.plainAttrs_str PySem.F.slot_str_join PySem.F.type_str_join mt_joinS mtd_join de_str (da_cons (de_var (pv 2)) da_nil)) de_str))
      dss_nil))
theorem own__line (F : Fx P w K mg base) : Own P w K mg base (tabs K) 1 ("_line" : Str) (F__line (He.ga K ("Program" : Str))) := by
  obtain ⟨fd, hF⟩ := F.f__line
  exact ⟨_, fd, _, ok__line F hF, F.g__line, hF.kp, hF.bindsN fun _ _ _ _ _ _ us hl => match us, hl with | [_, _], _ => rfl⟩
def m__changes_line (cP : Addr) : MS := (seqS (retS fun s => bnd (bnd (sget s 0) fun x => bnd (bnd (bnd (comp2D (fun s => bnd (sget s 1) seqW) (tgN 2) (fun s => sget s 2) (tgN 3) (fun s => sget s 3) [2, 3] [3] s) newL) fun x => bnd (pur []) fun r => pur (x :: r)) fun r => pur (x :: r)) (F__line cP))
    skipS)
def F__changes_line (cP : Addr) : List D → M D := fnM 2 4 (m__changes_line cP)
theorem sc__changes_line : FnScope [("kind" : Str), ("changes" : Str), ("change" : Str), ("number" : Str)] [("kind" : Str), ("changes" : Str)] (defScope s__changes_line) := ⟨rfl, rfl, rfl, by decide +kernel, rfl, by decide +kernel, by decide +kernel⟩
theorem ok__changes_line (F : Fx P w K mg base) {fd : FuncData} (hF : FnP K ("_changes_line" : Str) s__changes_line (He.fAd K (("_changes_line" : Str), none)) fd) : FnOk P w K mg base (L2.CX P w) 2 (He.fAd K (("_changes_line" : Str), none)) fd [("kind" : Str), ("changes" : Str)] (spD ⟨K, tabs K, DL.fw w⟩ (F__changes_line (He.ga K ("Program" : Str)))) :=
  fn_D (N := [("kind" : Str), ("changes" : Str), ("change" : Str), ("number" : Str)]) (ps := [("kind" : Str), ("changes" : Str)]) (k := 1) hF sc__changes_line 2 4 rfl rfl fun A outer s H E hr => by
    apply Exists.intro
    unfold m__changes_line
    exact (dss_cons (ds_ret (de_own (own__line F) (hr.mono (by decide)) rfl psE_of (da_cons (de_var (pv 0)) (da_cons (de_lc2B (vs1 := [3]) [(("change" : Str), 2), (("number" : Str), 3)] rfl sc__changes_line.nd rfl rfl (by decide) (di_seq (de_var (pv 1))) (fun s H C cl fp => by exact (DG.up (dg_name (pg_name sc__changes_line.nd rfl (by first | exact Or.inl rfl | exact Or.inr rfl))) (by decide))) (fun s H C cl fp => by exact (de_var (pv 2))) (fun s H C cl fp => by exact (dg_name (pg_name sc__changes_line.nd rfl (by first | exact Or.inl rfl | exact Or.inr rfl)))) (fun s H C cl fp => by exact (de_var (pv 3)))) da_nil))))
      dss_nil)
theorem own__changes_line (F : Fx P w K mg base) : Own P w K mg base (tabs K) 2 ("_changes_line" : Str) (F__changes_line (He.ga K ("Program" : Str))) := by
  obtain ⟨fd, hF⟩ := F.f__changes_line
  exact ⟨_, fd, _, ok__changes_line F hF, F.g__changes_line, hF.kp, hF.bindsN fun _ _ _ _ _ _ us hl => match us, hl with | [_, _], _ => rfl⟩
def m__shown_line (cP : Addr) : MS := (seqS (asgS (fun s => sget s 1) (tgT2 2 3))
    (seqS (retS fun s => bnd (bnd (sget s 0) fun x => bnd (bnd (bnd (bnd (sget s 2) fun x => bnd (bnd (sget s 3) fun x => bnd (starD x) fun xs => bnd (pur []) fun r => pur (xs ++ r)) fun r => pur (x :: r)) mkT) fun x => bnd (pur []) fun r => pur (x :: r)) fun r => pur (x :: r)) (F__line cP))
    skipS))
def F__shown_line (cP : Addr) : List D → M D := fnM 2 4 (m__shown_line cP)
theorem sc__shown_line : FnScope [("kind" : Str), ("pair" : Str), ("variable" : Str), ("table" : Str)] [("kind" : Str), ("pair" : Str)] (defScope s__shown_line) := ⟨rfl, rfl, rfl, by decide +kernel, rfl, by decide +kernel, by decide +kernel⟩
theorem ok__shown_line (F : Fx P w K mg base) {fd : FuncData} (hF : FnP K ("_shown_line" : Str) s__shown_line (He.fAd K (("_shown_line" : Str), none)) fd) : FnOk P w K mg base (L2.CX P w) 2 (He.fAd K (("_shown_line" : Str), none)) fd [("kind" : Str), ("pair" : Str)] (spD ⟨K, tabs K, DL.fw w⟩ (F__shown_line (He.ga K ("Program" : Str)))) :=
  fn_D (N := [("kind" : Str), ("pair" : Str), ("variable" : Str), ("table" : Str)]) (ps := [("kind" : Str), ("pair" : Str)]) (k := 1) hF sc__shown_line 2 4 rfl rfl fun A outer s H E hr => by
    apply Exists.intro
    unfold m__shown_line
    exact (dss_cons (ds_asg (de_var (pv 1)) (dg_tup2 (pg_tup rfl (pgs_cons (pg_name sc__shown_line.nd rfl (by first | exact Or.inl rfl | exact Or.inr rfl)) (pgs_cons (pg_name sc__shown_line.nd rfl (by first | exact Or.inl rfl | exact Or.inr rfl)) pgs_nil)))))
      (dss_cons (ds_ret (de_own (own__line F) (hr.mono (by decide)) rfl psE_of (da_cons (de_var (pv 0)) (da_cons (de_tup (da_cons (de_var (pv 2)) (da_star (de_var (pv 3)) da_nil))) da_nil))))
      dss_nil))
theorem own__shown_line (F : Fx P w K mg base) : Own P w K mg base (tabs K) 2 ("_shown_line" : Str) (F__shown_line (He.ga K ("Program" : Str))) := by
  obtain ⟨fd, hF⟩ := F.f__shown_line
  exact ⟨_, fd, _, ok__shown_line F hF, F.g__shown_line, hF.kp, hF.bindsN fun _ _ _ _ _ _ us hl => match us, hl with | [_, _], _ => rfl⟩
def m__part_lines (cP : Addr) (kP : Ks) : MS := (seqS (asgS (fun s => sget s 0) (tgT3 1 2 3))
    (seqS (asgS (fun s => bnd (bnd (bnd (bnd (pur (.str ("part" : Str))) fun x => bnd (bnd (bnd (pur []) mkT) fun x => bnd (pur []) fun r => pur (x :: r)) fun r => pur (x :: r)) (F__line cP)) fun x => bnd (bnd (bnd (bnd (pur (.str ("look" : Str))) fun x => bnd (bnd (sget s 1) fun x => bnd (pur []) fun r => pur (x :: r)) fun r => pur (x :: r)) (F__shown_line cP)) fun x => bnd (bnd (bnd (bnd (pur (.str ("word" : Str))) fun x => bnd (bnd (sget s 2) fun x => bnd (pur []) fun r => pur (x :: r)) fun r => pur (x :: r)) (F__shown_line cP)) fun x => bnd (pur []) fun r => pur (x :: r)) fun r => pur (x :: r)) fun r => pur (x :: r)) mkL) (tgN 4))
    (seqS (ifS (fun s => bnd (bnd (sget s 3) fun x => bnd (pur .non) fun y => (isNoneD true) x y) asB) (seqS (dropS fun s => bnd (sget s 4) fun x => bnd (tyM "list" x) fun x => bnd (bnd (bnd (bnd (pur (.str ("press" : Str))) fun x => bnd (bnd (sget s 3) fun x => bnd (pur []) fun r => pur (x :: r)) fun r => pur (x :: r)) (F__changes_line cP)) fun x => bnd (pur []) fun r => pur (x :: r)) (appendD x))
    skipS) skipS)
    (seqS (retS fun s => sget s 4)
    skipS))))
def F__part_lines (cP : Addr) (kP : Ks) : List D → M D := fnM 1 5 (m__part_lines cP kP)
theorem sc__part_lines : FnScope [("part" : Str), ("look" : Str), ("word" : Str), ("press" : Str), ("lines" : Str)] [("part" : Str)] (defScope s__part_lines) := ⟨rfl, rfl, rfl, by decide +kernel, rfl, by decide +kernel, by decide +kernel⟩
theorem ok__part_lines (F : Fx P w K mg base) {fd : FuncData} (hF : FnP K ("_part_lines" : Str) s__part_lines (He.fAd K (("_part_lines" : Str), none)) fd) : FnOk P w K mg base (L2.CX P w) 3 (He.fAd K (("_part_lines" : Str), none)) fd [("part" : Str)] (spD ⟨K, tabs K, DL.fw w⟩ (F__part_lines (He.ga K ("Program" : Str)) (ks K w))) :=
  fn_D (N := [("part" : Str), ("look" : Str), ("word" : Str), ("press" : Str), ("lines" : Str)]) (ps := [("part" : Str)]) (k := 2) hF sc__part_lines 1 5 rfl rfl fun A outer s H E hr => by
    apply Exists.intro
    unfold m__part_lines
    exact (dss_cons (ds_asg (de_var (pv 0)) (dg_tup3 (pg_tup rfl (pgs_cons (pg_name sc__part_lines.nd rfl (by first | exact Or.inl rfl | exact Or.inr rfl)) (pgs_cons (pg_name sc__part_lines.nd rfl (by first | exact Or.inl rfl | exact Or.inr rfl)) (pgs_cons (pg_name sc__part_lines.nd rfl (by first | exact Or.inl rfl | exact Or.inr rfl)) pgs_nil))))))
      (dss_cons (ds_set (i := 4) sc__part_lines.nd rfl (by first | exact Or.inl rfl | exact Or.inr rfl) (de_lst (da_cons (de_own (own__line F) (hr.mono (by decide)) rfl psE_of (da_cons de_str (da_cons (de_tup da_nil) da_nil))) (da_cons (de_own (own__shown_line F) (hr.mono (by decide)) rfl psE_of (da_cons de_str (da_cons (de_var (pv 1)) da_nil))) (da_cons (de_own (own__shown_line F) (hr.mono (by decide)) rfl psE_of (da_cons de_str (da_cons (de_var (pv 2)) da_nil))) da_nil)))))
      (dss_cons (ds_if (dt_cmp op_notN opd_notN (de_var (pv 3)) de_non (nomark _)) (dss_cons (ds_expr (de_bm (T := "list") (.inl rfl) PySem.F.plainAttrs_list PySem.F.slot_list_append PySem.F.type_list_append mt_append mtd_append (de_var (pv 4)) (da_cons (de_own (own__changes_line F) (hr.mono (by decide)) rfl psE_of (da_cons de_str (da_cons (de_var (pv 3)) da_nil))) da_nil)))
      dss_nil) dss_nil)
      (dss_cons (ds_ret (de_var (pv 4)))
      dss_nil))))
theorem own__part_lines (F : Fx P w K mg base) : Own P w K mg base (tabs K) 3 ("_part_lines" : Str) (F__part_lines (He.ga K ("Program" : Str)) (ks K w)) := by
  obtain ⟨fd, hF⟩ := F.f__part_lines
  exact ⟨_, fd, _, ok__part_lines F hF, F.g__part_lines, hF.kp, hF.bindsN fun _ _ _ _ _ _ us hl => match us, hl with | [_], _ => rfl⟩
def m_write_program (cP : Addr) (kP : Ks) : MS := (seqS (asgS (fun s => bnd (bnd (bnd (bnd (pur (.str ("sizes" : Str))) fun x => bnd (bnd (bnd (sget s 0) (fldD cP ("sizes" : Str))) fun x => bnd (pur []) fun r => pur (x :: r)) fun r => pur (x :: r)) (F__line cP)) fun x => bnd (pur []) fun r => pur (x :: r)) mkL) (tgN 1))
    (seqS (forS (fun s => bnd (bnd (sget s 0) (fldD cP ("parts" : Str))) seqW) (tgN 2) (seqS (dropS fun s => bnd (sget s 1) fun x => bnd (tyM "list" x) fun x => bnd (bnd (bnd (bnd (sget s 2) fun x => bnd (pur []) fun r => pur (x :: r)) (F__part_lines cP kP)) fun x => bnd (pur []) fun r => pur (x :: r)) (extendD x))
    skipS))
    (seqS (dropS fun s => bnd (sget s 1) fun x => bnd (tyM "list" x) fun x => bnd (bnd (bnd (compD (fun s => bnd (bnd (sget s 0) (fldD cP ("ticks" : Str))) seqW) (tgN 3) (fun s => pur true) (fun s => bnd (bnd (pur (.str ("tick" : Str))) fun x => bnd (bnd (sget s 3) fun x => bnd (pur []) fun r => pur (x :: r)) fun r => pur (x :: r)) (F__changes_line cP)) [3] s) newL) fun x => bnd (pur []) fun r => pur (x :: r)) (extendD x))
    (seqS (ifS (fun s => bnd (bnd (sget s 0) (fldD cP ("live" : Str))) truM) (seqS (dropS fun s => bnd (sget s 1) fun x => bnd (tyM "list" x) fun x => bnd (bnd (bnd (bnd (pur (.str ("live" : Str))) fun x => bnd (bnd (bnd (sget s 0) (fldD cP ("live" : Str))) fun x => bnd (pur []) fun r => pur (x :: r)) fun r => pur (x :: r)) (F__line cP)) fun x => bnd (pur []) fun r => pur (x :: r)) (appendD x))
    skipS) skipS)
    (seqS (ifS (fun s => bnd (bnd (sget s 0) (fldD cP ("skips" : Str))) truM) (seqS (dropS fun s => bnd (sget s 1) fun x => bnd (tyM "list" x) fun x => bnd (bnd (bnd (bnd (pur (.str ("skips" : Str))) fun x => bnd (bnd (bnd (sget s 0) (fldD cP ("skips" : Str))) fun x => bnd (pur []) fun r => pur (x :: r)) fun r => pur (x :: r)) (F__line cP)) fun x => bnd (pur []) fun r => pur (x :: r)) (appendD x))
    skipS) skipS)
    (seqS (retS fun s => bnd (pur (.str ("" : Str))) fun x => bnd (tyM "str" x) fun x => bnd (bnd (sget s 1) fun x => bnd (pur []) fun r => pur (x :: r)) (joinD x))
    skipS))))))
def F_write_program (cP : Addr) (kP : Ks) : List D → M D := fnM 1 4 (m_write_program cP kP)
theorem sc_write_program : FnScope [("program" : Str), ("lines" : Str), ("part" : Str), ("changes" : Str)] [("program" : Str)] (defScope s_write_program) := ⟨rfl, rfl, rfl, by decide +kernel, rfl, by decide +kernel, by decide +kernel⟩
theorem ok_write_program (F : Fx P w K mg base) {fd : FuncData} (hF : FnP K ("write_program" : Str) s_write_program (He.fAd K (("write_program" : Str), none)) fd) : FnOk P w K mg base (L2.CX P w) 4 (He.fAd K (("write_program" : Str), none)) fd [("program" : Str)] (spD ⟨K, tabs K, DL.fw w⟩ (F_write_program (He.ga K ("Program" : Str)) (ks K w))) :=
  fn_D (N := [("program" : Str), ("lines" : Str), ("part" : Str), ("changes" : Str)]) (ps := [("program" : Str)]) (k := 3) hF sc_write_program 1 4 rfl rfl fun A outer s H E hr => by
    apply Exists.intro
    unfold m_write_program
    exact (dss_cons (ds_set (i := 1) sc_write_program.nd rfl (by first | exact Or.inl rfl | exact Or.inr rfl) (de_lst (da_cons (de_own (own__line F) (hr.mono (by decide)) rfl psE_of (da_cons de_str (da_cons (de_fld F.cls F.no_sizes (de_var (pv 0))) da_nil))) da_nil)))
      (dss_cons (ds_for pown_of rfl (di_seq (de_fld F.cls F.no_parts (de_var (pv 0)))) (dg_name (pg_name sc_write_program.nd rfl (by first | exact Or.inl rfl | exact Or.inr rfl))) (dss_cons (ds_expr (de_bm (T := "list") (.inl rfl) PySem.F.plainAttrs_list PySem.F.slot_list_extend PySem.F.type_list_extend mt_extend mtd_extend (de_var (pv 1)) (da_cons (de_own (own__part_lines F) (hr.mono (by decide)) rfl psE_of (da_cons (de_var (pv 2)) da_nil)) da_nil)))
      dss_nil))
      (dss_cons (ds_expr (de_bm (T := "list") (.inl rfl) PySem.F.plainAttrs_list PySem.F.slot_list_extend PySem.F.type_list_extend mt_extend mtd_extend (de_var (pv 1)) (da_cons (de_lcB [(("changes" : Str), 3)] rfl sc_write_program.nd rfl rfl (di_seq (de_fld F.cls F.no_ticks (de_var (pv 0)))) (fun s H C cl fp => by exact (dg_name (pg_name sc_write_program.nd rfl (by first | exact Or.inl rfl | exact Or.inr rfl)))) (fun s H C cl fp => by exact dts_nil) (fun s H C cl fp => by exact (de_own (own__changes_line F) (hr.mono (by decide)) rfl psE0 (da_cons de_str (da_cons (de_var (pv 3)) da_nil))))) da_nil)))
      (dss_cons (ds_if (dt_tru (de_fld F.cls F.no_live (de_var (pv 0)))) (dss_cons (ds_expr (de_bm (T := "list") (.inl rfl) PySem.F.plainAttrs_list PySem.F.slot_list_append PySem.F.type_list_append mt_append mtd_append (de_var (pv 1)) (da_cons (de_own (own__line F) (hr.mono (by decide)) rfl psE_of (da_cons de_str (da_cons (de_fld F.cls F.no_live (de_var (pv 0))) da_nil))) da_nil)))
      dss_nil) dss_nil)
      (dss_cons (ds_if (dt_tru (de_fld F.cls F.no_skips (de_var (pv 0)))) (dss_cons (ds_expr (de_bm (T := "list") (.inl rfl) PySem.F.plainAttrs_list PySem.F.slot_list_append PySem.F.type_list_append mt_append mtd_append (de_var (pv 1)) (da_cons (de_own (own__line F) (hr.mono (by decide)) rfl psE_of (da_cons de_str (da_cons (de_fld F.cls F.no_skips (de_var (pv 0))) da_nil))) da_nil)))
      dss_nil) dss_nil)
      (dss_cons (ds_ret (de_bm (T := "str") (.inr (.inr rfl)) PySem.F.plainAttrs_str PySem.F.slot_str_join PySem.F.type_str_join mt_joinS mtd_join de_str (da_cons (de_var (pv 1)) da_nil)))
      dss_nil))))))
theorem own_write_program (F : Fx P w K mg base) : Own P w K mg base (tabs K) 4 ("write_program" : Str) (F_write_program (He.ga K ("Program" : Str)) (ks K w)) := by
  obtain ⟨fd, hF⟩ := F.f_write_program
  exact ⟨_, fd, _, ok_write_program F hF, F.g_write_program, hF.kp, hF.bindsN fun _ _ _ _ _ _ us hl => match us, hl with | [_], _ => rfl⟩
def m__is_number (cP : Addr) : MS := (seqS (ifS (fun s => bnd (bnd (bnd (bnd (sget s 0) fun x => bnd (bnd (pur (.ty "bool")) fun x => bnd (pur []) fun r => pur (x :: r)) fun r => pur (x :: r)) (isiD "bool")) truM) fun x => if x then pur true else bnd (bnd (bnd (bnd (sget s 0) fun x => bnd (bnd (pur (.ty "int")) fun x => bnd (pur []) fun r => pur (x :: r)) fun r => pur (x :: r)) (isiD "int")) truM) fun b => pur (!b)) (seqS (retS fun s => pur (.bl false))
    skipS) skipS)
    (seqS (retS fun s => bnd (sget s 1) fun x => bnd (sget s 0) fun y => bnd (leI x y) fun d => bnd (asB d) fun k => if k then bnd (sget s 2) (fun z => leI y z) else pur (.bl false))
    skipS))
def F__is_number (cP : Addr) : List D → M D := fnM 3 3 (m__is_number cP)
theorem sc__is_number : FnScope [("found" : Str), ("low" : Str), ("high" : Str)] [("found" : Str), ("low" : Str), ("high" : Str)] (defScope s__is_number) := ⟨rfl, rfl, rfl, by decide +kernel, rfl, by decide +kernel, by decide +kernel⟩
theorem ok__is_number (F : Fx P w K mg base) {fd : FuncData} (hF : FnP K ("_is_number" : Str) s__is_number (He.fAd K (("_is_number" : Str), none)) fd) : FnOk P w K mg base (L2.CX P w) 1 (He.fAd K (("_is_number" : Str), none)) fd [("found" : Str), ("low" : Str), ("high" : Str)] (spD ⟨K, tabs K, DL.fw w⟩ (F__is_number (He.ga K ("Program" : Str)))) :=
  fn_D (N := [("found" : Str), ("low" : Str), ("high" : Str)]) (ps := [("found" : Str), ("low" : Str), ("high" : Str)]) (k := 0) hF sc__is_number 3 3 rfl rfl fun A outer s H E hr => by
    apply Exists.intro
    unfold m__is_number
    exact (dss_cons (ds_if (DW.dt (dw_or (dt_tru (de_callB call_isi (calld_isi (T := "bool")) rfl F.g_isinstance PyProof.Rows.boot_isinstance (da_cons (de_var (pv 0)) (da_cons (de_ty rfl F.g_bool PyProof.Rows.boot_bool) da_nil)))) (dw_or1 (dt_not (dt_tru (de_callB call_isi (calld_isi (T := "int")) rfl F.g_isinstance PyProof.Rows.boot_isinstance (da_cons (de_var (pv 0)) (da_cons (de_ty rfl F.g_int PyProof.Rows.boot_int) da_nil)))))))) (dss_cons (ds_ret de_bl)
      dss_nil) dss_nil)
      (dss_cons (ds_ret (de_chain op_le op_le opd_leI opd_leI (de_var (pv 1)) (de_var (pv 0)) (de_var (pv 2))))
      dss_nil))
theorem own__is_number (F : Fx P w K mg base) : Own P w K mg base (tabs K) 1 ("_is_number" : Str) (F__is_number (He.ga K ("Program" : Str))) := by
  obtain ⟨fd, hF⟩ := F.f__is_number
  exact ⟨_, fd, _, ok__is_number F hF, F.g__is_number, hF.kp, hF.bindsN fun _ _ _ _ _ _ us hl => match us, hl with | [_, _, _], _ => rfl⟩
def m_are_indexes (cP : Addr) : MS := (seqS (asgS (fun s => pur (.int 0)) (tgN 2))
    (seqS (forS (fun s => bnd (sget s 1) seqW) (tgN 3) (seqS (ifS (fun s => bnd (bnd (bnd (bnd (sget s 3) fun x => bnd (bnd (sget s 2) fun x => bnd (bnd (bnd (sget s 0) fun x => bnd (pur (.int 1)) fun y => subI x y) fun x => bnd (pur []) fun r => pur (x :: r)) fun r => pur (x :: r)) fun r => pur (x :: r)) (F__is_number cP)) truM) fun b => pur (!b)) (seqS (retS fun s => pur (.bl false))
    skipS) skipS)
    (seqS (asgS (fun s => bnd (sget s 3) fun x => bnd (pur (.int 1)) fun y => addD x y) (tgN 2))
    skipS)))
    (seqS (retS fun s => pur (.bl true))
    skipS)))
def F_are_indexes (cP : Addr) : List D → M D := fnM 2 4 (m_are_indexes cP)
theorem sc_are_indexes : FnScope [("many" : Str), ("indexes" : Str), ("low" : Str), ("index" : Str)] [("many" : Str), ("indexes" : Str)] (defScope s_are_indexes) := ⟨rfl, rfl, rfl, by decide +kernel, rfl, by decide +kernel, by decide +kernel⟩
theorem ok_are_indexes (F : Fx P w K mg base) {fd : FuncData} (hF : FnP K ("are_indexes" : Str) s_are_indexes (He.fAd K (("are_indexes" : Str), none)) fd) : FnOk P w K mg base (L2.CX P w) 2 (He.fAd K (("are_indexes" : Str), none)) fd [("many" : Str), ("indexes" : Str)] (spD ⟨K, tabs K, DL.fw w⟩ (F_are_indexes (He.ga K ("Program" : Str)))) :=
  fn_D (N := [("many" : Str), ("indexes" : Str), ("low" : Str), ("index" : Str)]) (ps := [("many" : Str), ("indexes" : Str)]) (k := 1) hF sc_are_indexes 2 4 rfl rfl fun A outer s H E hr => by
    apply Exists.intro
    unfold m_are_indexes
    exact (dss_cons (ds_set (i := 2) sc_are_indexes.nd rfl (by first | exact Or.inl rfl | exact Or.inr rfl) de_int)
      (dss_cons (ds_for pown_of rfl (di_seq (de_var (pv 1))) (dg_name (pg_name sc_are_indexes.nd rfl (by first | exact Or.inl rfl | exact Or.inr rfl))) (dss_cons (ds_if (dt_not (dt_tru (de_own (own__is_number F) (hr.mono (by decide)) rfl psE_of (da_cons (de_var (pv 3)) (da_cons (de_var (pv 2)) (da_cons (de_op op_sub opd_subI (de_var (pv 0)) de_int) da_nil)))))) (dss_cons (ds_ret de_bl)
      dss_nil) dss_nil)
      (dss_cons (ds_set (i := 2) sc_are_indexes.nd rfl (by first | exact Or.inl rfl | exact Or.inr rfl) (de_op op_addA opd_addD (de_var (pv 3)) de_int))
      dss_nil)))
      (dss_cons (ds_ret de_bl)
      dss_nil)))
theorem own_are_indexes (F : Fx P w K mg base) : Own P w K mg base (tabs K) 2 ("are_indexes" : Str) (F_are_indexes (He.ga K ("Program" : Str))) := by
  obtain ⟨fd, hF⟩ := F.f_are_indexes
  exact ⟨_, fd, _, ok_are_indexes F hF, F.g_are_indexes, hF.kp, hF.bindsN fun _ _ _ _ _ _ us hl => match us, hl with | [_, _], _ => rfl⟩
def m__is_change (cP : Addr) : MS := (seqS (asgS (fun s => sget s 1) (tgT2 2 3))
    (seqS (retS fun s => bnd (bnd (bnd (sget s 2) fun x => bnd (bnd (pur (.int 0)) fun x => bnd (bnd (bnd (bnd (bnd (sget s 0) fun x => bnd (pur []) fun r => pur (x :: r)) lenD) fun x => bnd (pur (.int 1)) fun y => subI x y) fun x => bnd (pur []) fun r => pur (x :: r)) fun r => pur (x :: r)) fun r => pur (x :: r)) (F__is_number cP)) fun d => bnd (asB d) fun x => if x then bnd (bnd (sget s 3) fun x => bnd (bnd (pur (.int 1)) fun x => bnd (bnd (pur (.int 3)) fun x => bnd (pur []) fun r => pur (x :: r)) fun r => pur (x :: r)) fun r => pur (x :: r)) (F__is_number cP) else pur (.bl false))
    skipS))
def F__is_change (cP : Addr) : List D → M D := fnM 2 4 (m__is_change cP)
theorem sc__is_change : FnScope [("sizes" : Str), ("change" : Str), ("variable" : Str), ("add" : Str)] [("sizes" : Str), ("change" : Str)] (defScope s__is_change) := ⟨rfl, rfl, rfl, by decide +kernel, rfl, by decide +kernel, by decide +kernel⟩
theorem ok__is_change (F : Fx P w K mg base) {fd : FuncData} (hF : FnP K ("_is_change" : Str) s__is_change (He.fAd K (("_is_change" : Str), none)) fd) : FnOk P w K mg base (L2.CX P w) 2 (He.fAd K (("_is_change" : Str), none)) fd [("sizes" : Str), ("change" : Str)] (spD ⟨K, tabs K, DL.fw w⟩ (F__is_change (He.ga K ("Program" : Str)))) :=
  fn_D (N := [("sizes" : Str), ("change" : Str), ("variable" : Str), ("add" : Str)]) (ps := [("sizes" : Str), ("change" : Str)]) (k := 1) hF sc__is_change 2 4 rfl rfl fun A outer s H E hr => by
    apply Exists.intro
    unfold m__is_change
    exact (dss_cons (ds_asg (de_var (pv 1)) (dg_tup2 (pg_tup rfl (pgs_cons (pg_name sc__is_change.nd rfl (by first | exact Or.inl rfl | exact Or.inr rfl)) (pgs_cons (pg_name sc__is_change.nd rfl (by first | exact Or.inl rfl | exact Or.inr rfl)) pgs_nil)))))
      (dss_cons (ds_ret (de_and (de_own (own__is_number F) (hr.mono (by decide)) rfl psE_of (da_cons (de_var (pv 2)) (da_cons de_int (da_cons (de_op op_sub opd_subI (de_callB call_len_seq calld_len rfl F.g_len boot_len (da_cons (de_var (pv 0)) da_nil)) de_int) da_nil)))) (de_one (de_own (own__is_number F) (hr.mono (by decide)) rfl psE_of (da_cons (de_var (pv 3)) (da_cons de_int (da_cons de_int da_nil)))))))
      dss_nil))
theorem own__is_change (F : Fx P w K mg base) : Own P w K mg base (tabs K) 2 ("_is_change" : Str) (F__is_change (He.ga K ("Program" : Str))) := by
  obtain ⟨fd, hF⟩ := F.f__is_change
  exact ⟨_, fd, _, ok__is_change F hF, F.g__is_change, hF.kp, hF.bindsN fun _ _ _ _ _ _ us hl => match us, hl with | [_, _], _ => rfl⟩
def m_are_changes (cP : Addr) : MS := (seqS (retS fun s => bnd (bnd (pur (.int 1)) fun x => bnd (bnd (bnd (sget s 1) fun x => bnd (pur []) fun r => pur (x :: r)) lenD) fun y => bnd (leI x y) fun d => bnd (asB d) fun k => if k then bnd (pur (.int 3)) (fun z => leI y z) else pur (.bl false)) fun d => bnd (asB d) fun x => if x then genD (fun s => bnd (sget s 1) seqW) (tgN 2) (fun s => bnd (bnd (sget s 0) fun x => bnd (bnd (sget s 2) fun x => bnd (pur []) fun r => pur (x :: r)) fun r => pur (x :: r)) (F__is_change cP)) false [2] s else pur (.bl false))
    skipS)
def F_are_changes (cP : Addr) : List D → M D := fnM 2 3 (m_are_changes cP)
theorem sc_are_changes : FnScope [("sizes" : Str), ("changes" : Str), ("change" : Str)] [("sizes" : Str), ("changes" : Str)] (defScope s_are_changes) := ⟨rfl, rfl, rfl, by decide +kernel, rfl, by decide +kernel, by decide +kernel⟩
theorem ok_are_changes (F : Fx P w K mg base) {fd : FuncData} (hF : FnP K ("are_changes" : Str) s_are_changes (He.fAd K (("are_changes" : Str), none)) fd) : FnOk P w K mg base (L2.CX P w) 6 (He.fAd K (("are_changes" : Str), none)) fd [("sizes" : Str), ("changes" : Str)] (spD ⟨K, tabs K, DL.fw w⟩ (F_are_changes (He.ga K ("Program" : Str)))) :=
  fn_D (N := [("sizes" : Str), ("changes" : Str), ("change" : Str)]) (ps := [("sizes" : Str), ("changes" : Str)]) (k := 5) hF sc_are_changes 2 3 rfl rfl fun A outer s H E hr => by
    apply Exists.intro
    unfold m_are_changes
    exact (dss_cons (ds_ret (de_and (de_chain op_le op_le opd_leI opd_leI de_int (de_callB call_len_seq calld_len rfl F.g_len boot_len (da_cons (de_var (pv 1)) da_nil)) de_int) (de_one (de_allB [(("change" : Str), 2)] 2 (hr.mono (by decide)) rfl F.g_all F.tb_are_changes rfl F.ts_are_changes rfl sc_are_changes.nd rfl rfl rfl (di_seq (de_var (pv 1))) (fun s H C cl code fp pn => by exact (dg_name (pg_name sc_are_changes.nd rfl (by first | exact Or.inl rfl | exact Or.inr rfl)))) (fun s H C cl code fp pn hr => by exact (de_own (own__is_change F) (hr.mono (by decide)) rfl psE0 (da_cons (de_var (pv 0)) (da_cons (de_var (pv 2)) da_nil))))))))
      dss_nil)
theorem own_are_changes (F : Fx P w K mg base) : Own P w K mg base (tabs K) 6 ("are_changes" : Str) (F_are_changes (He.ga K ("Program" : Str))) := by
  obtain ⟨fd, hF⟩ := F.f_are_changes
  exact ⟨_, fd, _, ok_are_changes F hF, F.g_are_changes, hF.kp, hF.bindsN fun _ _ _ _ _ _ us hl => match us, hl with | [_, _], _ => rfl⟩
def m__are_ticks (cP : Addr) : MS := (seqS (retS fun s => bnd (bnd (bnd (bnd (sget s 1) fun x => bnd (pur []) fun r => pur (x :: r)) lenD) fun x => bnd (pur (.int 2)) fun y => leI x y) fun d => bnd (asB d) fun x => if x then genD (fun s => bnd (sget s 1) seqW) (tgN 2) (fun s => bnd (bnd (sget s 0) fun x => bnd (bnd (sget s 2) fun x => bnd (pur []) fun r => pur (x :: r)) fun r => pur (x :: r)) (F_are_changes cP)) false [2] s else pur (.bl false))
    skipS)
def F__are_ticks (cP : Addr) : List D → M D := fnM 2 3 (m__are_ticks cP)
theorem sc__are_ticks : FnScope [("sizes" : Str), ("ticks" : Str), ("tick" : Str)] [("sizes" : Str), ("ticks" : Str)] (defScope s__are_ticks) := ⟨rfl, rfl, rfl, by decide +kernel, rfl, by decide +kernel, by decide +kernel⟩
theorem ok__are_ticks (F : Fx P w K mg base) {fd : FuncData} (hF : FnP K ("_are_ticks" : Str) s__are_ticks (He.fAd K (("_are_ticks" : Str), none)) fd) : FnOk P w K mg base (L2.CX P w) 10 (He.fAd K (("_are_ticks" : Str), none)) fd [("sizes" : Str), ("ticks" : Str)] (spD ⟨K, tabs K, DL.fw w⟩ (F__are_ticks (He.ga K ("Program" : Str)))) :=
  fn_D (N := [("sizes" : Str), ("ticks" : Str), ("tick" : Str)]) (ps := [("sizes" : Str), ("ticks" : Str)]) (k := 9) hF sc__are_ticks 2 3 rfl rfl fun A outer s H E hr => by
    apply Exists.intro
    unfold m__are_ticks
    exact (dss_cons (ds_ret (de_and (de_cmp op_le opd_leI (de_callB call_len_seq calld_len rfl F.g_len boot_len (da_cons (de_var (pv 1)) da_nil)) (de_globI rfl F.c_MOST_TICKS) (nomark _)) (de_one (de_allB [(("tick" : Str), 2)] 6 (hr.mono (by decide)) rfl F.g_all F.tb__are_ticks rfl F.ts__are_ticks rfl sc__are_ticks.nd rfl rfl rfl (di_seq (de_var (pv 1))) (fun s H C cl code fp pn => by exact (dg_name (pg_name sc__are_ticks.nd rfl (by first | exact Or.inl rfl | exact Or.inr rfl)))) (fun s H C cl code fp pn hr => by exact (de_own (own_are_changes F) (hr.mono (by decide)) rfl psE0 (da_cons (de_var (pv 0)) (da_cons (de_var (pv 2)) da_nil))))))))
      dss_nil)
theorem own__are_ticks (F : Fx P w K mg base) : Own P w K mg base (tabs K) 10 ("_are_ticks" : Str) (F__are_ticks (He.ga K ("Program" : Str))) := by
  obtain ⟨fd, hF⟩ := F.f__are_ticks
  exact ⟨_, fd, _, ok__are_ticks F hF, F.g__are_ticks, hF.kp, hF.bindsN fun _ _ _ _ _ _ us hl => match us, hl with | [_, _], _ => rfl⟩
def m_is_shown (cP : Addr) : MS := (seqS (asgS (fun s => sget s 1) (tgT2 2 3))
    (seqS (ifS (fun s => bnd (bnd (bnd (bnd (sget s 2) fun x => bnd (bnd (pur (.int 0)) fun x => bnd (bnd (bnd (bnd (bnd (sget s 0) fun x => bnd (pur []) fun r => pur (x :: r)) lenD) fun x => bnd (pur (.int 1)) fun y => subI x y) fun x => bnd (pur []) fun r => pur (x :: r)) fun r => pur (x :: r)) fun r => pur (x :: r)) (F__is_number cP)) truM) fun b => pur (!b)) (seqS (retS fun s => pur (.bl false))
    skipS) skipS)
    (seqS (retS fun s => bnd (bnd (bnd (bnd (sget s 3) fun x => bnd (pur []) fun r => pur (x :: r)) lenD) fun x => bnd (bnd (sget s 0) fun x => bnd (sget s 2) fun y => ixD x y) fun y => eqD x y) fun d => bnd (asB d) fun x => if x then genD (fun s => bnd (sget s 3) seqW) (tgN 4) (fun s => bnd (bnd (sget s 4) fun x => bnd (bnd (pur (.int 0)) fun x => bnd (bnd (pur (.int 7)) fun x => bnd (pur []) fun r => pur (x :: r)) fun r => pur (x :: r)) fun r => pur (x :: r)) (F__is_number cP)) false [4] s else pur (.bl false))
    skipS)))
def F_is_shown (cP : Addr) : List D → M D := fnM 2 5 (m_is_shown cP)
theorem sc_is_shown : FnScope [("sizes" : Str), ("pair" : Str), ("variable" : Str), ("table" : Str), ("entry" : Str)] [("sizes" : Str), ("pair" : Str)] (defScope s_is_shown) := ⟨rfl, rfl, rfl, by decide +kernel, rfl, by decide +kernel, by decide +kernel⟩
theorem ok_is_shown (F : Fx P w K mg base) {fd : FuncData} (hF : FnP K ("is_shown" : Str) s_is_shown (He.fAd K (("is_shown" : Str), none)) fd) : FnOk P w K mg base (L2.CX P w) 5 (He.fAd K (("is_shown" : Str), none)) fd [("sizes" : Str), ("pair" : Str)] (spD ⟨K, tabs K, DL.fw w⟩ (F_is_shown (He.ga K ("Program" : Str)))) :=
  fn_D (N := [("sizes" : Str), ("pair" : Str), ("variable" : Str), ("table" : Str), ("entry" : Str)]) (ps := [("sizes" : Str), ("pair" : Str)]) (k := 4) hF sc_is_shown 2 5 rfl rfl fun A outer s H E hr => by
    apply Exists.intro
    unfold m_is_shown
    exact (dss_cons (ds_asg (de_var (pv 1)) (dg_tup2 (pg_tup rfl (pgs_cons (pg_name sc_is_shown.nd rfl (by first | exact Or.inl rfl | exact Or.inr rfl)) (pgs_cons (pg_name sc_is_shown.nd rfl (by first | exact Or.inl rfl | exact Or.inr rfl)) pgs_nil)))))
      (dss_cons (ds_if (dt_not (dt_tru (de_own (own__is_number F) (hr.mono (by decide)) rfl psE_of (da_cons (de_var (pv 2)) (da_cons de_int (da_cons (de_op op_sub opd_subI (de_callB call_len_seq calld_len rfl F.g_len boot_len (da_cons (de_var (pv 0)) da_nil)) de_int) da_nil)))))) (dss_cons (ds_ret de_bl)
      dss_nil) dss_nil)
      (dss_cons (ds_ret (de_and (de_cmp (op_eqD (hu64 hr)) opd_eqD (de_callB call_len_seq calld_len rfl F.g_len boot_len (da_cons (de_var (pv 3)) da_nil)) (de_ix (de_var (pv 0)) (de_var (pv 2)) (fun _ _ => rfl)) (nomark _)) (de_one (de_allB [(("entry" : Str), 4)] 1 (hr.mono (by decide)) rfl F.g_all F.tb_is_shown rfl F.ts_is_shown rfl sc_is_shown.nd rfl rfl rfl (di_seq (de_var (pv 3))) (fun s H C cl code fp pn => by exact (dg_name (pg_name sc_is_shown.nd rfl (by first | exact Or.inl rfl | exact Or.inr rfl)))) (fun s H C cl code fp pn hr => by exact (de_own (own__is_number F) (hr.mono (by decide)) rfl psE0 (da_cons (de_var (pv 4)) (da_cons de_int (da_cons de_int da_nil)))))))))
      dss_nil)))
theorem own_is_shown (F : Fx P w K mg base) : Own P w K mg base (tabs K) 5 ("is_shown" : Str) (F_is_shown (He.ga K ("Program" : Str))) := by
  obtain ⟨fd, hF⟩ := F.f_is_shown
  exact ⟨_, fd, _, ok_is_shown F hF, F.g_is_shown, hF.kp, hF.bindsN fun _ _ _ _ _ _ us hl => match us, hl with | [_, _], _ => rfl⟩
def m__is_part (cP : Addr) : MS := (seqS (asgS (fun s => sget s 1) (tgT3 2 3 4))
    (seqS (ifS (fun s => bnd (bnd (bnd (bnd (bnd (sget s 0) fun x => bnd (bnd (sget s 2) fun x => bnd (pur []) fun r => pur (x :: r)) fun r => pur (x :: r)) (F_is_shown cP)) truM) fun b => pur (!b)) fun x => if x then pur true else bnd (bnd (bnd (bnd (sget s 0) fun x => bnd (bnd (sget s 3) fun x => bnd (pur []) fun r => pur (x :: r)) fun r => pur (x :: r)) (F_is_shown cP)) truM) fun b => pur (!b)) (seqS (retS fun s => pur (.bl false))
    skipS) skipS)
    (seqS (retS fun s => bnd (bnd (sget s 4) fun x => bnd (pur .non) fun y => (isNoneD false) x y) fun d => bnd (asB d) fun x => if x then pur (.bl true) else bnd (bnd (sget s 0) fun x => bnd (bnd (sget s 4) fun x => bnd (pur []) fun r => pur (x :: r)) fun r => pur (x :: r)) (F_are_changes cP))
    skipS)))
def F__is_part (cP : Addr) : List D → M D := fnM 2 5 (m__is_part cP)
theorem sc__is_part : FnScope [("sizes" : Str), ("part" : Str), ("look" : Str), ("word" : Str), ("press" : Str)] [("sizes" : Str), ("part" : Str)] (defScope s__is_part) := ⟨rfl, rfl, rfl, by decide +kernel, rfl, by decide +kernel, by decide +kernel⟩
theorem ok__is_part (F : Fx P w K mg base) {fd : FuncData} (hF : FnP K ("_is_part" : Str) s__is_part (He.fAd K (("_is_part" : Str), none)) fd) : FnOk P w K mg base (L2.CX P w) 7 (He.fAd K (("_is_part" : Str), none)) fd [("sizes" : Str), ("part" : Str)] (spD ⟨K, tabs K, DL.fw w⟩ (F__is_part (He.ga K ("Program" : Str)))) :=
  fn_D (N := [("sizes" : Str), ("part" : Str), ("look" : Str), ("word" : Str), ("press" : Str)]) (ps := [("sizes" : Str), ("part" : Str)]) (k := 6) hF sc__is_part 2 5 rfl rfl fun A outer s H E hr => by
    apply Exists.intro
    unfold m__is_part
    exact (dss_cons (ds_asg (de_var (pv 1)) (dg_tup3 (pg_tup rfl (pgs_cons (pg_name sc__is_part.nd rfl (by first | exact Or.inl rfl | exact Or.inr rfl)) (pgs_cons (pg_name sc__is_part.nd rfl (by first | exact Or.inl rfl | exact Or.inr rfl)) (pgs_cons (pg_name sc__is_part.nd rfl (by first | exact Or.inl rfl | exact Or.inr rfl)) pgs_nil))))))
      (dss_cons (ds_if (DW.dt (dw_or (dt_not (dt_tru (de_own (own_is_shown F) (hr.mono (by decide)) rfl psE_of (da_cons (de_var (pv 0)) (da_cons (de_var (pv 2)) da_nil))))) (dw_or1 (dt_not (dt_tru (de_own (own_is_shown F) (hr.mono (by decide)) rfl psE_of (da_cons (de_var (pv 0)) (da_cons (de_var (pv 3)) da_nil)))))))) (dss_cons (ds_ret de_bl)
      dss_nil) dss_nil)
      (dss_cons (ds_ret (de_or (de_cmp op_isN opd_isN (de_var (pv 4)) de_non (nomark _)) (de_one (de_own (own_are_changes F) (hr.mono (by decide)) rfl psE_of (da_cons (de_var (pv 0)) (da_cons (de_var (pv 4)) da_nil))))))
      dss_nil)))
theorem own__is_part (F : Fx P w K mg base) : Own P w K mg base (tabs K) 7 ("_is_part" : Str) (F__is_part (He.ga K ("Program" : Str))) := by
  obtain ⟨fd, hF⟩ := F.f__is_part
  exact ⟨_, fd, _, ok__is_part F hF, F.g__is_part, hF.kp, hF.bindsN fun _ _ _ _ _ _ us hl => match us, hl with | [_, _], _ => rfl⟩
def m__are_parts (cP : Addr) : MS := (seqS (retS fun s => bnd (bnd (pur (.int 1)) fun x => bnd (bnd (bnd (sget s 1) fun x => bnd (pur []) fun r => pur (x :: r)) lenD) fun y => bnd (leI x y) fun d => bnd (asB d) fun k => if k then bnd (pur (.int 4)) (fun z => leI y z) else pur (.bl false)) fun d => bnd (asB d) fun x => if x then genD (fun s => bnd (sget s 1) seqW) (tgN 2) (fun s => bnd (bnd (sget s 0) fun x => bnd (bnd (sget s 2) fun x => bnd (pur []) fun r => pur (x :: r)) fun r => pur (x :: r)) (F__is_part cP)) false [2] s else pur (.bl false))
    skipS)
def F__are_parts (cP : Addr) : List D → M D := fnM 2 3 (m__are_parts cP)
theorem sc__are_parts : FnScope [("sizes" : Str), ("parts" : Str), ("part" : Str)] [("sizes" : Str), ("parts" : Str)] (defScope s__are_parts) := ⟨rfl, rfl, rfl, by decide +kernel, rfl, by decide +kernel, by decide +kernel⟩
theorem ok__are_parts (F : Fx P w K mg base) {fd : FuncData} (hF : FnP K ("_are_parts" : Str) s__are_parts (He.fAd K (("_are_parts" : Str), none)) fd) : FnOk P w K mg base (L2.CX P w) 11 (He.fAd K (("_are_parts" : Str), none)) fd [("sizes" : Str), ("parts" : Str)] (spD ⟨K, tabs K, DL.fw w⟩ (F__are_parts (He.ga K ("Program" : Str)))) :=
  fn_D (N := [("sizes" : Str), ("parts" : Str), ("part" : Str)]) (ps := [("sizes" : Str), ("parts" : Str)]) (k := 10) hF sc__are_parts 2 3 rfl rfl fun A outer s H E hr => by
    apply Exists.intro
    unfold m__are_parts
    exact (dss_cons (ds_ret (de_and (de_chain op_le op_le opd_leI opd_leI de_int (de_callB call_len_seq calld_len rfl F.g_len boot_len (da_cons (de_var (pv 1)) da_nil)) (de_globI rfl F.c_MOST_PARTS)) (de_one (de_allB [(("part" : Str), 2)] 7 (hr.mono (by decide)) rfl F.g_all F.tb__are_parts rfl F.ts__are_parts rfl sc__are_parts.nd rfl rfl rfl (di_seq (de_var (pv 1))) (fun s H C cl code fp pn => by exact (dg_name (pg_name sc__are_parts.nd rfl (by first | exact Or.inl rfl | exact Or.inr rfl)))) (fun s H C cl code fp pn hr => by exact (de_own (own__is_part F) (hr.mono (by decide)) rfl psE0 (da_cons (de_var (pv 0)) (da_cons (de_var (pv 2)) da_nil))))))))
      dss_nil)
theorem own__are_parts (F : Fx P w K mg base) : Own P w K mg base (tabs K) 11 ("_are_parts" : Str) (F__are_parts (He.ga K ("Program" : Str))) := by
  obtain ⟨fd, hF⟩ := F.f__are_parts
  exact ⟨_, fd, _, ok__are_parts F hF, F.g__are_parts, hF.kp, hF.bindsN fun _ _ _ _ _ _ us hl => match us, hl with | [_, _], _ => rfl⟩
def m_are_sizes (cP : Addr) : MS := (seqS (retS fun s => bnd (bnd (pur (.int 1)) fun x => bnd (bnd (bnd (sget s 0) fun x => bnd (pur []) fun r => pur (x :: r)) lenD) fun y => bnd (leI x y) fun d => bnd (asB d) fun k => if k then bnd (pur (.int 3)) (fun z => leI y z) else pur (.bl false)) fun d => bnd (asB d) fun x => if x then genD (fun s => bnd (sget s 0) seqW) (tgN 1) (fun s => bnd (bnd (sget s 1) fun x => bnd (bnd (pur (.int 2)) fun x => bnd (bnd (pur (.int 4)) fun x => bnd (pur []) fun r => pur (x :: r)) fun r => pur (x :: r)) fun r => pur (x :: r)) (F__is_number cP)) false [1] s else pur (.bl false))
    skipS)
def F_are_sizes (cP : Addr) : List D → M D := fnM 1 2 (m_are_sizes cP)
theorem sc_are_sizes : FnScope [("sizes" : Str), ("size" : Str)] [("sizes" : Str)] (defScope s_are_sizes) := ⟨rfl, rfl, rfl, by decide +kernel, rfl, by decide +kernel, by decide +kernel⟩
theorem ok_are_sizes (F : Fx P w K mg base) {fd : FuncData} (hF : FnP K ("are_sizes" : Str) s_are_sizes (He.fAd K (("are_sizes" : Str), none)) fd) : FnOk P w K mg base (L2.CX P w) 5 (He.fAd K (("are_sizes" : Str), none)) fd [("sizes" : Str)] (spD ⟨K, tabs K, DL.fw w⟩ (F_are_sizes (He.ga K ("Program" : Str)))) :=
  fn_D (N := [("sizes" : Str), ("size" : Str)]) (ps := [("sizes" : Str)]) (k := 4) hF sc_are_sizes 1 2 rfl rfl fun A outer s H E hr => by
    apply Exists.intro
    unfold m_are_sizes
    exact (dss_cons (ds_ret (de_and (de_chain op_le op_le opd_leI opd_leI de_int (de_callB call_len_seq calld_len rfl F.g_len boot_len (da_cons (de_var (pv 0)) da_nil)) de_int) (de_one (de_allB [(("size" : Str), 1)] 1 (hr.mono (by decide)) rfl F.g_all F.tb_are_sizes rfl F.ts_are_sizes rfl sc_are_sizes.nd rfl rfl rfl (di_seq (de_var (pv 0))) (fun s H C cl code fp pn => by exact (dg_name (pg_name sc_are_sizes.nd rfl (by first | exact Or.inl rfl | exact Or.inr rfl)))) (fun s H C cl code fp pn hr => by exact (de_own (own__is_number F) (hr.mono (by decide)) rfl psE0 (da_cons (de_var (pv 1)) (da_cons de_int (da_cons de_int da_nil)))))))))
      dss_nil)
theorem own_are_sizes (F : Fx P w K mg base) : Own P w K mg base (tabs K) 5 ("are_sizes" : Str) (F_are_sizes (He.ga K ("Program" : Str))) := by
  obtain ⟨fd, hF⟩ := F.f_are_sizes
  exact ⟨_, fd, _, ok_are_sizes F hF, F.g_are_sizes, hF.kp, hF.bindsN fun _ _ _ _ _ _ us hl => match us, hl with | [_], _ => rfl⟩
def nsP : List Str := [("sizes" : Str), ("parts" : Str), ("ticks" : Str), ("live" : Str), ("skips" : Str)]
def m_init (cP : Addr) : MS := (seqS (ifS (fun s => bnd (bnd (bnd (bnd (sget s 1) fun x => bnd (pur []) fun r => pur (x :: r)) (F_are_sizes cP)) truM) fun b => pur (!b)) (seqS badS
    skipS) skipS)
    (seqS (ifS (fun s => bnd (bnd (bnd (bnd (sget s 1) fun x => bnd (bnd (sget s 2) fun x => bnd (pur []) fun r => pur (x :: r)) fun r => pur (x :: r)) (F__are_parts cP)) truM) fun b => pur (!b)) (seqS badS
    skipS) skipS)
    (seqS (ifS (fun s => bnd (bnd (bnd (bnd (sget s 1) fun x => bnd (bnd (sget s 3) fun x => bnd (pur []) fun r => pur (x :: r)) fun r => pur (x :: r)) (F__are_ticks cP)) truM) fun b => pur (!b)) (seqS badS
    skipS) skipS)
    (seqS (ifS (fun s => bnd (bnd (bnd (bnd (bnd (bnd (sget s 2) fun x => bnd (pur []) fun r => pur (x :: r)) lenD) fun x => bnd (bnd (sget s 4) fun x => bnd (pur []) fun r => pur (x :: r)) fun r => pur (x :: r)) (F_are_indexes cP)) truM) fun b => pur (!b)) (seqS badS
    skipS) skipS)
    (seqS (ifS (fun s => bnd (bnd (bnd (bnd (bnd (bnd (sget s 2) fun x => bnd (pur []) fun r => pur (x :: r)) lenD) fun x => bnd (bnd (sget s 5) fun x => bnd (pur []) fun r => pur (x :: r)) fun r => pur (x :: r)) (F_are_indexes cP)) truM) fun b => pur (!b)) (seqS badS
    skipS) skipS)
    skipS)))))
theorem sc_init : FnScope [("self" : Str), ("sizes" : Str), ("parts" : Str), ("ticks" : Str), ("live" : Str), ("skips" : Str)] [("self" : Str), ("sizes" : Str), ("parts" : Str), ("ticks" : Str), ("live" : Str), ("skips" : Str)] (defScope s_init) := ⟨rfl, rfl, rfl, by decide +kernel, rfl, by decide +kernel, by decide +kernel⟩
theorem own_Program (F : Fx P w K mg base) : OwnC P w K mg base (tabs K) 12 ("Program" : Str) (He.ga K ("Program" : Str)) nsP (m_init (He.ga K ("Program" : Str))) := by
  obtain ⟨fd, hF⟩ := F.f_init
  have hm : He.fAd K (("Program" : Str), some "__init__") = He.ma K (He.ga K ("Program" : Str)) "__init__" := rfl
  refine ⟨_, fd, [("self" : Str), ("sizes" : Str), ("parts" : Str), ("ticks" : Str), ("live" : Str), ("skips" : Str)], fn_I (N := [("self" : Str), ("sizes" : Str), ("parts" : Str), ("ticks" : Str), ("live" : Str), ("skips" : Str)]) (k := 11) hF sc_init F.cls F.no_all (by decide +kernel) rfl (by decide) (keeps_seq (keeps_if (keeps_seq keeps_bad keeps_skip) keeps_skip) (keeps_seq (keeps_if (keeps_seq keeps_bad keeps_skip) keeps_skip) (keeps_seq (keeps_if (keeps_seq keeps_bad keeps_skip) keeps_skip) (keeps_seq (keeps_if (keeps_seq keeps_bad keeps_skip) keeps_skip) (keeps_seq (keeps_if (keeps_seq keeps_bad keeps_skip) keeps_skip) keeps_skip))))) (indp_seq (keeps_if (keeps_seq keeps_bad keeps_skip) keeps_skip) (indp_if (fun _ _ _ => rfl) (indp_seq keeps_bad indp_bad indp_skip) indp_skip) (indp_seq (keeps_if (keeps_seq keeps_bad keeps_skip) keeps_skip) (indp_if (fun _ _ _ => rfl) (indp_seq keeps_bad indp_bad indp_skip) indp_skip) (indp_seq (keeps_if (keeps_seq keeps_bad keeps_skip) keeps_skip) (indp_if (fun _ _ _ => rfl) (indp_seq keeps_bad indp_bad indp_skip) indp_skip) (indp_seq (keeps_if (keeps_seq keeps_bad keeps_skip) keeps_skip) (indp_if (fun _ _ _ => rfl) (indp_seq keeps_bad indp_bad indp_skip) indp_skip) (indp_seq (keeps_if (keeps_seq keeps_bad keeps_skip) keeps_skip) (indp_if (fun _ _ _ => rfl) (indp_seq keeps_bad indp_bad indp_skip) indp_skip) indp_skip))))) [(1, ("sizes" : Str)), (2, ("parts" : Str)), (3, ("ticks" : Str)), (4, ("live" : Str)), (5, ("skips" : Str))] (by rfl) fun A outer s H E hr => by
    apply Exists.intro
    unfold m_init
    exact (db_cons (ds_if (dt_not (dt_tru (de_own (own_are_sizes F) (hr.mono (by decide)) rfl psE_of (da_cons (de_var (pv 1)) da_nil)))) (dss_cons ds_never
      dss_nil) dss_nil)
      (db_cons (ds_if (dt_not (dt_tru (de_own (own__are_parts F) (hr.mono (by decide)) rfl psE_of (da_cons (de_var (pv 1)) (da_cons (de_var (pv 2)) da_nil))))) (dss_cons ds_never
      dss_nil) dss_nil)
      (db_cons (ds_if (dt_not (dt_tru (de_own (own__are_ticks F) (hr.mono (by decide)) rfl psE_of (da_cons (de_var (pv 1)) (da_cons (de_var (pv 3)) da_nil))))) (dss_cons ds_never
      dss_nil) dss_nil)
      (db_cons (ds_if (dt_not (dt_tru (de_own (own_are_indexes F) (hr.mono (by decide)) rfl psE_of (da_cons (de_callB call_len_seq calld_len rfl F.g_len boot_len (da_cons (de_var (pv 2)) da_nil)) (da_cons (de_var (pv 4)) da_nil))))) (dss_cons ds_never
      dss_nil) dss_nil)
      (db_cons (ds_if (dt_not (dt_tru (de_own (own_are_indexes F) (hr.mono (by decide)) rfl psE_of (da_cons (de_callB call_len_seq calld_len rfl F.g_len boot_len (da_cons (de_var (pv 2)) da_nil)) (da_cons (de_var (pv 5)) da_nil))))) (dss_cons ds_never
      dss_nil) dss_nil)
      (db_tail (pss_cons (ps_fld (pv 0) (pv 1) rfl) (pss_cons (ps_fld (pv 0) (pv 2) rfl) (pss_cons (ps_fld (pv 0) (pv 3) rfl) (pss_cons (ps_fld (pv 0) (pv 4) rfl) (pss_cons (ps_fld (pv 0) (pv 5) rfl) pss_nil))))))))))), F.g_Program, F.mkC, kb_all hF fun _ _ _ _ _ _ us ws h1 h2 => match us, ws, h1, h2 with | [_], [_, _, _, _, _], _, _ => rfl⟩
def m__law_made (cP : Addr) : MS := (seqS (retS fun s => bnd (bnd (bnd (sget s 0) fun x => bnd (pur (.str ("sizes" : Str))) fun y => dgetD x y) fun x => bnd (bnd (bnd (sget s 0) fun x => bnd (pur (.str ("parts" : Str))) fun y => dgetD x y) fun x => bnd (bnd (bnd (sget s 0) fun x => bnd (pur (.str ("ticks" : Str))) fun y => dgetD x y) fun x => bnd (bnd (bnd (sget s 0) fun x => bnd (pur (.str ("live" : Str))) fun y => dgetD x y) fun x => bnd (bnd (bnd (sget s 0) fun x => bnd (pur (.str ("skips" : Str))) fun y => dgetD x y) fun x => bnd (pur []) fun r => pur (x :: r)) fun r => pur (x :: r)) fun r => pur (x :: r)) fun r => pur (x :: r)) fun r => pur (x :: r)) (makeD cP nsP (m_init cP)))
    skipS)
def F__law_made (cP : Addr) : List D → M D := fnM 1 1 (m__law_made cP)
theorem sc__law_made : FnScope [("data" : Str)] [("data" : Str)] (defScope s__law_made) := ⟨rfl, rfl, rfl, by decide +kernel, rfl, by decide +kernel, by decide +kernel⟩
theorem ok__law_made (F : Fx P w K mg base) {fd : FuncData} (hF : FnP K ("_law_made" : Str) s__law_made (He.fAd K (("_law_made" : Str), none)) fd) : FnOk P w K mg base (L2.CX P w) 14 (He.fAd K (("_law_made" : Str), none)) fd [("data" : Str)] (spD ⟨K, tabs K, DL.fw w⟩ (F__law_made (He.ga K ("Program" : Str)))) :=
  fn_D (N := [("data" : Str)]) (ps := [("data" : Str)]) (k := 13) hF sc__law_made 1 1 rfl rfl fun A outer s H E hr => by
    apply Exists.intro
    unfold m__law_made
    exact (dss_cons (ds_ret (de_make (own_Program F) (hr.mono (by decide)) rfl psE_of (dk_cons (de_dget (hu1 hr) (de_var (pv 0)) de_str) (dk_cons (de_dget (hu1 hr) (de_var (pv 0)) de_str) (dk_cons (de_dget (hu1 hr) (de_var (pv 0)) de_str) (dk_cons (de_dget (hu1 hr) (de_var (pv 0)) de_str) (dk_cons (de_dget (hu1 hr) (de_var (pv 0)) de_str) dk_nil))))) (by exact ⟨(fun z => nomatch z), by decide +kernel⟩)))
      dss_nil)
theorem own__law_made (F : Fx P w K mg base) : Own P w K mg base (tabs K) 14 ("_law_made" : Str) (F__law_made (He.ga K ("Program" : Str))) := by
  obtain ⟨fd, hF⟩ := F.f__law_made
  exact ⟨_, fd, _, ok__law_made F hF, F.g__law_made, hF.kp, hF.bindsN fun _ _ _ _ _ _ us hl => match us, hl with | [_], _ => rfl⟩
def m__law_next (cP : Addr) : MS := (seqS (ifS (fun s => bnd (bnd (bnd (sget s 0) fun x => bnd (pur (.int 1)) fun y => ixD x y) fun x => bnd (sget s 1) fun y => ltI x y) asB) (seqS (ifS (fun s => bnd (bnd (bnd (bnd (bnd (sget s 0) fun x => bnd (pur (.int 0)) fun y => ixD x y) fun x => bnd (pur []) fun r => pur (x :: r)) lenD) fun x => bnd (pur (.int 0)) fun y => gtI x y) asB) (seqS (asgS (fun s => bnd (bnd (sget s 0) fun x => bnd (pur (.int 0)) fun y => ixD x y) fun x => bnd (tyM "list" x) fun x => bnd (bnd (pur (.int 0)) fun x => bnd (pur []) fun r => pur (x :: r)) (popAtD x)) (tgN 2))
    (seqS (asgS (fun s => bnd (bnd (bnd (sget s 2) fun x => bnd (pur (.int 0)) fun y => geI x y) asB) fun x => if x then bnd (pur (.int 2)) fun x => bnd (sget s 2) fun y => mulI x y else bnd (bnd (bnd (pur (.int 2)) negI) fun x => bnd (sget s 2) fun y => mulI x y) fun x => bnd (pur (.int 1)) fun y => subI x y) (subG (fun s => sget s 0) (fun s => pur (.int 1))))
    (seqS (asgS (fun s => bnd (bnd (bnd (bnd (bnd (bnd (sget s 0) fun x => bnd (pur (.int 2)) fun y => ixD x y) fun x => bnd (pur (.int 69621)) fun y => mulI x y) fun x => bnd (bnd (sget s 0) fun x => bnd (pur (.int 1)) fun y => ixD x y) fun y => addD x y) fun x => bnd (pur []) fun r => pur (x :: r)) intD) fun x => bnd (pur (.int 2147483647)) fun y => modI x y) (subG (fun s => sget s 0) (fun s => pur (.int 2))))
    skipS))) (seqS (asgS (fun s => bnd (bnd (bnd (bnd (bnd (bnd (sget s 0) fun x => bnd (pur (.int 2)) fun y => ixD x y) fun x => bnd (pur (.int 48271)) fun y => mulI x y) fun x => bnd (pur (.int 11)) fun y => addD x y) fun x => bnd (pur []) fun r => pur (x :: r)) intD) fun x => bnd (pur (.int 2147483647)) fun y => modI x y) (subG (fun s => sget s 0) (fun s => pur (.int 2))))
    (seqS (asgS (fun s => bnd (bnd (bnd (bnd (bnd (sget s 0) fun x => bnd (pur (.int 2)) fun y => ixD x y) fun x => bnd (bnd (sget s 0) fun x => bnd (pur (.int 2)) fun y => ixD x y) fun y => mulI x y) fun x => bnd (pur []) fun r => pur (x :: r)) intD) fun x => bnd (pur (.int 1000003)) fun y => modI x y) (subG (fun s => sget s 0) (fun s => pur (.int 1))))
    skipS)))
    skipS) skipS)
    (seqS (asgS (fun s => bnd (bnd (bnd (bnd (sget s 0) fun x => bnd (pur (.int 1)) fun y => ixD x y) fun x => bnd (pur []) fun r => pur (x :: r)) intD) fun x => bnd (sget s 1) fun y => modI x y) (tgN 3))
    (seqS (asgS (fun s => bnd (bnd (sget s 0) fun x => bnd (pur (.int 1)) fun y => ixD x y) fun x => bnd (sget s 1) fun y => divI x y) (subG (fun s => sget s 0) (fun s => pur (.int 1))))
    (seqS (retS fun s => sget s 3)
    skipS))))
def F__law_next (cP : Addr) : List D → M D := fnM 2 4 (m__law_next cP)
theorem sc__law_next : FnScope [("state" : Str), ("many" : Str), ("cell" : Str), ("drawn" : Str)] [("state" : Str), ("many" : Str)] (defScope s__law_next) := ⟨rfl, rfl, rfl, by decide +kernel, rfl, by decide +kernel, by decide +kernel⟩
theorem ok__law_next (F : Fx P w K mg base) {fd : FuncData} (hF : FnP K ("_law_next" : Str) s__law_next (He.fAd K (("_law_next" : Str), none)) fd) : FnOk P w K mg base (L2.CX P w) 1 (He.fAd K (("_law_next" : Str), none)) fd [("state" : Str), ("many" : Str)] (spD ⟨K, tabs K, DL.fw w⟩ (F__law_next (He.ga K ("Program" : Str)))) :=
  fn_D (N := [("state" : Str), ("many" : Str), ("cell" : Str), ("drawn" : Str)]) (ps := [("state" : Str), ("many" : Str)]) (k := 0) hF sc__law_next 2 4 rfl rfl fun A outer s H E hr => by
    apply Exists.intro
    unfold m__law_next
    exact (dss_cons (ds_if (dt_cmp op_lt opd_ltI (de_ix (de_var (pv 0)) de_int (fun _ _ => rfl)) (de_var (pv 1)) (nomark _)) (dss_cons (ds_if (dt_cmp op_gt opd_gtI (de_callB call_len_seq calld_len rfl F.g_len boot_len (da_cons (de_ix (de_var (pv 0)) de_int (fun _ _ => rfl)) da_nil)) de_int (nomark _)) (dss_cons (ds_set (i := 2) sc__law_next.nd rfl (by first | exact Or.inl rfl | exact Or.inr rfl) (de_bm (T := "list") (.inl rfl) PySem.F.plainAttrs_list PySem.F.slot_list_pop PySem.F.type_list_pop mt_popAt mtd_popAt (de_ix (de_var (pv 0)) de_int (fun _ _ => rfl)) (da_cons de_int da_nil)))
      (dss_cons (ds_asg (de_if (dt_cmp op_ge opd_geI (de_var (pv 2)) de_int (nomark _)) (de_op op_mul opd_mulI de_int (de_var (pv 2))) (de_op op_sub opd_subI (de_op op_mul opd_mulI (de_neg de_int) (de_var (pv 2))) de_int)) (dg_sub (de_var (pv 0)) de_int))
      (dss_cons (ds_asg (de_op op_mod opd_modI (de_callTy call_int1 calld_int rfl F.g_int PyProof.Rows.boot_int (da_cons (de_op op_addA opd_addD (de_op op_mul opd_mulI (de_ix (de_var (pv 0)) de_int (fun _ _ => rfl)) de_int) (de_ix (de_var (pv 0)) de_int (fun _ _ => rfl))) da_nil)) de_int) (dg_sub (de_var (pv 0)) de_int))
      dss_nil))) (dss_cons (ds_asg (de_op op_mod opd_modI (de_callTy call_int1 calld_int rfl F.g_int PyProof.Rows.boot_int (da_cons (de_op op_addA opd_addD (de_op op_mul opd_mulI (de_ix (de_var (pv 0)) de_int (fun _ _ => rfl)) de_int) de_int) da_nil)) de_int) (dg_sub (de_var (pv 0)) de_int))
      (dss_cons (ds_asg (de_op op_mod opd_modI (de_callTy call_int1 calld_int rfl F.g_int PyProof.Rows.boot_int (da_cons (de_op op_mul opd_mulI (de_ix (de_var (pv 0)) de_int (fun _ _ => rfl)) (de_ix (de_var (pv 0)) de_int (fun _ _ => rfl))) da_nil)) de_int) (dg_sub (de_var (pv 0)) de_int))
      dss_nil)))
      dss_nil) dss_nil)
      (dss_cons (ds_set (i := 3) sc__law_next.nd rfl (by first | exact Or.inl rfl | exact Or.inr rfl) (de_op op_mod opd_modI (de_callTy call_int1 calld_int rfl F.g_int PyProof.Rows.boot_int (da_cons (de_ix (de_var (pv 0)) de_int (fun _ _ => rfl)) da_nil)) (de_var (pv 1))))
      (dss_cons (ds_asg (de_op op_fdiv opd_divI (de_ix (de_var (pv 0)) de_int (fun _ _ => rfl)) (de_var (pv 1))) (dg_sub (de_var (pv 0)) de_int))
      (dss_cons (ds_ret (de_var (pv 3)))
      dss_nil))))
theorem own__law_next (F : Fx P w K mg base) : Own P w K mg base (tabs K) 1 ("_law_next" : Str) (F__law_next (He.ga K ("Program" : Str))) := by
  obtain ⟨fd, hF⟩ := F.f__law_next
  exact ⟨_, fd, _, ok__law_next F hF, F.g__law_next, hF.kp, hF.bindsN fun _ _ _ _ _ _ us hl => match us, hl with | [_, _], _ => rfl⟩
def m__law_changes (cP : Addr) : MS := (seqS (retS fun s => bnd (compD (fun s => bnd (bnd (bnd (pur (.int 1)) fun x => bnd (bnd (bnd (sget s 0) fun x => bnd (bnd (pur (.int 3)) fun x => bnd (pur []) fun r => pur (x :: r)) fun r => pur (x :: r)) (F__law_next cP)) fun y => addD x y) fun x => bnd (pur []) fun r => pur (x :: r)) fun ds => match ds with | [d] => rngW [d] | _ => fail) (tgN 2) (fun s => pur true) (fun s => bnd (bnd (bnd (bnd (sget s 0) fun x => bnd (bnd (bnd (bnd (sget s 1) fun x => bnd (pur []) fun r => pur (x :: r)) lenD) fun x => bnd (pur []) fun r => pur (x :: r)) fun r => pur (x :: r)) (F__law_next cP)) fun x => bnd (bnd (bnd (pur (.int 1)) fun x => bnd (bnd (bnd (sget s 0) fun x => bnd (bnd (pur (.int 3)) fun x => bnd (pur []) fun r => pur (x :: r)) fun r => pur (x :: r)) (F__law_next cP)) fun y => addD x y) fun x => bnd (pur []) fun r => pur (x :: r)) fun r => pur (x :: r)) mkT) [2] s) fun ds => pur (.tup ds))
    skipS)
def F__law_changes (cP : Addr) : List D → M D := fnM 2 3 (m__law_changes cP)
theorem sc__law_changes : FnScope [("state" : Str), ("sizes" : Str), ("k" : Str)] [("state" : Str), ("sizes" : Str)] (defScope s__law_changes) := ⟨rfl, rfl, rfl, by decide +kernel, rfl, by decide +kernel, by decide +kernel⟩
theorem ok__law_changes (F : Fx P w K mg base) {fd : FuncData} (hF : FnP K ("_law_changes" : Str) s__law_changes (He.fAd K (("_law_changes" : Str), none)) fd) : FnOk P w K mg base (L2.CX P w) 2 (He.fAd K (("_law_changes" : Str), none)) fd [("state" : Str), ("sizes" : Str)] (spD ⟨K, tabs K, DL.fw w⟩ (F__law_changes (He.ga K ("Program" : Str)))) :=
  fn_D (N := [("state" : Str), ("sizes" : Str), ("k" : Str)]) (ps := [("state" : Str), ("sizes" : Str)]) (k := 1) hF sc__law_changes 2 3 rfl rfl fun A outer s H E hr => by
    apply Exists.intro
    unfold m__law_changes
    exact (dss_cons (ds_ret (de_tupLcB [(("k" : Str), 2)] rfl F.g_tuple rfl sc__law_changes.nd rfl rfl (di_range1 rfl F.g_range (da_cons (de_op op_addA opd_addD de_int (de_own (own__law_next F) (hr.mono (by decide)) rfl psE_of (da_cons (de_var (pv 0)) (da_cons de_int da_nil)))) da_nil)) (fun s H C cl fp => by exact (dg_name (pg_name sc__law_changes.nd rfl (by first | exact Or.inl rfl | exact Or.inr rfl)))) (fun s H C cl fp => by exact dts_nil) (fun s H C cl fp => by exact (de_tup (da_cons (de_own (own__law_next F) (hr.mono (by decide)) rfl psE0 (da_cons (de_var (pv 0)) (da_cons (de_callB call_len_seq calld_len rfl F.g_len boot_len (da_cons (de_var (pv 1)) da_nil)) da_nil))) (da_cons (de_op op_addA opd_addD de_int (de_own (own__law_next F) (hr.mono (by decide)) rfl psE0 (da_cons (de_var (pv 0)) (da_cons de_int da_nil)))) da_nil))))))
      dss_nil)
theorem own__law_changes (F : Fx P w K mg base) : Own P w K mg base (tabs K) 2 ("_law_changes" : Str) (F__law_changes (He.ga K ("Program" : Str))) := by
  obtain ⟨fd, hF⟩ := F.f__law_changes
  exact ⟨_, fd, _, ok__law_changes F hF, F.g__law_changes, hF.kp, hF.bindsN fun _ _ _ _ _ _ us hl => match us, hl with | [_, _], _ => rfl⟩
def m__law_pair (cP : Addr) : MS := (seqS (asgS (fun s => bnd (bnd (sget s 0) fun x => bnd (bnd (bnd (bnd (sget s 1) fun x => bnd (pur []) fun r => pur (x :: r)) lenD) fun x => bnd (pur []) fun r => pur (x :: r)) fun r => pur (x :: r)) (F__law_next cP)) (tgN 3))
    (seqS (retS fun s => bnd (bnd (sget s 3) fun x => bnd (bnd (bnd (compD (fun s => bnd (bnd (bnd (sget s 1) fun x => bnd (sget s 3) fun y => ixD x y) fun x => bnd (pur []) fun r => pur (x :: r)) fun ds => match ds with | [d] => rngW [d] | _ => fail) (tgN 4) (fun s => pur true) (fun s => bnd (bnd (sget s 0) fun x => bnd (bnd (sget s 2) fun x => bnd (pur []) fun r => pur (x :: r)) fun r => pur (x :: r)) (F__law_next cP)) [4] s) fun ds => pur (.tup ds)) fun x => bnd (pur []) fun r => pur (x :: r)) fun r => pur (x :: r)) mkT)
    skipS))
def F__law_pair (cP : Addr) : List D → M D := fnM 3 5 (m__law_pair cP)
theorem sc__law_pair : FnScope [("state" : Str), ("sizes" : Str), ("most" : Str), ("variable" : Str), ("k" : Str)] [("state" : Str), ("sizes" : Str), ("most" : Str)] (defScope s__law_pair) := ⟨rfl, rfl, rfl, by decide +kernel, rfl, by decide +kernel, by decide +kernel⟩
theorem ok__law_pair (F : Fx P w K mg base) {fd : FuncData} (hF : FnP K ("_law_pair" : Str) s__law_pair (He.fAd K (("_law_pair" : Str), none)) fd) : FnOk P w K mg base (L2.CX P w) 2 (He.fAd K (("_law_pair" : Str), none)) fd [("state" : Str), ("sizes" : Str), ("most" : Str)] (spD ⟨K, tabs K, DL.fw w⟩ (F__law_pair (He.ga K ("Program" : Str)))) :=
  fn_D (N := [("state" : Str), ("sizes" : Str), ("most" : Str), ("variable" : Str), ("k" : Str)]) (ps := [("state" : Str), ("sizes" : Str), ("most" : Str)]) (k := 1) hF sc__law_pair 3 5 rfl rfl fun A outer s H E hr => by
    apply Exists.intro
    unfold m__law_pair
    exact (dss_cons (ds_set (i := 3) sc__law_pair.nd rfl (by first | exact Or.inl rfl | exact Or.inr rfl) (de_own (own__law_next F) (hr.mono (by decide)) rfl psE_of (da_cons (de_var (pv 0)) (da_cons (de_callB call_len_seq calld_len rfl F.g_len boot_len (da_cons (de_var (pv 1)) da_nil)) da_nil))))
      (dss_cons (ds_ret (de_tup (da_cons (de_var (pv 3)) (da_cons (de_tupLcB [(("k" : Str), 4)] rfl F.g_tuple rfl sc__law_pair.nd rfl rfl (di_range1 rfl F.g_range (da_cons (de_ix (de_var (pv 1)) (de_var (pv 3)) (fun _ _ => rfl)) da_nil)) (fun s H C cl fp => by exact (dg_name (pg_name sc__law_pair.nd rfl (by first | exact Or.inl rfl | exact Or.inr rfl)))) (fun s H C cl fp => by exact dts_nil) (fun s H C cl fp => by exact (de_own (own__law_next F) (hr.mono (by decide)) rfl psE0 (da_cons (de_var (pv 0)) (da_cons (de_var (pv 2)) da_nil))))) da_nil))))
      dss_nil))
theorem own__law_pair (F : Fx P w K mg base) : Own P w K mg base (tabs K) 2 ("_law_pair" : Str) (F__law_pair (He.ga K ("Program" : Str))) := by
  obtain ⟨fd, hF⟩ := F.f__law_pair
  exact ⟨_, fd, _, ok__law_pair F hF, F.g__law_pair, hF.kp, hF.bindsN fun _ _ _ _ _ _ us hl => match us, hl with | [_, _, _], _ => rfl⟩
def m__law_data (cP : Addr) : MS := (seqS (asgS (fun s => bnd (compD (fun s => bnd (bnd (bnd (pur (.int 1)) fun x => bnd (bnd (bnd (sget s 0) fun x => bnd (bnd (pur (.int 3)) fun x => bnd (pur []) fun r => pur (x :: r)) fun r => pur (x :: r)) (F__law_next cP)) fun y => addD x y) fun x => bnd (pur []) fun r => pur (x :: r)) fun ds => match ds with | [d] => rngW [d] | _ => fail) (tgN 3) (fun s => pur true) (fun s => bnd (pur (.int 2)) fun x => bnd (bnd (bnd (sget s 0) fun x => bnd (bnd (pur (.int 3)) fun x => bnd (pur []) fun r => pur (x :: r)) fun r => pur (x :: r)) (F__law_next cP)) fun y => addD x y) [3] s) fun ds => pur (.tup ds)) (tgN 1))
    (seqS (asgS (fun s => bnd (pur []) mkL) (tgN 2))
    (seqS (forS (fun s => bnd (bnd (bnd (pur (.int 1)) fun x => bnd (bnd (bnd (sget s 0) fun x => bnd (bnd (pur (.int 4)) fun x => bnd (pur []) fun r => pur (x :: r)) fun r => pur (x :: r)) (F__law_next cP)) fun y => addD x y) fun x => bnd (pur []) fun r => pur (x :: r)) fun ds => match ds with | [d] => rngW [d] | _ => fail) (tgN 3) (seqS (asgS (fun s => bnd (bnd (bnd (pur (.int 8)) fun x => bnd (bnd (pur (.int 2)) fun x => bnd (bnd (pur (.int 3)) fun x => bnd (pur []) fun r => pur (x :: r)) fun r => pur (x :: r)) fun r => pur (x :: r)) mkL) fun x => bnd (bnd (bnd (sget s 0) fun x => bnd (bnd (pur (.int 3)) fun x => bnd (pur []) fun r => pur (x :: r)) fun r => pur (x :: r)) (F__law_next cP)) fun y => ixD x y) (tgN 4))
    (seqS (asgS (fun s => bnd (bnd (sget s 0) fun x => bnd (bnd (sget s 1) fun x => bnd (bnd (sget s 4) fun x => bnd (pur []) fun r => pur (x :: r)) fun r => pur (x :: r)) fun r => pur (x :: r)) (F__law_pair cP)) (tgN 5))
    (seqS (asgS (fun s => bnd (bnd (sget s 0) fun x => bnd (bnd (sget s 1) fun x => bnd (bnd (sget s 4) fun x => bnd (pur []) fun r => pur (x :: r)) fun r => pur (x :: r)) fun r => pur (x :: r)) (F__law_pair cP)) (tgN 6))
    (seqS (asgS (fun s => bnd (bnd (bnd (bnd (bnd (sget s 0) fun x => bnd (bnd (pur (.int 4)) fun x => bnd (pur []) fun r => pur (x :: r)) fun r => pur (x :: r)) (F__law_next cP)) fun x => bnd (pur (.int 0)) fun y => eqD x y) asB) fun x => if x then pur .non else bnd (bnd (sget s 0) fun x => bnd (bnd (sget s 1) fun x => bnd (pur []) fun r => pur (x :: r)) fun r => pur (x :: r)) (F__law_changes cP)) (tgN 7))
    (seqS (dropS fun s => bnd (sget s 2) fun x => bnd (tyM "list" x) fun x => bnd (bnd (bnd (bnd (sget s 5) fun x => bnd (bnd (sget s 6) fun x => bnd (bnd (sget s 7) fun x => bnd (pur []) fun r => pur (x :: r)) fun r => pur (x :: r)) fun r => pur (x :: r)) mkT) fun x => bnd (pur []) fun r => pur (x :: r)) (appendD x))
    skipS))))))
    (seqS (asgS (fun s => bnd (compD (fun s => bnd (bnd (bnd (bnd (sget s 0) fun x => bnd (bnd (pur (.int 3)) fun x => bnd (pur []) fun r => pur (x :: r)) fun r => pur (x :: r)) (F__law_next cP)) fun x => bnd (pur []) fun r => pur (x :: r)) fun ds => match ds with | [d] => rngW [d] | _ => fail) (tgN 3) (fun s => pur true) (fun s => bnd (bnd (sget s 0) fun x => bnd (bnd (sget s 1) fun x => bnd (pur []) fun r => pur (x :: r)) fun r => pur (x :: r)) (F__law_changes cP)) [3] s) fun ds => pur (.tup ds)) (tgN 8))
    (seqS (asgS (fun s => bnd (compD (fun s => bnd (bnd (bnd (bnd (sget s 2) fun x => bnd (pur []) fun r => pur (x :: r)) lenD) fun x => bnd (pur []) fun r => pur (x :: r)) fun ds => match ds with | [d] => rngW [d] | _ => fail) (tgN 3) (fun s => bnd (bnd (bnd (bnd (sget s 0) fun x => bnd (bnd (pur (.int 2)) fun x => bnd (pur []) fun r => pur (x :: r)) fun r => pur (x :: r)) (F__law_next cP)) fun x => bnd (pur (.int 0)) fun y => eqD x y) asB) (fun s => sget s 3) [3] s) fun ds => pur (.tup ds)) (tgN 9))
    (seqS (asgS (fun s => bnd (compD (fun s => bnd (bnd (bnd (bnd (sget s 2) fun x => bnd (pur []) fun r => pur (x :: r)) lenD) fun x => bnd (pur []) fun r => pur (x :: r)) fun ds => match ds with | [d] => rngW [d] | _ => fail) (tgN 3) (fun s => bnd (bnd (bnd (bnd (sget s 0) fun x => bnd (bnd (pur (.int 4)) fun x => bnd (pur []) fun r => pur (x :: r)) fun r => pur (x :: r)) (F__law_next cP)) fun x => bnd (pur (.int 0)) fun y => eqD x y) asB) (fun s => sget s 3) [3] s) fun ds => pur (.tup ds)) (tgN 10))
    (seqS (retS fun s => bnd (bnd (sget s 1) fun x => bnd (bnd (bnd (bnd (sget s 2) fun x => bnd (pur []) fun r => pur (x :: r)) tupleD) fun x => bnd (bnd (sget s 8) fun x => bnd (bnd (sget s 9) fun x => bnd (bnd (sget s 10) fun x => bnd (pur []) fun r => pur (x :: r)) fun r => pur (x :: r)) fun r => pur (x :: r)) fun r => pur (x :: r)) fun r => pur (x :: r)) fun ds => if ds.length = ([("sizes" : Str), ("parts" : Str), ("ticks" : Str), ("live" : Str), ("skips" : Str)] : List Str).length then dispD [("sizes" : Str), ("parts" : Str), ("ticks" : Str), ("live" : Str), ("skips" : Str)] ds else fail)
    skipS)))))))
def F__law_data (cP : Addr) : List D → M D := fnM 1 11 (m__law_data cP)
theorem sc__law_data : FnScope [("state" : Str), ("sizes" : Str), ("parts" : Str), ("k" : Str), ("most" : Str), ("look" : Str), ("word" : Str), ("press" : Str), ("ticks" : Str), ("live" : Str), ("skips" : Str)] [("state" : Str)] (defScope s__law_data) := ⟨rfl, rfl, rfl, by decide +kernel, rfl, by decide +kernel, by decide +kernel⟩
theorem ok__law_data (F : Fx P w K mg base) {fd : FuncData} (hF : FnP K ("_law_data" : Str) s__law_data (He.fAd K (("_law_data" : Str), none)) fd) : FnOk P w K mg base (L2.CX P w) 3 (He.fAd K (("_law_data" : Str), none)) fd [("state" : Str)] (spD ⟨K, tabs K, DL.fw w⟩ (F__law_data (He.ga K ("Program" : Str)))) :=
  fn_D (N := [("state" : Str), ("sizes" : Str), ("parts" : Str), ("k" : Str), ("most" : Str), ("look" : Str), ("word" : Str), ("press" : Str), ("ticks" : Str), ("live" : Str), ("skips" : Str)]) (ps := [("state" : Str)]) (k := 2) hF sc__law_data 1 11 rfl rfl fun A outer s H E hr => by
    apply Exists.intro
    unfold m__law_data
    exact (dss_cons (ds_set (i := 1) sc__law_data.nd rfl (by first | exact Or.inl rfl | exact Or.inr rfl) (de_tupLcB [(("k" : Str), 3)] rfl F.g_tuple rfl sc__law_data.nd rfl rfl (di_range1 rfl F.g_range (da_cons (de_op op_addA opd_addD de_int (de_own (own__law_next F) (hr.mono (by decide)) rfl psE_of (da_cons (de_var (pv 0)) (da_cons de_int da_nil)))) da_nil)) (fun s H C cl fp => by exact (dg_name (pg_name sc__law_data.nd rfl (by first | exact Or.inl rfl | exact Or.inr rfl)))) (fun s H C cl fp => by exact dts_nil) (fun s H C cl fp => by exact (de_op op_addA opd_addD de_int (de_own (own__law_next F) (hr.mono (by decide)) rfl psE0 (da_cons (de_var (pv 0)) (da_cons de_int da_nil)))))))
      (dss_cons (ds_set (i := 2) sc__law_data.nd rfl (by first | exact Or.inl rfl | exact Or.inr rfl) (de_lst da_nil))
      (dss_cons (ds_for pown_of rfl (di_range1 rfl F.g_range (da_cons (de_op op_addA opd_addD de_int (de_own (own__law_next F) (hr.mono (by decide)) rfl psE_of (da_cons (de_var (pv 0)) (da_cons de_int da_nil)))) da_nil)) (dg_name (pg_name sc__law_data.nd rfl (by first | exact Or.inl rfl | exact Or.inr rfl))) (dss_cons (ds_set (i := 4) sc__law_data.nd rfl (by first | exact Or.inl rfl | exact Or.inr rfl) (de_ix (de_lst (da_cons de_int (da_cons de_int (da_cons de_int da_nil)))) (de_own (own__law_next F) (hr.mono (by decide)) rfl psE_of (da_cons (de_var (pv 0)) (da_cons de_int da_nil))) (fun _ _ => rfl)))
      (dss_cons (ds_set (i := 5) sc__law_data.nd rfl (by first | exact Or.inl rfl | exact Or.inr rfl) (de_own (own__law_pair F) (hr.mono (by decide)) rfl psE_of (da_cons (de_var (pv 0)) (da_cons (de_var (pv 1)) (da_cons (de_var (pv 4)) da_nil)))))
      (dss_cons (ds_set (i := 6) sc__law_data.nd rfl (by first | exact Or.inl rfl | exact Or.inr rfl) (de_own (own__law_pair F) (hr.mono (by decide)) rfl psE_of (da_cons (de_var (pv 0)) (da_cons (de_var (pv 1)) (da_cons (de_var (pv 4)) da_nil)))))
      (dss_cons (ds_set (i := 7) sc__law_data.nd rfl (by first | exact Or.inl rfl | exact Or.inr rfl) (de_if (dt_cmp (op_eqD (hu64 hr)) opd_eqD (de_own (own__law_next F) (hr.mono (by decide)) rfl psE_of (da_cons (de_var (pv 0)) (da_cons de_int da_nil))) de_int (nomark _)) de_non (de_own (own__law_changes F) (hr.mono (by decide)) rfl psE_of (da_cons (de_var (pv 0)) (da_cons (de_var (pv 1)) da_nil)))))
      (dss_cons (ds_expr (de_bm (T := "list") (.inl rfl) PySem.F.plainAttrs_list PySem.F.slot_list_append PySem.F.type_list_append mt_append mtd_append (de_var (pv 2)) (da_cons (de_tup (da_cons (de_var (pv 5)) (da_cons (de_var (pv 6)) (da_cons (de_var (pv 7)) da_nil)))) da_nil)))
      dss_nil))))))
      (dss_cons (ds_set (i := 8) sc__law_data.nd rfl (by first | exact Or.inl rfl | exact Or.inr rfl) (de_tupLcB [(("k" : Str), 3)] rfl F.g_tuple rfl sc__law_data.nd rfl rfl (di_range1 rfl F.g_range (da_cons (de_own (own__law_next F) (hr.mono (by decide)) rfl psE_of (da_cons (de_var (pv 0)) (da_cons de_int da_nil))) da_nil)) (fun s H C cl fp => by exact (dg_name (pg_name sc__law_data.nd rfl (by first | exact Or.inl rfl | exact Or.inr rfl)))) (fun s H C cl fp => by exact dts_nil) (fun s H C cl fp => by exact (de_own (own__law_changes F) (hr.mono (by decide)) rfl psE0 (da_cons (de_var (pv 0)) (da_cons (de_var (pv 1)) da_nil))))))
      (dss_cons (ds_set (i := 9) sc__law_data.nd rfl (by first | exact Or.inl rfl | exact Or.inr rfl) (de_tupLcB [(("k" : Str), 3)] rfl F.g_tuple rfl sc__law_data.nd rfl rfl (di_range1 rfl F.g_range (da_cons (de_callB call_len_seq calld_len rfl F.g_len boot_len (da_cons (de_var (pv 2)) da_nil)) da_nil)) (fun s H C cl fp => by exact (dg_name (pg_name sc__law_data.nd rfl (by first | exact Or.inl rfl | exact Or.inr rfl)))) (fun s H C cl fp => by exact (dts_one (dt_cmp (op_eqD (hu64 hr)) opd_eqD (de_own (own__law_next F) (hr.mono (by decide)) rfl psE0 (da_cons (de_var (pv 0)) (da_cons de_int da_nil))) de_int (nomark _)))) (fun s H C cl fp => by exact (de_var (pv 3)))))
      (dss_cons (ds_set (i := 10) sc__law_data.nd rfl (by first | exact Or.inl rfl | exact Or.inr rfl) (de_tupLcB [(("k" : Str), 3)] rfl F.g_tuple rfl sc__law_data.nd rfl rfl (di_range1 rfl F.g_range (da_cons (de_callB call_len_seq calld_len rfl F.g_len boot_len (da_cons (de_var (pv 2)) da_nil)) da_nil)) (fun s H C cl fp => by exact (dg_name (pg_name sc__law_data.nd rfl (by first | exact Or.inl rfl | exact Or.inr rfl)))) (fun s H C cl fp => by exact (dts_one (dt_cmp (op_eqD (hu64 hr)) opd_eqD (de_own (own__law_next F) (hr.mono (by decide)) rfl psE0 (da_cons (de_var (pv 0)) (da_cons de_int da_nil))) de_int (nomark _)))) (fun s H C cl fp => by exact (de_var (pv 3)))))
      (dss_cons (ds_ret (de_disp (dp_cons (de_var (pv 1)) (dp_cons (de_callTy call_tuple_of calld_tuple rfl F.g_tuple PyProof.Rows.boot_tuple (da_cons (de_var (pv 2)) da_nil)) (dp_cons (de_var (pv 8)) (dp_cons (de_var (pv 9)) (dp_cons (de_var (pv 10)) dp_nil))))) (by decide) (by decide +kernel)))
      dss_nil)))))))
theorem own__law_data (F : Fx P w K mg base) : Own P w K mg base (tabs K) 3 ("_law_data" : Str) (F__law_data (He.ga K ("Program" : Str))) := by
  obtain ⟨fd, hF⟩ := F.f__law_data
  exact ⟨_, fd, _, ok__law_data F hF, F.g__law_data, hF.kp, hF.bindsN fun _ _ _ _ _ _ us hl => match us, hl with | [_], _ => rfl⟩
def m__law_other (cP : Addr) : MS := (seqS (asgS (fun s => bnd (bnd (sget s 1) fun x => bnd (pur []) fun r => pur (x :: r)) dictD) (tgN 2))
    (seqS (asgS (fun s => bnd (bnd (sget s 0) fun x => bnd (bnd (pur (.int 5)) fun x => bnd (pur []) fun r => pur (x :: r)) fun r => pur (x :: r)) (F__law_next cP)) (tgN 3))
    (seqS (ifS (fun s => bnd (bnd (sget s 3) fun x => bnd (pur (.int 0)) fun y => eqD x y) asB) (seqS (asgS (fun s => bnd (sget s 1) fun x => bnd (pur (.str ("skips" : Str))) fun y => dgetD x y) (subDG (fun s => sget s 2) (fun s => pur (.str ("live" : Str)))))
    (seqS (asgS (fun s => bnd (sget s 1) fun x => bnd (pur (.str ("live" : Str))) fun y => dgetD x y) (subDG (fun s => sget s 2) (fun s => pur (.str ("skips" : Str)))))
    skipS)) skipS)
    (seqS (ifS (fun s => bnd (bnd (sget s 3) fun x => bnd (pur (.int 1)) fun y => eqD x y) asB) (seqS (asgS (fun s => bnd (bnd (sget s 1) fun x => bnd (pur (.str ("ticks" : Str))) fun y => dgetD x y) revT) (subDG (fun s => sget s 2) (fun s => pur (.str ("ticks" : Str)))))
    skipS) skipS)
    (seqS (ifS (fun s => bnd (bnd (sget s 3) fun x => bnd (pur (.int 2)) fun y => eqD x y) asB) (seqS (asgS (fun s => bnd (bnd (sget s 1) fun x => bnd (pur (.str ("parts" : Str))) fun y => dgetD x y) fun x => bnd (pur (.int 0)) fun y => ixD x y) (tgT3 4 5 6))
    (seqS (asgS (fun s => bnd (bnd (bnd (bnd (bnd (sget s 5) fun x => bnd (bnd (sget s 4) fun x => bnd (bnd (sget s 6) fun x => bnd (pur []) fun r => pur (x :: r)) fun r => pur (x :: r)) fun r => pur (x :: r)) mkT) fun x => bnd (pur []) fun r => pur (x :: r)) mkT) fun x => bnd (bnd (bnd (sget s 1) fun x => bnd (pur (.str ("parts" : Str))) fun y => dgetD x y) fun x => bnd (bnd (pur (.int 1)) asI) fun l => bnd (pur none) fun u => slD x l u) fun y => addD x y) (subDG (fun s => sget s 2) (fun s => pur (.str ("parts" : Str)))))
    skipS)) skipS)
    (seqS (ifS (fun s => bnd (bnd (sget s 3) fun x => bnd (pur (.int 3)) fun y => eqD x y) asB) (seqS (asgS (fun s => bnd (bnd (sget s 0) fun x => bnd (pur []) fun r => pur (x :: r)) (F__law_data cP)) (tgN 2))
    skipS) skipS)
    (seqS (retS fun s => sget s 2)
    skipS)))))))
def F__law_other (cP : Addr) : List D → M D := fnM 2 7 (m__law_other cP)
theorem sc__law_other : FnScope [("state" : Str), ("data" : Str), ("other" : Str), ("kind" : Str), ("look" : Str), ("word" : Str), ("press" : Str)] [("state" : Str), ("data" : Str)] (defScope s__law_other) := ⟨rfl, rfl, rfl, by decide +kernel, rfl, by decide +kernel, by decide +kernel⟩
theorem ok__law_other (F : Fx P w K mg base) {fd : FuncData} (hF : FnP K ("_law_other" : Str) s__law_other (He.fAd K (("_law_other" : Str), none)) fd) : FnOk P w K mg base (L2.CX P w) 4 (He.fAd K (("_law_other" : Str), none)) fd [("state" : Str), ("data" : Str)] (spD ⟨K, tabs K, DL.fw w⟩ (F__law_other (He.ga K ("Program" : Str)))) :=
  fn_D (N := [("state" : Str), ("data" : Str), ("other" : Str), ("kind" : Str), ("look" : Str), ("word" : Str), ("press" : Str)]) (ps := [("state" : Str), ("data" : Str)]) (k := 3) hF sc__law_other 2 7 rfl rfl fun A outer s H E hr => by
    apply Exists.intro
    unfold m__law_other
    exact (dss_cons (ds_set (i := 2) sc__law_other.nd rfl (by first | exact Or.inl rfl | exact Or.inr rfl) (de_callTy call_dictD calld_dict rfl F.g_dict (by decide +kernel) (da_cons (de_var (pv 1)) da_nil)))
      (dss_cons (ds_set (i := 3) sc__law_other.nd rfl (by first | exact Or.inl rfl | exact Or.inr rfl) (de_own (own__law_next F) (hr.mono (by decide)) rfl psE_of (da_cons (de_var (pv 0)) (da_cons de_int da_nil))))
      (dss_cons (ds_if (dt_cmp (op_eqD (hu64 hr)) opd_eqD (de_var (pv 3)) de_int (nomark _)) (dss_cons (ds_asg (de_dget (hu1 hr) (de_var (pv 1)) de_str) (dg_dsub (hu1 hr) (de_var (pv 2)) de_str))
      (dss_cons (ds_asg (de_dget (hu1 hr) (de_var (pv 1)) de_str) (dg_dsub (hu1 hr) (de_var (pv 2)) de_str))
      dss_nil)) dss_nil)
      (dss_cons (ds_if (dt_cmp (op_eqD (hu64 hr)) opd_eqD (de_var (pv 3)) de_int (nomark _)) (dss_cons (ds_asg (de_revT (de_dget (hu1 hr) (de_var (pv 1)) de_str)) (dg_dsub (hu1 hr) (de_var (pv 2)) de_str))
      dss_nil) dss_nil)
      (dss_cons (ds_if (dt_cmp (op_eqD (hu64 hr)) opd_eqD (de_var (pv 3)) de_int (nomark _)) (dss_cons (ds_asg (de_ix (de_dget (hu1 hr) (de_var (pv 1)) de_str) de_int (fun _ _ => rfl)) (dg_tup3 (pg_tup rfl (pgs_cons (pg_name sc__law_other.nd rfl (by first | exact Or.inl rfl | exact Or.inr rfl)) (pgs_cons (pg_name sc__law_other.nd rfl (by first | exact Or.inl rfl | exact Or.inr rfl)) (pgs_cons (pg_name sc__law_other.nd rfl (by first | exact Or.inl rfl | exact Or.inr rfl)) pgs_nil))))))
      (dss_cons (ds_asg (de_op op_addA opd_addD (de_tup (da_cons (de_tup (da_cons (de_var (pv 5)) (da_cons (de_var (pv 4)) (da_cons (de_var (pv 6)) da_nil)))) da_nil)) (de_sl (de_dget (hu1 hr) (de_var (pv 1)) de_str) (do_some de_int) do_none)) (dg_dsub (hu1 hr) (de_var (pv 2)) de_str))
      dss_nil)) dss_nil)
      (dss_cons (ds_if (dt_cmp (op_eqD (hu64 hr)) opd_eqD (de_var (pv 3)) de_int (nomark _)) (dss_cons (ds_set (i := 2) sc__law_other.nd rfl (by first | exact Or.inl rfl | exact Or.inr rfl) (de_own (own__law_data F) (hr.mono (by decide)) rfl psE_of (da_cons (de_var (pv 0)) da_nil)))
      dss_nil) dss_nil)
      (dss_cons (ds_ret (de_var (pv 2)))
      dss_nil)))))))
theorem own__law_other (F : Fx P w K mg base) : Own P w K mg base (tabs K) 4 ("_law_other" : Str) (F__law_other (He.ga K ("Program" : Str))) := by
  obtain ⟨fd, hF⟩ := F.f__law_other
  exact ⟨_, fd, _, ok__law_other F hF, F.g__law_other, hF.kp, hF.bindsN fun _ _ _ _ _ _ us hl => match us, hl with | [_, _], _ => rfl⟩
def m_Lines_finish (cP : Addr) (kP : Ks) : MS := (seqS (ifS (fun s => bnd (bnd (bnd (bnd (sget s 0) (fldO (kP.a ("Lines" : Str)) ("taken" : Str))) fun x => bnd (bnd (bnd (bnd (sget s 0) (fldO (kP.a ("Lines" : Str)) ("rows" : Str))) fun x => bnd (pur []) fun r => pur (x :: r)) lenD) fun y => ltI x y) asB) fun x => if x then pur true else bnd (bnd (bnd (sget s 0) (fldO (kP.a ("Lines" : Str)) ("tail" : Str))) fun x => bnd (pur (.str ("" : Str))) fun y => neD x y) asB) (seqS badS
    skipS) skipS)
    skipS)
def F_Lines_finish (cP : Addr) (kP : Ks) : List D → M D := fnM 1 1 (m_Lines_finish cP kP)
theorem sc_Lines_finish : FnScope [("self" : Str)] [("self" : Str)] (defScope s_Lines_finish) := ⟨rfl, rfl, rfl, by decide +kernel, rfl, by decide +kernel, by decide +kernel⟩
theorem ownM_Lines_finish (F : Fx P w K mg base) : OwnM P w K mg base (tabs K) 1 (He.ga K ("Lines" : Str)) ("finish" : Str) (F_Lines_finish (He.ga K ("Program" : Str)) (ks K w)) := by
  obtain ⟨fd, hF⟩ := F.f_Lines_finish
  exact ⟨_, fd, [("self" : Str)], fn_D (N := [("self" : Str)]) (ps := [("self" : Str)]) (k := 0) hF sc_Lines_finish 1 1 rfl rfl fun A outer s H E hr => by
    apply Exists.intro
    unfold m_Lines_finish
    exact (dss_cons (ds_if (DW.dt (dw_or (dt_cmp op_lt opd_ltI (de_fldO F.cls_Lines F.no_Lines_taken (de_var (pv 0))) (de_callB call_len_seq calld_len rfl F.g_len boot_len (da_cons (de_fldO F.cls_Lines F.no_Lines_rows (de_var (pv 0))) da_nil)) (nomark _)) (dw_or1 (dt_cmp (op_neD (hu64 hr)) opd_neD (de_fldO F.cls_Lines F.no_Lines_tail (de_var (pv 0))) de_str (nomark _))))) (dss_cons ds_never
      dss_nil) dss_nil)
      dss_nil), F.me_Lines_finish, hF.bindsN fun _ _ _ _ _ _ us hl => match us, hl with | [_], _ => rfl⟩
def m_Lines_words (cP : Addr) (kP : Ks) : MS := (seqS (asgS (fun s => bnd (bnd (bnd (bnd (sget s 0) (fldO (kP.a ("Lines" : Str)) ("taken" : Str))) fun x => bnd (bnd (bnd (bnd (sget s 0) (fldO (kP.a ("Lines" : Str)) ("rows" : Str))) fun x => bnd (pur []) fun r => pur (x :: r)) lenD) fun y => ltI x y) asB) fun x => if x then bnd (bnd (sget s 0) (fldO (kP.a ("Lines" : Str)) ("rows" : Str))) fun x => bnd (bnd (sget s 0) (fldO (kP.a ("Lines" : Str)) ("taken" : Str))) fun y => ixD x y else pur (.str ("" : Str))) (tgN 1))
    (seqS (retS fun s => bnd (sget s 1) fun x => bnd (tyM "str" x) fun x => bnd (bnd (pur (.str (" " : Str))) fun x => bnd (pur []) fun r => pur (x :: r)) (splitD x))
    skipS))
def F_Lines_words (cP : Addr) (kP : Ks) : List D → M D := fnM 1 2 (m_Lines_words cP kP)
theorem sc_Lines_words : FnScope [("self" : Str), ("line" : Str)] [("self" : Str)] (defScope s_Lines_words) := ⟨rfl, rfl, rfl, by decide +kernel, rfl, by decide +kernel, by decide +kernel⟩
theorem ownM_Lines_words (F : Fx P w K mg base) : OwnM P w K mg base (tabs K) 1 (He.ga K ("Lines" : Str)) ("words" : Str) (F_Lines_words (He.ga K ("Program" : Str)) (ks K w)) := by
  obtain ⟨fd, hF⟩ := F.f_Lines_words
  exact ⟨_, fd, [("self" : Str)], fn_D (N := [("self" : Str), ("line" : Str)]) (ps := [("self" : Str)]) (k := 0) hF sc_Lines_words 1 2 rfl rfl fun A outer s H E hr => by
    apply Exists.intro
    unfold m_Lines_words
    exact (dss_cons (ds_set (i := 1) sc_Lines_words.nd rfl (by first | exact Or.inl rfl | exact Or.inr rfl) (de_if (dt_cmp op_lt opd_ltI (de_fldO F.cls_Lines F.no_Lines_taken (de_var (pv 0))) (de_callB call_len_seq calld_len rfl F.g_len boot_len (da_cons (de_fldO F.cls_Lines F.no_Lines_rows (de_var (pv 0))) da_nil)) (nomark _)) (de_ix (de_fldO F.cls_Lines F.no_Lines_rows (de_var (pv 0))) (de_fldO F.cls_Lines F.no_Lines_taken (de_var (pv 0))) (fun _ _ => rfl)) de_str))
      (dss_cons (ds_ret (de_bm (T := "str") (.inr (.inr rfl)) PySem.F.plainAttrs_str PySem.F.slot_str_split PySem.F.type_str_split mt_split mtd_split (de_var (pv 1)) (da_cons de_str da_nil)))
      dss_nil)), F.me_Lines_words, hF.bindsN fun _ _ _ _ _ _ us hl => match us, hl with | [_], _ => rfl⟩
def m_Lines_take (cP : Addr) (kP : Ks) : MS := (seqS (asgS (fun s => bnd (sget s 0) fun x => bnd (insO (kP.a ("Lines" : Str)) ("words" : Str) x) fun x => bnd (pur []) (methF (F_Lines_words cP kP) x)) (tgN 2))
    (seqS (augO (kP.a ("Lines" : Str)) ("taken" : Str) (fun s => sget s 0) (fun s => pur (.int 1)))
    (seqS (ifS (fun s => bnd (bnd (bnd (bnd (sget s 2) fun x => bnd (pur (.int 0)) fun y => ixD x y) fun x => bnd (sget s 1) fun y => neD x y) asB) fun x => if x then pur true else bnd (genD (fun s => bnd (bnd (sget s 2) fun x => bnd (bnd (pur (.int 1)) asI) fun l => bnd (pur none) fun u => slD x l u) seqW) (tgN 3) (fun s => bnd (sget s 3) (inKD k_NUMBERS true)) true [3] s) truM) (seqS badS
    skipS) skipS)
    (seqS (retS fun s => bnd (compD (fun s => bnd (bnd (sget s 2) fun x => bnd (bnd (pur (.int 1)) asI) fun l => bnd (pur none) fun u => slD x l u) seqW) (tgN 3) (fun s => pur true) (fun s => bnd (sget s 3) (itemKD k_NUMBERS)) [3] s) fun ds => pur (.tup ds))
    skipS))))
def F_Lines_take (cP : Addr) (kP : Ks) : List D → M D := fnM 2 4 (m_Lines_take cP kP)
theorem sc_Lines_take : FnScope [("self" : Str), ("kind" : Str), ("words" : Str), ("word" : Str)] [("self" : Str), ("kind" : Str)] (defScope s_Lines_take) := ⟨rfl, rfl, rfl, by decide +kernel, rfl, by decide +kernel, by decide +kernel⟩
theorem ownM_Lines_take (F : Fx P w K mg base) : OwnM P w K mg base (tabs K) 4 (He.ga K ("Lines" : Str)) ("take" : Str) (F_Lines_take (He.ga K ("Program" : Str)) (ks K w)) := by
  obtain ⟨fd, hF⟩ := F.f_Lines_take
  exact ⟨_, fd, [("self" : Str), ("kind" : Str)], fn_D (N := [("self" : Str), ("kind" : Str), ("words" : Str), ("word" : Str)]) (ps := [("self" : Str), ("kind" : Str)]) (k := 3) hF sc_Lines_take 2 4 rfl rfl fun A outer s H E hr => by
    apply Exists.intro
    unfold m_Lines_take
    exact (dss_cons (ds_set (i := 2) sc_Lines_take.nd rfl (by first | exact Or.inl rfl | exact Or.inr rfl) (de_meth0O F.cls_Lines (ownM_Lines_words F) (hr.mono (by decide)) psE_of (de_var (pv 0))))
      (dss_cons (ds_fldaug F.cls_Lines F.no_Lines_taken (de_var (pv 0)) de_int)
      (dss_cons (ds_if (DW.dt (dw_or (dt_cmp (op_neD (hu64 hr)) opd_neD (de_ix (de_var (pv 2)) de_int (fun _ _ => rfl)) (de_var (pv 1)) (nomark _)) (dw_or1 (dt_tru (de_anyB [(("word" : Str), 3)] 0 (hr.mono (by decide)) rfl F.g_any F.tb_Lines_take rfl F.ts_Lines_take rfl sc_Lines_take.nd rfl rfl rfl (di_seq (de_sl (de_var (pv 2)) (do_some de_int) do_none)) (fun s H C cl code fp pn => by exact (dg_name (pg_name sc_Lines_take.nd rfl (by first | exact Or.inl rfl | exact Or.inr rfl)))) (fun s H C cl code fp pn hr => by exact (de_notInK F.kd_NUMBERS.choose_spec.choose_spec F.kb_NUMBERS (de_var (pv 3)) rfl F.g_NUMBERS))))))) (dss_cons ds_never
      dss_nil) dss_nil)
      (dss_cons (ds_ret (de_tupLcB [(("word" : Str), 3)] rfl F.g_tuple rfl sc_Lines_take.nd rfl rfl (di_seq (de_sl (de_var (pv 2)) (do_some de_int) do_none)) (fun s H C cl fp => by exact (dg_name (pg_name sc_Lines_take.nd rfl (by first | exact Or.inl rfl | exact Or.inr rfl)))) (fun s H C cl fp => by exact dts_nil) (fun s H C cl fp => by exact (de_itemK F.kd_NUMBERS.choose_spec.choose_spec F.kb_NUMBERS (de_var (pv 3)) (fun _ _ => rfl) rfl F.g_NUMBERS))))
      dss_nil)))), F.me_Lines_take, hF.bindsN fun _ _ _ _ _ _ us hl => match us, hl with | [_, _], _ => rfl⟩
def m_Lines_sees (cP : Addr) (kP : Ks) : MS := (seqS (retS fun s => bnd (bnd (bnd (sget s 0) fun x => bnd (insO (kP.a ("Lines" : Str)) ("words" : Str) x) fun x => bnd (pur []) (methF (F_Lines_words cP kP) x)) fun x => bnd (pur (.int 0)) fun y => ixD x y) fun x => bnd (sget s 1) fun y => eqD x y)
    skipS)
def F_Lines_sees (cP : Addr) (kP : Ks) : List D → M D := fnM 2 2 (m_Lines_sees cP kP)
theorem sc_Lines_sees : FnScope [("self" : Str), ("kind" : Str)] [("self" : Str), ("kind" : Str)] (defScope s_Lines_sees) := ⟨rfl, rfl, rfl, by decide +kernel, rfl, by decide +kernel, by decide +kernel⟩
theorem ownM_Lines_sees (F : Fx P w K mg base) : OwnM P w K mg base (tabs K) 2 (He.ga K ("Lines" : Str)) ("sees" : Str) (F_Lines_sees (He.ga K ("Program" : Str)) (ks K w)) := by
  obtain ⟨fd, hF⟩ := F.f_Lines_sees
  exact ⟨_, fd, [("self" : Str), ("kind" : Str)], fn_D (N := [("self" : Str), ("kind" : Str)]) (ps := [("self" : Str), ("kind" : Str)]) (k := 1) hF sc_Lines_sees 2 2 rfl rfl fun A outer s H E hr => by
    apply Exists.intro
    unfold m_Lines_sees
    exact (dss_cons (ds_ret (de_cmp (op_eqD (hu64 hr)) opd_eqD (de_ix (de_meth0O F.cls_Lines (ownM_Lines_words F) (hr.mono (by decide)) psE_of (de_var (pv 0))) de_int (fun _ _ => rfl)) (de_var (pv 1)) (nomark _)))
      dss_nil), F.me_Lines_sees, hF.bindsN fun _ _ _ _ _ _ us hl => match us, hl with | [_, _], _ => rfl⟩
def m__take_indexes (cP : Addr) (kP : Ks) : MS := (seqS (ifS (fun s => bnd (bnd (bnd (sget s 0) fun x => bnd (insO (kP.a ("Lines" : Str)) ("sees" : Str) x) fun x => bnd (bnd (sget s 1) fun x => bnd (pur []) fun r => pur (x :: r)) (methF (F_Lines_sees cP kP) x)) truM) fun b => pur (!b)) (seqS (retS fun s => bnd (pur []) mkT)
    skipS) skipS)
    (seqS (asgS (fun s => bnd (sget s 0) fun x => bnd (insO (kP.a ("Lines" : Str)) ("take" : Str) x) fun x => bnd (bnd (sget s 1) fun x => bnd (pur []) fun r => pur (x :: r)) (methF (F_Lines_take cP kP) x)) (tgN 3))
    (seqS (ifS (fun s => bnd (bnd (bnd (sget s 3) fun x => bnd (bnd (pur []) mkT) fun y => eqD x y) asB) fun x => if x then pur true else bnd (bnd (bnd (bnd (sget s 2) fun x => bnd (bnd (sget s 3) fun x => bnd (pur []) fun r => pur (x :: r)) fun r => pur (x :: r)) (F_are_indexes cP)) truM) fun b => pur (!b)) (seqS badS
    skipS) skipS)
    (seqS (retS fun s => sget s 3)
    skipS))))
def F__take_indexes (cP : Addr) (kP : Ks) : List D → M D := fnM 3 4 (m__take_indexes cP kP)
theorem sc__take_indexes : FnScope [("lines" : Str), ("kind" : Str), ("many" : Str), ("indexes" : Str)] [("lines" : Str), ("kind" : Str), ("many" : Str)] (defScope s__take_indexes) := ⟨rfl, rfl, rfl, by decide +kernel, rfl, by decide +kernel, by decide +kernel⟩
theorem ok__take_indexes (F : Fx P w K mg base) {fd : FuncData} (hF : FnP K ("_take_indexes" : Str) s__take_indexes (He.fAd K (("_take_indexes" : Str), none)) fd) : FnOk P w K mg base (L2.CX P w) 5 (He.fAd K (("_take_indexes" : Str), none)) fd [("lines" : Str), ("kind" : Str), ("many" : Str)] (spD ⟨K, tabs K, DL.fw w⟩ (F__take_indexes (He.ga K ("Program" : Str)) (ks K w))) :=
  fn_D (N := [("lines" : Str), ("kind" : Str), ("many" : Str), ("indexes" : Str)]) (ps := [("lines" : Str), ("kind" : Str), ("many" : Str)]) (k := 4) hF sc__take_indexes 3 4 rfl rfl fun A outer s H E hr => by
    apply Exists.intro
    unfold m__take_indexes
    exact (dss_cons (ds_if (dt_not (dt_tru (de_methO F.cls_Lines (ownM_Lines_sees F) (hr.mono (by decide)) psE_of (de_var (pv 0)) (da_cons (de_var (pv 1)) da_nil)))) (dss_cons (ds_ret (de_tup da_nil))
      dss_nil) dss_nil)
      (dss_cons (ds_set (i := 3) sc__take_indexes.nd rfl (by first | exact Or.inl rfl | exact Or.inr rfl) (de_methO F.cls_Lines (ownM_Lines_take F) (hr.mono (by decide)) psE_of (de_var (pv 0)) (da_cons (de_var (pv 1)) da_nil)))
      (dss_cons (ds_if (DW.dt (dw_or (dt_cmp (op_eqD (hu64 hr)) opd_eqD (de_var (pv 3)) (de_tup da_nil) (nomark _)) (dw_or1 (dt_not (dt_tru (de_own (own_are_indexes F) (hr.mono (by decide)) rfl psE_of (da_cons (de_var (pv 2)) (da_cons (de_var (pv 3)) da_nil)))))))) (dss_cons ds_never
      dss_nil) dss_nil)
      (dss_cons (ds_ret (de_var (pv 3)))
      dss_nil))))
theorem own__take_indexes (F : Fx P w K mg base) : Own P w K mg base (tabs K) 5 ("_take_indexes" : Str) (F__take_indexes (He.ga K ("Program" : Str)) (ks K w)) := by
  obtain ⟨fd, hF⟩ := F.f__take_indexes
  exact ⟨_, fd, _, ok__take_indexes F hF, F.g__take_indexes, hF.kp, hF.bindsN fun _ _ _ _ _ _ us hl => match us, hl with | [_, _, _], _ => rfl⟩
def m__take_changes (cP : Addr) (kP : Ks) : MS := (seqS (asgS (fun s => bnd (sget s 0) fun x => bnd (insO (kP.a ("Lines" : Str)) ("take" : Str) x) fun x => bnd (bnd (sget s 1) fun x => bnd (pur []) fun r => pur (x :: r)) (methF (F_Lines_take cP kP) x)) (tgN 3))
    (seqS (asgS (fun s => bnd (compD (fun s => bnd (bnd (pur (.int 1)) fun x => bnd (bnd (bnd (bnd (sget s 3) fun x => bnd (pur []) fun r => pur (x :: r)) lenD) fun x => bnd (bnd (pur (.int 2)) fun x => bnd (pur []) fun r => pur (x :: r)) fun r => pur (x :: r)) fun r => pur (x :: r)) rng3W) (tgN 5) (fun s => pur true) (fun s => bnd (bnd (bnd (sget s 3) fun x => bnd (bnd (sget s 5) fun x => bnd (pur (.int 1)) fun y => subI x y) fun y => ixD x y) fun x => bnd (bnd (bnd (sget s 3) fun x => bnd (sget s 5) fun y => ixD x y) fun x => bnd (pur []) fun r => pur (x :: r)) fun r => pur (x :: r)) mkT) [5] s) fun ds => pur (.tup ds)) (tgN 4))
    (seqS (ifS (fun s => bnd (bnd (bnd (bnd (bnd (sget s 3) fun x => bnd (pur []) fun r => pur (x :: r)) lenD) fun x => bnd (bnd (pur (.int 2)) fun x => bnd (bnd (bnd (sget s 4) fun x => bnd (pur []) fun r => pur (x :: r)) lenD) fun y => mulI x y) fun y => neD x y) asB) fun x => if x then pur true else bnd (bnd (bnd (bnd (sget s 2) fun x => bnd (bnd (sget s 4) fun x => bnd (pur []) fun r => pur (x :: r)) fun r => pur (x :: r)) (F_are_changes cP)) truM) fun b => pur (!b)) (seqS badS
    skipS) skipS)
    (seqS (retS fun s => sget s 4)
    skipS))))
def F__take_changes (cP : Addr) (kP : Ks) : List D → M D := fnM 3 6 (m__take_changes cP kP)
theorem sc__take_changes : FnScope [("lines" : Str), ("kind" : Str), ("sizes" : Str), ("numbers" : Str), ("changes" : Str), ("at" : Str)] [("lines" : Str), ("kind" : Str), ("sizes" : Str)] (defScope s__take_changes) := ⟨rfl, rfl, rfl, by decide +kernel, rfl, by decide +kernel, by decide +kernel⟩
theorem ok__take_changes (F : Fx P w K mg base) {fd : FuncData} (hF : FnP K ("_take_changes" : Str) s__take_changes (He.fAd K (("_take_changes" : Str), none)) fd) : FnOk P w K mg base (L2.CX P w) 7 (He.fAd K (("_take_changes" : Str), none)) fd [("lines" : Str), ("kind" : Str), ("sizes" : Str)] (spD ⟨K, tabs K, DL.fw w⟩ (F__take_changes (He.ga K ("Program" : Str)) (ks K w))) :=
  fn_D (N := [("lines" : Str), ("kind" : Str), ("sizes" : Str), ("numbers" : Str), ("changes" : Str), ("at" : Str)]) (ps := [("lines" : Str), ("kind" : Str), ("sizes" : Str)]) (k := 6) hF sc__take_changes 3 6 rfl rfl fun A outer s H E hr => by
    apply Exists.intro
    unfold m__take_changes
    exact (dss_cons (ds_set (i := 3) sc__take_changes.nd rfl (by first | exact Or.inl rfl | exact Or.inr rfl) (de_methO F.cls_Lines (ownM_Lines_take F) (hr.mono (by decide)) psE_of (de_var (pv 0)) (da_cons (de_var (pv 1)) da_nil)))
      (dss_cons (ds_set (i := 4) sc__take_changes.nd rfl (by first | exact Or.inl rfl | exact Or.inr rfl) (de_tupLcB [(("at" : Str), 5)] rfl F.g_tuple rfl sc__take_changes.nd rfl rfl (di_range3 rfl F.g_range (da_cons de_int (da_cons (de_callB call_len_seq calld_len rfl F.g_len boot_len (da_cons (de_var (pv 3)) da_nil)) (da_cons de_int da_nil)))) (fun s H C cl fp => by exact (dg_name (pg_name sc__take_changes.nd rfl (by first | exact Or.inl rfl | exact Or.inr rfl)))) (fun s H C cl fp => by exact dts_nil) (fun s H C cl fp => by exact (de_tup (da_cons (de_ix (de_var (pv 3)) (de_op op_sub opd_subI (de_var (pv 5)) de_int) (fun _ _ => rfl)) (da_cons (de_ix (de_var (pv 3)) (de_var (pv 5)) (fun _ _ => rfl)) da_nil))))))
      (dss_cons (ds_if (DW.dt (dw_or (dt_cmp (op_neD (hu64 hr)) opd_neD (de_callB call_len_seq calld_len rfl F.g_len boot_len (da_cons (de_var (pv 3)) da_nil)) (de_op op_mul opd_mulI de_int (de_callB call_len_seq calld_len rfl F.g_len boot_len (da_cons (de_var (pv 4)) da_nil))) (nomark _)) (dw_or1 (dt_not (dt_tru (de_own (own_are_changes F) (hr.mono (by decide)) rfl psE_of (da_cons (de_var (pv 2)) (da_cons (de_var (pv 4)) da_nil)))))))) (dss_cons ds_never
      dss_nil) dss_nil)
      (dss_cons (ds_ret (de_var (pv 4)))
      dss_nil))))
theorem own__take_changes (F : Fx P w K mg base) : Own P w K mg base (tabs K) 7 ("_take_changes" : Str) (F__take_changes (He.ga K ("Program" : Str)) (ks K w)) := by
  obtain ⟨fd, hF⟩ := F.f__take_changes
  exact ⟨_, fd, _, ok__take_changes F hF, F.g__take_changes, hF.kp, hF.bindsN fun _ _ _ _ _ _ us hl => match us, hl with | [_, _, _], _ => rfl⟩
def m__take_shown (cP : Addr) (kP : Ks) : MS := (seqS (asgS (fun s => bnd (sget s 0) fun x => bnd (insO (kP.a ("Lines" : Str)) ("take" : Str) x) fun x => bnd (bnd (sget s 1) fun x => bnd (pur []) fun r => pur (x :: r)) (methF (F_Lines_take cP kP) x)) (tgN 3))
    (seqS (ifS (fun s => bnd (bnd (bnd (sget s 3) fun x => bnd (bnd (pur []) mkT) fun y => eqD x y) asB) fun x => if x then pur true else bnd (bnd (bnd (bnd (sget s 2) fun x => bnd (bnd (bnd (bnd (bnd (sget s 3) fun x => bnd (pur (.int 0)) fun y => ixD x y) fun x => bnd (bnd (bnd (sget s 3) fun x => bnd (bnd (pur (.int 1)) asI) fun l => bnd (pur none) fun u => slD x l u) fun x => bnd (pur []) fun r => pur (x :: r)) fun r => pur (x :: r)) mkT) fun x => bnd (pur []) fun r => pur (x :: r)) fun r => pur (x :: r)) (F_is_shown cP)) truM) fun b => pur (!b)) (seqS badS
    skipS) skipS)
    (seqS (retS fun s => bnd (bnd (bnd (sget s 3) fun x => bnd (pur (.int 0)) fun y => ixD x y) fun x => bnd (bnd (bnd (sget s 3) fun x => bnd (bnd (pur (.int 1)) asI) fun l => bnd (pur none) fun u => slD x l u) fun x => bnd (pur []) fun r => pur (x :: r)) fun r => pur (x :: r)) mkT)
    skipS)))
def F__take_shown (cP : Addr) (kP : Ks) : List D → M D := fnM 3 4 (m__take_shown cP kP)
theorem sc__take_shown : FnScope [("lines" : Str), ("kind" : Str), ("sizes" : Str), ("numbers" : Str)] [("lines" : Str), ("kind" : Str), ("sizes" : Str)] (defScope s__take_shown) := ⟨rfl, rfl, rfl, by decide +kernel, rfl, by decide +kernel, by decide +kernel⟩
theorem ok__take_shown (F : Fx P w K mg base) {fd : FuncData} (hF : FnP K ("_take_shown" : Str) s__take_shown (He.fAd K (("_take_shown" : Str), none)) fd) : FnOk P w K mg base (L2.CX P w) 6 (He.fAd K (("_take_shown" : Str), none)) fd [("lines" : Str), ("kind" : Str), ("sizes" : Str)] (spD ⟨K, tabs K, DL.fw w⟩ (F__take_shown (He.ga K ("Program" : Str)) (ks K w))) :=
  fn_D (N := [("lines" : Str), ("kind" : Str), ("sizes" : Str), ("numbers" : Str)]) (ps := [("lines" : Str), ("kind" : Str), ("sizes" : Str)]) (k := 5) hF sc__take_shown 3 4 rfl rfl fun A outer s H E hr => by
    apply Exists.intro
    unfold m__take_shown
    exact (dss_cons (ds_set (i := 3) sc__take_shown.nd rfl (by first | exact Or.inl rfl | exact Or.inr rfl) (de_methO F.cls_Lines (ownM_Lines_take F) (hr.mono (by decide)) psE_of (de_var (pv 0)) (da_cons (de_var (pv 1)) da_nil)))
      (dss_cons (ds_if (DW.dt (dw_or (dt_cmp (op_eqD (hu64 hr)) opd_eqD (de_var (pv 3)) (de_tup da_nil) (nomark _)) (dw_or1 (dt_not (dt_tru (de_own (own_is_shown F) (hr.mono (by decide)) rfl psE_of (da_cons (de_var (pv 2)) (da_cons (de_tup (da_cons (de_ix (de_var (pv 3)) de_int (fun _ _ => rfl)) (da_cons (de_sl (de_var (pv 3)) (do_some de_int) do_none) da_nil))) da_nil)))))))) (dss_cons ds_never
      dss_nil) dss_nil)
      (dss_cons (ds_ret (de_tup (da_cons (de_ix (de_var (pv 3)) de_int (fun _ _ => rfl)) (da_cons (de_sl (de_var (pv 3)) (do_some de_int) do_none) da_nil))))
      dss_nil)))
theorem own__take_shown (F : Fx P w K mg base) : Own P w K mg base (tabs K) 6 ("_take_shown" : Str) (F__take_shown (He.ga K ("Program" : Str)) (ks K w)) := by
  obtain ⟨fd, hF⟩ := F.f__take_shown
  exact ⟨_, fd, _, ok__take_shown F hF, F.g__take_shown, hF.kp, hF.bindsN fun _ _ _ _ _ _ us hl => match us, hl with | [_, _, _], _ => rfl⟩
def m__take_part (cP : Addr) (kP : Ks) : MS := (seqS (ifS (fun s => bnd (bnd (bnd (sget s 0) fun x => bnd (insO (kP.a ("Lines" : Str)) ("take" : Str) x) fun x => bnd (bnd (pur (.str ("part" : Str))) fun x => bnd (pur []) fun r => pur (x :: r)) (methF (F_Lines_take cP kP) x)) fun x => bnd (bnd (pur []) mkT) fun y => neD x y) asB) (seqS badS
    skipS) skipS)
    (seqS (asgS (fun s => bnd (bnd (sget s 0) fun x => bnd (bnd (pur (.str ("look" : Str))) fun x => bnd (bnd (sget s 1) fun x => bnd (pur []) fun r => pur (x :: r)) fun r => pur (x :: r)) fun r => pur (x :: r)) (F__take_shown cP kP)) (tgN 2))
    (seqS (asgS (fun s => bnd (bnd (sget s 0) fun x => bnd (bnd (pur (.str ("word" : Str))) fun x => bnd (bnd (sget s 1) fun x => bnd (pur []) fun r => pur (x :: r)) fun r => pur (x :: r)) fun r => pur (x :: r)) (F__take_shown cP kP)) (tgN 3))
    (seqS (asgS (fun s => bnd (bnd (bnd (sget s 0) fun x => bnd (insO (kP.a ("Lines" : Str)) ("sees" : Str) x) fun x => bnd (bnd (pur (.str ("press" : Str))) fun x => bnd (pur []) fun r => pur (x :: r)) (methF (F_Lines_sees cP kP) x)) truM) fun x => if x then bnd (bnd (sget s 0) fun x => bnd (bnd (pur (.str ("press" : Str))) fun x => bnd (bnd (sget s 1) fun x => bnd (pur []) fun r => pur (x :: r)) fun r => pur (x :: r)) fun r => pur (x :: r)) (F__take_changes cP kP) else pur .non) (tgN 4))
    (seqS (retS fun s => bnd (bnd (sget s 2) fun x => bnd (bnd (sget s 3) fun x => bnd (bnd (sget s 4) fun x => bnd (pur []) fun r => pur (x :: r)) fun r => pur (x :: r)) fun r => pur (x :: r)) mkT)
    skipS)))))
def F__take_part (cP : Addr) (kP : Ks) : List D → M D := fnM 2 5 (m__take_part cP kP)
theorem sc__take_part : FnScope [("lines" : Str), ("sizes" : Str), ("look" : Str), ("word" : Str), ("press" : Str)] [("lines" : Str), ("sizes" : Str)] (defScope s__take_part) := ⟨rfl, rfl, rfl, by decide +kernel, rfl, by decide +kernel, by decide +kernel⟩
theorem ok__take_part (F : Fx P w K mg base) {fd : FuncData} (hF : FnP K ("_take_part" : Str) s__take_part (He.fAd K (("_take_part" : Str), none)) fd) : FnOk P w K mg base (L2.CX P w) 8 (He.fAd K (("_take_part" : Str), none)) fd [("lines" : Str), ("sizes" : Str)] (spD ⟨K, tabs K, DL.fw w⟩ (F__take_part (He.ga K ("Program" : Str)) (ks K w))) :=
  fn_D (N := [("lines" : Str), ("sizes" : Str), ("look" : Str), ("word" : Str), ("press" : Str)]) (ps := [("lines" : Str), ("sizes" : Str)]) (k := 7) hF sc__take_part 2 5 rfl rfl fun A outer s H E hr => by
    apply Exists.intro
    unfold m__take_part
    exact (dss_cons (ds_if (dt_cmp (op_neD (hu64 hr)) opd_neD (de_methO F.cls_Lines (ownM_Lines_take F) (hr.mono (by decide)) psE_of (de_var (pv 0)) (da_cons de_str da_nil)) (de_tup da_nil) (nomark _)) (dss_cons ds_never
      dss_nil) dss_nil)
      (dss_cons (ds_set (i := 2) sc__take_part.nd rfl (by first | exact Or.inl rfl | exact Or.inr rfl) (de_own (own__take_shown F) (hr.mono (by decide)) rfl psE_of (da_cons (de_var (pv 0)) (da_cons de_str (da_cons (de_var (pv 1)) da_nil)))))
      (dss_cons (ds_set (i := 3) sc__take_part.nd rfl (by first | exact Or.inl rfl | exact Or.inr rfl) (de_own (own__take_shown F) (hr.mono (by decide)) rfl psE_of (da_cons (de_var (pv 0)) (da_cons de_str (da_cons (de_var (pv 1)) da_nil)))))
      (dss_cons (ds_set (i := 4) sc__take_part.nd rfl (by first | exact Or.inl rfl | exact Or.inr rfl) (de_if (dt_tru (de_methO F.cls_Lines (ownM_Lines_sees F) (hr.mono (by decide)) psE_of (de_var (pv 0)) (da_cons de_str da_nil))) (de_own (own__take_changes F) (hr.mono (by decide)) rfl psE_of (da_cons (de_var (pv 0)) (da_cons de_str (da_cons (de_var (pv 1)) da_nil)))) de_non))
      (dss_cons (ds_ret (de_tup (da_cons (de_var (pv 2)) (da_cons (de_var (pv 3)) (da_cons (de_var (pv 4)) da_nil)))))
      dss_nil)))))
theorem own__take_part (F : Fx P w K mg base) : Own P w K mg base (tabs K) 8 ("_take_part" : Str) (F__take_part (He.ga K ("Program" : Str)) (ks K w)) := by
  obtain ⟨fd, hF⟩ := F.f__take_part
  exact ⟨_, fd, _, ok__take_part F hF, F.g__take_part, hF.kp, hF.bindsN fun _ _ _ _ _ _ us hl => match us, hl with | [_, _], _ => rfl⟩
def m__take_sizes (cP : Addr) (kP : Ks) : MS := (seqS (asgS (fun s => bnd (sget s 0) fun x => bnd (insO (kP.a ("Lines" : Str)) ("take" : Str) x) fun x => bnd (bnd (pur (.str ("sizes" : Str))) fun x => bnd (pur []) fun r => pur (x :: r)) (methF (F_Lines_take cP kP) x)) (tgN 1))
    (seqS (ifS (fun s => bnd (bnd (bnd (bnd (sget s 1) fun x => bnd (pur []) fun r => pur (x :: r)) (F_are_sizes cP)) truM) fun b => pur (!b)) (seqS badS
    skipS) skipS)
    (seqS (retS fun s => sget s 1)
    skipS)))
def F__take_sizes (cP : Addr) (kP : Ks) : List D → M D := fnM 1 2 (m__take_sizes cP kP)
theorem sc__take_sizes : FnScope [("lines" : Str), ("sizes" : Str)] [("lines" : Str)] (defScope s__take_sizes) := ⟨rfl, rfl, rfl, by decide +kernel, rfl, by decide +kernel, by decide +kernel⟩
theorem ok__take_sizes (F : Fx P w K mg base) {fd : FuncData} (hF : FnP K ("_take_sizes" : Str) s__take_sizes (He.fAd K (("_take_sizes" : Str), none)) fd) : FnOk P w K mg base (L2.CX P w) 6 (He.fAd K (("_take_sizes" : Str), none)) fd [("lines" : Str)] (spD ⟨K, tabs K, DL.fw w⟩ (F__take_sizes (He.ga K ("Program" : Str)) (ks K w))) :=
  fn_D (N := [("lines" : Str), ("sizes" : Str)]) (ps := [("lines" : Str)]) (k := 5) hF sc__take_sizes 1 2 rfl rfl fun A outer s H E hr => by
    apply Exists.intro
    unfold m__take_sizes
    exact (dss_cons (ds_set (i := 1) sc__take_sizes.nd rfl (by first | exact Or.inl rfl | exact Or.inr rfl) (de_methO F.cls_Lines (ownM_Lines_take F) (hr.mono (by decide)) psE_of (de_var (pv 0)) (da_cons de_str da_nil)))
      (dss_cons (ds_if (dt_not (dt_tru (de_own (own_are_sizes F) (hr.mono (by decide)) rfl psE_of (da_cons (de_var (pv 1)) da_nil)))) (dss_cons ds_never
      dss_nil) dss_nil)
      (dss_cons (ds_ret (de_var (pv 1)))
      dss_nil)))
theorem own__take_sizes (F : Fx P w K mg base) : Own P w K mg base (tabs K) 6 ("_take_sizes" : Str) (F__take_sizes (He.ga K ("Program" : Str)) (ks K w)) := by
  obtain ⟨fd, hF⟩ := F.f__take_sizes
  exact ⟨_, fd, _, ok__take_sizes F hF, F.g__take_sizes, hF.kp, hF.bindsN fun _ _ _ _ _ _ us hl => match us, hl with | [_], _ => rfl⟩
def ns_Lines : List Str := [("tail" : Str), ("rows" : Str), ("taken" : Str)]
def mf_Lines (cP : Addr) (kP : Ks) : Sl → M (List D) := (preO (asgS (fun s => bnd (sget s 1) fun x => bnd (tyM "str" x) fun x => bnd (bnd (pur (.str ("\n" : Str))) fun x => bnd (pur []) fun r => pur (x :: r)) (splitD x)) (tgN 2))
    (fun s => bnd (bnd (sget s 2) fun x => bnd (tyM "list" x) fun x => popD x []) fun x => bnd ((fun s => bnd (sget s 2) fun x => bnd ((fun s => bnd (pur (.int 0)) fun x => bnd ((fun _ => pur []) s) fun xs => pur (x :: xs)) s) fun xs => pur (x :: xs)) s) fun xs => pur (x :: xs)))
theorem sc_Lines_init : FnScope [("self" : Str), ("text" : Str), ("rows" : Str)] [("self" : Str), ("text" : Str)] (defScope s_Lines_init) := ⟨rfl, rfl, rfl, by decide +kernel, rfl, by decide +kernel, by decide +kernel⟩
theorem free_Lines (cP : Addr) (kP : Ks) : FreeO (mf_Lines cP kP) := (free_pre (fun _ _ _ => rfl) (free_cons (fun _ _ _ => rfl) (free_cons (fun _ _ _ => rfl) (free_cons (fun _ _ _ => rfl) free_nil))))
theorem ownO_Lines (F : Fx P w K mg base) : OwnO P w K mg base (tabs K) 1 ("Lines" : Str) (He.ga K ("Lines" : Str)) ns_Lines (mf_Lines (He.ga K ("Program" : Str)) (ks K w)) 1 1 := by
  obtain ⟨fd, hF⟩ := F.f_Lines_init
  have hm : He.fAd K (("Lines" : Str), some "__init__") = He.ma K (He.ga K ("Lines" : Str)) "__init__" := rfl
  exact ⟨_, fd, [("self" : Str), ("text" : Str)], fn_O (N := [("self" : Str), ("text" : Str), ("rows" : Str)]) (ps := [("self" : Str), ("text" : Str)]) (j := 0) hF sc_Lines_init rfl rfl (by decide +kernel) (by decide) (free_Lines _ _) fun A outer s H E hr => by
    apply Exists.intro
    unfold mf_Lines ns_Lines
    exact (do_st (ds_set (i := 2) sc_Lines_init.nd rfl (by first | exact Or.inl rfl | exact Or.inr rfl) (de_bm (T := "str") (.inr (.inr rfl)) PySem.F.plainAttrs_str PySem.F.slot_str_split PySem.F.type_str_split mt_split mtd_split (de_var (pv 1)) (da_cons de_str da_nil)))
      (do_cons F.cls_Lines F.no_Lines_tail (by decide) (pv 0) (de_bm0 (T := "list") (.inl rfl) PySem.F.plainAttrs_list PySem.F.slot_list_pop PySem.F.type_list_pop mt_pop mtd_pop (de_var (pv 2)))
      (do_cons F.cls_Lines F.no_Lines_rows (by decide) (pv 0) (de_var (pv 2))
      (do_cons F.cls_Lines F.no_Lines_taken (by decide) (pv 0) de_int
      do_nil)))), F.g_Lines, F.mk_Lines, hF.bindsN fun _ _ _ _ _ _ us hl => match us, hl with | [_, _], _ => rfl⟩
def m_parse_program (cP : Addr) (kP : Ks) : MS := (seqS (asgS (fun s => bnd (bnd (sget s 0) fun x => bnd (pur []) fun r => pur (x :: r)) (makeO (kP.a ("Lines" : Str)) ns_Lines (mf_Lines cP kP) 1 1)) (tgN 1))
    (seqS (asgS (fun s => bnd (bnd (sget s 1) fun x => bnd (pur []) fun r => pur (x :: r)) (F__take_sizes cP kP)) (tgN 2))
    (seqS (asgS (fun s => bnd (bnd (bnd (bnd (sget s 1) fun x => bnd (bnd (sget s 2) fun x => bnd (pur []) fun r => pur (x :: r)) fun r => pur (x :: r)) (F__take_part cP kP)) fun x => bnd (pur []) fun r => pur (x :: r)) mkL) (tgN 3))
    (seqS (whileS (fun s => bnd (bnd (bnd (bnd (bnd (sget s 3) fun x => bnd (pur []) fun r => pur (x :: r)) lenD) fun x => bnd (pur (.int 4)) fun y => ltI x y) asB) fun x => if x then bnd (bnd (sget s 1) fun x => bnd (insO (kP.a ("Lines" : Str)) ("sees" : Str) x) fun x => bnd (bnd (pur (.str ("part" : Str))) fun x => bnd (pur []) fun r => pur (x :: r)) (methF (F_Lines_sees cP kP) x)) truM else pur false) (seqS (dropS fun s => bnd (sget s 3) fun x => bnd (tyM "list" x) fun x => bnd (bnd (bnd (bnd (sget s 1) fun x => bnd (bnd (sget s 2) fun x => bnd (pur []) fun r => pur (x :: r)) fun r => pur (x :: r)) (F__take_part cP kP)) fun x => bnd (pur []) fun r => pur (x :: r)) (appendD x))
    skipS))
    (seqS (asgS (fun s => bnd (pur []) mkL) (tgN 4))
    (seqS (whileS (fun s => bnd (bnd (bnd (bnd (bnd (sget s 4) fun x => bnd (pur []) fun r => pur (x :: r)) lenD) fun x => bnd (pur (.int 2)) fun y => ltI x y) asB) fun x => if x then bnd (bnd (sget s 1) fun x => bnd (insO (kP.a ("Lines" : Str)) ("sees" : Str) x) fun x => bnd (bnd (pur (.str ("tick" : Str))) fun x => bnd (pur []) fun r => pur (x :: r)) (methF (F_Lines_sees cP kP) x)) truM else pur false) (seqS (dropS fun s => bnd (sget s 4) fun x => bnd (tyM "list" x) fun x => bnd (bnd (bnd (bnd (sget s 1) fun x => bnd (bnd (pur (.str ("tick" : Str))) fun x => bnd (bnd (sget s 2) fun x => bnd (pur []) fun r => pur (x :: r)) fun r => pur (x :: r)) fun r => pur (x :: r)) (F__take_changes cP kP)) fun x => bnd (pur []) fun r => pur (x :: r)) (appendD x))
    skipS))
    (seqS (asgS (fun s => bnd (bnd (sget s 1) fun x => bnd (bnd (pur (.str ("live" : Str))) fun x => bnd (bnd (bnd (bnd (sget s 3) fun x => bnd (pur []) fun r => pur (x :: r)) lenD) fun x => bnd (pur []) fun r => pur (x :: r)) fun r => pur (x :: r)) fun r => pur (x :: r)) (F__take_indexes cP kP)) (tgN 5))
    (seqS (asgS (fun s => bnd (bnd (sget s 1) fun x => bnd (bnd (pur (.str ("skips" : Str))) fun x => bnd (bnd (bnd (bnd (sget s 3) fun x => bnd (pur []) fun r => pur (x :: r)) lenD) fun x => bnd (pur []) fun r => pur (x :: r)) fun r => pur (x :: r)) fun r => pur (x :: r)) (F__take_indexes cP kP)) (tgN 6))
    (seqS (dropS fun s => bnd (sget s 1) fun x => bnd (insO (kP.a ("Lines" : Str)) ("finish" : Str) x) fun x => bnd (pur []) (methF (F_Lines_finish cP kP) x))
    (seqS (retS fun s => bnd (bnd (sget s 2) fun x => bnd (bnd (bnd (bnd (sget s 3) fun x => bnd (pur []) fun r => pur (x :: r)) tupleD) fun x => bnd (bnd (bnd (bnd (sget s 4) fun x => bnd (pur []) fun r => pur (x :: r)) tupleD) fun x => bnd (bnd (sget s 5) fun x => bnd (bnd (sget s 6) fun x => bnd (pur []) fun r => pur (x :: r)) fun r => pur (x :: r)) fun r => pur (x :: r)) fun r => pur (x :: r)) fun r => pur (x :: r)) (makeD cP nsP (m_init cP)))
    skipS))))))))))
def F_parse_program (cP : Addr) (kP : Ks) : List D → M D := fnM 1 7 (m_parse_program cP kP)
theorem sc_parse_program : FnScope [("text" : Str), ("lines" : Str), ("sizes" : Str), ("parts" : Str), ("ticks" : Str), ("live" : Str), ("skips" : Str)] [("text" : Str)] (defScope s_parse_program) := ⟨rfl, rfl, rfl, by decide +kernel, rfl, by decide +kernel, by decide +kernel⟩
theorem ok_parse_program (F : Fx P w K mg base) {fd : FuncData} (hF : FnP K ("parse_program" : Str) s_parse_program (He.fAd K (("parse_program" : Str), none)) fd) : FnOk P w K mg base (L2.CX P w) 14 (He.fAd K (("parse_program" : Str), none)) fd [("text" : Str)] (spD ⟨K, tabs K, DL.fw w⟩ (F_parse_program (He.ga K ("Program" : Str)) (ks K w))) :=
  fn_D (N := [("text" : Str), ("lines" : Str), ("sizes" : Str), ("parts" : Str), ("ticks" : Str), ("live" : Str), ("skips" : Str)]) (ps := [("text" : Str)]) (k := 13) hF sc_parse_program 1 7 rfl rfl fun A outer s H E hr => by
    apply Exists.intro
    unfold m_parse_program
    exact (dss_cons (ds_set (i := 1) sc_parse_program.nd rfl (by first | exact Or.inl rfl | exact Or.inr rfl) (de_makeO (ownO_Lines F) (hr.mono (by decide)) rfl psE_of (da_cons (de_var (pv 0)) da_nil) rfl (by decide)))
      (dss_cons (ds_set (i := 2) sc_parse_program.nd rfl (by first | exact Or.inl rfl | exact Or.inr rfl) (de_own (own__take_sizes F) (hr.mono (by decide)) rfl psE_of (da_cons (de_var (pv 1)) da_nil)))
      (dss_cons (ds_set (i := 3) sc_parse_program.nd rfl (by first | exact Or.inl rfl | exact Or.inr rfl) (de_lst (da_cons (de_own (own__take_part F) (hr.mono (by decide)) rfl psE_of (da_cons (de_var (pv 1)) (da_cons (de_var (pv 2)) da_nil))) da_nil)))
      (dss_cons (ds_while pown_of (DW.dt (dw_and (dt_cmp op_lt opd_ltI (de_callB call_len_seq calld_len rfl F.g_len boot_len (da_cons (de_var (pv 3)) da_nil)) (de_globI rfl F.c_MOST_PARTS) (nomark _)) (dw_and1 (dt_tru (de_methO F.cls_Lines (ownM_Lines_sees F) (hr.mono (by decide)) psE_of (de_var (pv 1)) (da_cons de_str da_nil)))))) (dss_cons (ds_expr (de_bm (T := "list") (.inl rfl) PySem.F.plainAttrs_list PySem.F.slot_list_append PySem.F.type_list_append mt_append mtd_append (de_var (pv 3)) (da_cons (de_own (own__take_part F) (hr.mono (by decide)) rfl psE_of (da_cons (de_var (pv 1)) (da_cons (de_var (pv 2)) da_nil))) da_nil)))
      dss_nil))
      (dss_cons (ds_set (i := 4) sc_parse_program.nd rfl (by first | exact Or.inl rfl | exact Or.inr rfl) (de_lst da_nil))
      (dss_cons (ds_while pown_of (DW.dt (dw_and (dt_cmp op_lt opd_ltI (de_callB call_len_seq calld_len rfl F.g_len boot_len (da_cons (de_var (pv 4)) da_nil)) (de_globI rfl F.c_MOST_TICKS) (nomark _)) (dw_and1 (dt_tru (de_methO F.cls_Lines (ownM_Lines_sees F) (hr.mono (by decide)) psE_of (de_var (pv 1)) (da_cons de_str da_nil)))))) (dss_cons (ds_expr (de_bm (T := "list") (.inl rfl) PySem.F.plainAttrs_list PySem.F.slot_list_append PySem.F.type_list_append mt_append mtd_append (de_var (pv 4)) (da_cons (de_own (own__take_changes F) (hr.mono (by decide)) rfl psE_of (da_cons (de_var (pv 1)) (da_cons de_str (da_cons (de_var (pv 2)) da_nil)))) da_nil)))
      dss_nil))
      (dss_cons (ds_set (i := 5) sc_parse_program.nd rfl (by first | exact Or.inl rfl | exact Or.inr rfl) (de_own (own__take_indexes F) (hr.mono (by decide)) rfl psE_of (da_cons (de_var (pv 1)) (da_cons de_str (da_cons (de_callB call_len_seq calld_len rfl F.g_len boot_len (da_cons (de_var (pv 3)) da_nil)) da_nil)))))
      (dss_cons (ds_set (i := 6) sc_parse_program.nd rfl (by first | exact Or.inl rfl | exact Or.inr rfl) (de_own (own__take_indexes F) (hr.mono (by decide)) rfl psE_of (da_cons (de_var (pv 1)) (da_cons de_str (da_cons (de_callB call_len_seq calld_len rfl F.g_len boot_len (da_cons (de_var (pv 3)) da_nil)) da_nil)))))
      (dss_cons (ds_expr (de_meth0O F.cls_Lines (ownM_Lines_finish F) (hr.mono (by decide)) psE_of (de_var (pv 1))))
      (dss_cons (ds_ret (de_make (own_Program F) (hr.mono (by decide)) rfl psE_of (dk_cons (de_var (pv 2)) (dk_cons (de_callTy call_tuple_of calld_tuple rfl F.g_tuple PyProof.Rows.boot_tuple (da_cons (de_var (pv 3)) da_nil)) (dk_cons (de_callTy call_tuple_of calld_tuple rfl F.g_tuple PyProof.Rows.boot_tuple (da_cons (de_var (pv 4)) da_nil)) (dk_cons (de_var (pv 5)) (dk_cons (de_var (pv 6)) dk_nil))))) (by exact ⟨(fun z => nomatch z), by decide +kernel⟩)))
      dss_nil))))))))))
theorem own_parse_program (F : Fx P w K mg base) : Own P w K mg base (tabs K) 14 ("parse_program" : Str) (F_parse_program (He.ga K ("Program" : Str)) (ks K w)) := by
  obtain ⟨fd, hF⟩ := F.f_parse_program
  exact ⟨_, fd, _, ok_parse_program F hF, F.g_parse_program, hF.kp, hF.bindsN fun _ _ _ _ _ _ us hl => match us, hl with | [_], _ => rfl⟩
def m__law_all (cP : Addr) : MS := (seqS (retS fun s => bnd (bnd (bnd (sget s 0) (fldD cP ("sizes" : Str))) fun x => bnd (bnd (bnd (sget s 0) (fldD cP ("parts" : Str))) fun x => bnd (bnd (bnd (sget s 0) (fldD cP ("ticks" : Str))) fun x => bnd (bnd (bnd (sget s 0) (fldD cP ("live" : Str))) fun x => bnd (bnd (bnd (sget s 0) (fldD cP ("skips" : Str))) fun x => bnd (pur []) fun r => pur (x :: r)) fun r => pur (x :: r)) fun r => pur (x :: r)) fun r => pur (x :: r)) fun r => pur (x :: r)) mkT)
    skipS)
def F__law_all (cP : Addr) : List D → M D := fnM 1 1 (m__law_all cP)
theorem sc__law_all : FnScope [("program" : Str)] [("program" : Str)] (defScope s__law_all) := ⟨rfl, rfl, rfl, by decide +kernel, rfl, by decide +kernel, by decide +kernel⟩
theorem ok__law_all (F : Fx P w K mg base) {fd : FuncData} (hF : FnP K ("_law_all" : Str) s__law_all (He.fAd K (("_law_all" : Str), none)) fd) : FnOk P w K mg base (L2.CX P w) 1 (He.fAd K (("_law_all" : Str), none)) fd [("program" : Str)] (spD ⟨K, tabs K, DL.fw w⟩ (F__law_all (He.ga K ("Program" : Str)))) :=
  fn_D (N := [("program" : Str)]) (ps := [("program" : Str)]) (k := 0) hF sc__law_all 1 1 rfl rfl fun A outer s H E hr => by
    apply Exists.intro
    unfold m__law_all
    exact (dss_cons (ds_ret (de_tup (da_cons (de_fld F.cls F.no_sizes (de_var (pv 0))) (da_cons (de_fld F.cls F.no_parts (de_var (pv 0))) (da_cons (de_fld F.cls F.no_ticks (de_var (pv 0))) (da_cons (de_fld F.cls F.no_live (de_var (pv 0))) (da_cons (de_fld F.cls F.no_skips (de_var (pv 0))) da_nil)))))))
      dss_nil)
theorem own__law_all (F : Fx P w K mg base) : Own P w K mg base (tabs K) 1 ("_law_all" : Str) (F__law_all (He.ga K ("Program" : Str))) := by
  obtain ⟨fd, hF⟩ := F.f__law_all
  exact ⟨_, fd, _, ok__law_all F hF, F.g__law_all, hF.kp, hF.bindsN fun _ _ _ _ _ _ us hl => match us, hl with | [_], _ => rfl⟩
def m__law_text (cP : Addr) : MS := (seqS (retS fun s => bnd (pur (.str ("" : Str))) fun x => bnd (tyM "str" x) fun x => bnd (bnd (bnd (compD (fun s => bnd (sget s 0) seqW) (tgN 1) (fun s => pur true) (fun s => bnd (sget s 1) fun x => bnd (pur (.str ("\n" : Str))) fun y => addD x y) [1] s) newL) fun x => bnd (pur []) fun r => pur (x :: r)) (joinD x))
    skipS)
def F__law_text (cP : Addr) : List D → M D := fnM 1 2 (m__law_text cP)
theorem sc__law_text : FnScope [("lines" : Str), ("line" : Str)] [("lines" : Str)] (defScope s__law_text) := ⟨rfl, rfl, rfl, by decide +kernel, rfl, by decide +kernel, by decide +kernel⟩
theorem ok__law_text (F : Fx P w K mg base) {fd : FuncData} (hF : FnP K ("_law_text" : Str) s__law_text (He.fAd K (("_law_text" : Str), none)) fd) : FnOk P w K mg base (L2.CX P w) 1 (He.fAd K (("_law_text" : Str), none)) fd [("lines" : Str)] (spD ⟨K, tabs K, DL.fw w⟩ (F__law_text (He.ga K ("Program" : Str)))) :=
  fn_D (N := [("lines" : Str), ("line" : Str)]) (ps := [("lines" : Str)]) (k := 0) hF sc__law_text 1 2 rfl rfl fun A outer s H E hr => by
    apply Exists.intro
    unfold m__law_text
    exact (dss_cons (ds_ret (de_bm (T := "str") (.inr (.inr rfl)) PySem.F.plainAttrs_str PySem.F.slot_str_join PySem.F.type_str_join mt_joinS mtd_join de_str (da_cons (de_lcB [(("line" : Str), 1)] rfl sc__law_text.nd rfl rfl (di_seq (de_var (pv 0))) (fun s H C cl fp => by exact (dg_name (pg_name sc__law_text.nd rfl (by first | exact Or.inl rfl | exact Or.inr rfl)))) (fun s H C cl fp => by exact dts_nil) (fun s H C cl fp => by exact (de_op op_addA opd_addD (de_var (pv 1)) de_str))) da_nil)))
      dss_nil)
theorem own__law_text (F : Fx P w K mg base) : Own P w K mg base (tabs K) 1 ("_law_text" : Str) (F__law_text (He.ga K ("Program" : Str))) := by
  obtain ⟨fd, hF⟩ := F.f__law_text
  exact ⟨_, fd, _, ok__law_text F hF, F.g__law_text, hF.kp, hF.bindsN fun _ _ _ _ _ _ us hl => match us, hl with | [_], _ => rfl⟩
def m__law_line (cP : Addr) : MS := (seqS (asgS (fun s => sget s 0) (tgN 2))
    (seqS (forS (fun s => bnd (sget s 1) seqW) (tgN 3) (seqS (asgS (fun s => bnd (bnd (sget s 2) fun x => bnd (pur (.str (" " : Str))) fun y => addD x y) fun x => bnd (bnd (pur (.str ("01234567" : Str))) fun x => bnd (sget s 3) fun y => ixSD x y) fun y => addD x y) (tgN 2))
    skipS))
    (seqS (retS fun s => sget s 2)
    skipS)))
def F__law_line (cP : Addr) : List D → M D := fnM 2 4 (m__law_line cP)
theorem sc__law_line : FnScope [("word" : Str), ("numbers" : Str), ("text" : Str), ("number" : Str)] [("word" : Str), ("numbers" : Str)] (defScope s__law_line) := ⟨rfl, rfl, rfl, by decide +kernel, rfl, by decide +kernel, by decide +kernel⟩
theorem ok__law_line (F : Fx P w K mg base) {fd : FuncData} (hF : FnP K ("_law_line" : Str) s__law_line (He.fAd K (("_law_line" : Str), none)) fd) : FnOk P w K mg base (L2.CX P w) 1 (He.fAd K (("_law_line" : Str), none)) fd [("word" : Str), ("numbers" : Str)] (spD ⟨K, tabs K, DL.fw w⟩ (F__law_line (He.ga K ("Program" : Str)))) :=
  fn_D (N := [("word" : Str), ("numbers" : Str), ("text" : Str), ("number" : Str)]) (ps := [("word" : Str), ("numbers" : Str)]) (k := 0) hF sc__law_line 2 4 rfl rfl fun A outer s H E hr => by
    apply Exists.intro
    unfold m__law_line
    exact (dss_cons (ds_set (i := 2) sc__law_line.nd rfl (by first | exact Or.inl rfl | exact Or.inr rfl) (de_var (pv 0)))
      (dss_cons (ds_for pown_of rfl (di_seq (de_var (pv 1))) (dg_name (pg_name sc__law_line.nd rfl (by first | exact Or.inl rfl | exact Or.inr rfl))) (dss_cons (ds_set (i := 2) sc__law_line.nd rfl (by first | exact Or.inl rfl | exact Or.inr rfl) (de_op op_addA opd_addD (de_op op_addA opd_addD (de_var (pv 2)) de_str) (de_ixS de_str (de_var (pv 3)) (fun _ _ => rfl))))
      dss_nil))
      (dss_cons (ds_ret (de_var (pv 2)))
      dss_nil)))
theorem own__law_line (F : Fx P w K mg base) : Own P w K mg base (tabs K) 1 ("_law_line" : Str) (F__law_line (He.ga K ("Program" : Str))) := by
  obtain ⟨fd, hF⟩ := F.f__law_line
  exact ⟨_, fd, _, ok__law_line F hF, F.g__law_line, hF.kp, hF.bindsN fun _ _ _ _ _ _ us hl => match us, hl with | [_, _], _ => rfl⟩
def m__law_flat (cP : Addr) : MS := (seqS (asgS (fun s => bnd (pur []) mkL) (tgN 1))
    (seqS (forS (fun s => bnd (sget s 0) seqW) (tgT2 2 3) (seqS (asgS (fun s => bnd (sget s 1) fun x => bnd (bnd (bnd (sget s 2) fun x => bnd (bnd (sget s 3) fun x => bnd (pur []) fun r => pur (x :: r)) fun r => pur (x :: r)) mkL) fun y => addD x y) (tgN 1))
    skipS))
    (seqS (retS fun s => sget s 1)
    skipS)))
def F__law_flat (cP : Addr) : List D → M D := fnM 1 4 (m__law_flat cP)
theorem sc__law_flat : FnScope [("changes" : Str), ("found" : Str), ("variable" : Str), ("add" : Str)] [("changes" : Str)] (defScope s__law_flat) := ⟨rfl, rfl, rfl, by decide +kernel, rfl, by decide +kernel, by decide +kernel⟩
theorem ok__law_flat (F : Fx P w K mg base) {fd : FuncData} (hF : FnP K ("_law_flat" : Str) s__law_flat (He.fAd K (("_law_flat" : Str), none)) fd) : FnOk P w K mg base (L2.CX P w) 1 (He.fAd K (("_law_flat" : Str), none)) fd [("changes" : Str)] (spD ⟨K, tabs K, DL.fw w⟩ (F__law_flat (He.ga K ("Program" : Str)))) :=
  fn_D (N := [("changes" : Str), ("found" : Str), ("variable" : Str), ("add" : Str)]) (ps := [("changes" : Str)]) (k := 0) hF sc__law_flat 1 4 rfl rfl fun A outer s H E hr => by
    apply Exists.intro
    unfold m__law_flat
    exact (dss_cons (ds_set (i := 1) sc__law_flat.nd rfl (by first | exact Or.inl rfl | exact Or.inr rfl) (de_lst da_nil))
      (dss_cons (ds_for pown_of rfl (di_seq (de_var (pv 0))) (dg_tup2 (pg_tup rfl (pgs_cons (pg_name sc__law_flat.nd rfl (by first | exact Or.inl rfl | exact Or.inr rfl)) (pgs_cons (pg_name sc__law_flat.nd rfl (by first | exact Or.inl rfl | exact Or.inr rfl)) pgs_nil)))) (dss_cons (ds_set (i := 1) sc__law_flat.nd rfl (by first | exact Or.inl rfl | exact Or.inr rfl) (de_op op_addA opd_addD (de_var (pv 1)) (de_lst (da_cons (de_var (pv 2)) (da_cons (de_var (pv 3)) da_nil)))))
      dss_nil))
      (dss_cons (ds_ret (de_var (pv 1)))
      dss_nil)))
theorem own__law_flat (F : Fx P w K mg base) : Own P w K mg base (tabs K) 1 ("_law_flat" : Str) (F__law_flat (He.ga K ("Program" : Str))) := by
  obtain ⟨fd, hF⟩ := F.f__law_flat
  exact ⟨_, fd, _, ok__law_flat F hF, F.g__law_flat, hF.kp, hF.bindsN fun _ _ _ _ _ _ us hl => match us, hl with | [_], _ => rfl⟩
def m__law_lines (cP : Addr) (kP : Ks) : MS := (seqS (asgS (fun s => bnd (bnd (bnd (bnd (pur (.str ("sizes" : Str))) fun x => bnd (bnd (bnd (sget s 0) fun x => bnd (pur (.str ("sizes" : Str))) fun y => dgetD x y) fun x => bnd (pur []) fun r => pur (x :: r)) fun r => pur (x :: r)) (F__law_line cP)) fun x => bnd (pur []) fun r => pur (x :: r)) mkL) (tgN 1))
    (seqS (forS (fun s => bnd (bnd (sget s 0) fun x => bnd (pur (.str ("parts" : Str))) fun y => dgetD x y) seqW) (tgT3 2 3 4) (seqS (dropS fun s => bnd (sget s 1) fun x => bnd (tyM "list" x) fun x => bnd (bnd (pur (.str ("part" : Str))) fun x => bnd (pur []) fun r => pur (x :: r)) (appendD x))
    (seqS (dropS fun s => bnd (sget s 1) fun x => bnd (tyM "list" x) fun x => bnd (bnd (bnd (bnd (pur (.str ("look" : Str))) fun x => bnd (bnd (bnd (bnd (bnd (bnd (sget s 2) fun x => bnd (pur (.int 0)) fun y => ixD x y) fun x => bnd (pur []) fun r => pur (x :: r)) mkL) fun x => bnd (bnd (bnd (bnd (sget s 2) fun x => bnd (pur (.int 1)) fun y => ixD x y) fun x => bnd (pur []) fun r => pur (x :: r)) listD) fun y => addD x y) fun x => bnd (pur []) fun r => pur (x :: r)) fun r => pur (x :: r)) (F__law_line cP)) fun x => bnd (pur []) fun r => pur (x :: r)) (appendD x))
    (seqS (dropS fun s => bnd (sget s 1) fun x => bnd (tyM "list" x) fun x => bnd (bnd (bnd (bnd (pur (.str ("word" : Str))) fun x => bnd (bnd (bnd (bnd (bnd (bnd (sget s 3) fun x => bnd (pur (.int 0)) fun y => ixD x y) fun x => bnd (pur []) fun r => pur (x :: r)) mkL) fun x => bnd (bnd (bnd (bnd (sget s 3) fun x => bnd (pur (.int 1)) fun y => ixD x y) fun x => bnd (pur []) fun r => pur (x :: r)) listD) fun y => addD x y) fun x => bnd (pur []) fun r => pur (x :: r)) fun r => pur (x :: r)) (F__law_line cP)) fun x => bnd (pur []) fun r => pur (x :: r)) (appendD x))
    (seqS (ifS (fun s => bnd (bnd (sget s 4) fun x => bnd (pur .non) fun y => (isNoneD true) x y) asB) (seqS (dropS fun s => bnd (sget s 1) fun x => bnd (tyM "list" x) fun x => bnd (bnd (bnd (bnd (pur (.str ("press" : Str))) fun x => bnd (bnd (bnd (bnd (sget s 4) fun x => bnd (pur []) fun r => pur (x :: r)) (F__law_flat cP)) fun x => bnd (pur []) fun r => pur (x :: r)) fun r => pur (x :: r)) (F__law_line cP)) fun x => bnd (pur []) fun r => pur (x :: r)) (appendD x))
    skipS) skipS)
    skipS)))))
    (seqS (forS (fun s => bnd (bnd (sget s 0) fun x => bnd (pur (.str ("ticks" : Str))) fun y => dgetD x y) seqW) (tgN 5) (seqS (dropS fun s => bnd (sget s 1) fun x => bnd (tyM "list" x) fun x => bnd (bnd (bnd (bnd (pur (.str ("tick" : Str))) fun x => bnd (bnd (bnd (bnd (sget s 5) fun x => bnd (pur []) fun r => pur (x :: r)) (F__law_flat cP)) fun x => bnd (pur []) fun r => pur (x :: r)) fun r => pur (x :: r)) (F__law_line cP)) fun x => bnd (pur []) fun r => pur (x :: r)) (appendD x))
    skipS))
    (seqS (forS (fun s => bnd (bnd (bnd (pur (.str ("live" : Str))) fun x => bnd (bnd (pur (.str ("skips" : Str))) fun x => bnd (pur []) fun r => pur (x :: r)) fun r => pur (x :: r)) mkT) seqW) (tgN 3) (seqS (ifS (fun s => bnd (bnd (bnd (sget s 0) fun x => bnd (sget s 3) fun y => dgetD x y) fun x => bnd (bnd (pur []) mkT) fun y => neD x y) asB) (seqS (dropS fun s => bnd (sget s 1) fun x => bnd (tyM "list" x) fun x => bnd (bnd (bnd (bnd (sget s 3) fun x => bnd (bnd (bnd (sget s 0) fun x => bnd (sget s 3) fun y => dgetD x y) fun x => bnd (pur []) fun r => pur (x :: r)) fun r => pur (x :: r)) (F__law_line cP)) fun x => bnd (pur []) fun r => pur (x :: r)) (appendD x))
    skipS) skipS)
    skipS))
    (seqS (retS fun s => sget s 1)
    skipS)))))
def F__law_lines (cP : Addr) (kP : Ks) : List D → M D := fnM 1 6 (m__law_lines cP kP)
theorem sc__law_lines : FnScope [("data" : Str), ("lines" : Str), ("look" : Str), ("word" : Str), ("press" : Str), ("changes" : Str)] [("data" : Str)] (defScope s__law_lines) := ⟨rfl, rfl, rfl, by decide +kernel, rfl, by decide +kernel, by decide +kernel⟩
theorem ok__law_lines (F : Fx P w K mg base) {fd : FuncData} (hF : FnP K ("_law_lines" : Str) s__law_lines (He.fAd K (("_law_lines" : Str), none)) fd) : FnOk P w K mg base (L2.CX P w) 2 (He.fAd K (("_law_lines" : Str), none)) fd [("data" : Str)] (spD ⟨K, tabs K, DL.fw w⟩ (F__law_lines (He.ga K ("Program" : Str)) (ks K w))) :=
  fn_D (N := [("data" : Str), ("lines" : Str), ("look" : Str), ("word" : Str), ("press" : Str), ("changes" : Str)]) (ps := [("data" : Str)]) (k := 1) hF sc__law_lines 1 6 rfl rfl fun A outer s H E hr => by
    apply Exists.intro
    unfold m__law_lines
    exact (dss_cons (ds_set (i := 1) sc__law_lines.nd rfl (by first | exact Or.inl rfl | exact Or.inr rfl) (de_lst (da_cons (de_own (own__law_line F) (hr.mono (by decide)) rfl psE_of (da_cons de_str (da_cons (de_dget (hu1 hr) (de_var (pv 0)) de_str) da_nil))) da_nil)))
      (dss_cons (ds_for pown_of rfl (di_seq (de_dget (hu1 hr) (de_var (pv 0)) de_str)) (dg_tup3 (pg_tup rfl (pgs_cons (pg_name sc__law_lines.nd rfl (by first | exact Or.inl rfl | exact Or.inr rfl)) (pgs_cons (pg_name sc__law_lines.nd rfl (by first | exact Or.inl rfl | exact Or.inr rfl)) (pgs_cons (pg_name sc__law_lines.nd rfl (by first | exact Or.inl rfl | exact Or.inr rfl)) pgs_nil))))) (dss_cons (ds_expr (de_bm (T := "list") (.inl rfl) PySem.F.plainAttrs_list PySem.F.slot_list_append PySem.F.type_list_append mt_append mtd_append (de_var (pv 1)) (da_cons de_str da_nil)))
      (dss_cons (ds_expr (de_bm (T := "list") (.inl rfl) PySem.F.plainAttrs_list PySem.F.slot_list_append PySem.F.type_list_append mt_append mtd_append (de_var (pv 1)) (da_cons (de_own (own__law_line F) (hr.mono (by decide)) rfl psE_of (da_cons de_str (da_cons (de_op op_addA opd_addD (de_lst (da_cons (de_ix (de_var (pv 2)) de_int (fun _ _ => rfl)) da_nil)) (de_callTy call_list_of calld_list rfl F.g_list PyProof.Rows.boot_list (da_cons (de_ix (de_var (pv 2)) de_int (fun _ _ => rfl)) da_nil))) da_nil))) da_nil)))
      (dss_cons (ds_expr (de_bm (T := "list") (.inl rfl) PySem.F.plainAttrs_list PySem.F.slot_list_append PySem.F.type_list_append mt_append mtd_append (de_var (pv 1)) (da_cons (de_own (own__law_line F) (hr.mono (by decide)) rfl psE_of (da_cons de_str (da_cons (de_op op_addA opd_addD (de_lst (da_cons (de_ix (de_var (pv 3)) de_int (fun _ _ => rfl)) da_nil)) (de_callTy call_list_of calld_list rfl F.g_list PyProof.Rows.boot_list (da_cons (de_ix (de_var (pv 3)) de_int (fun _ _ => rfl)) da_nil))) da_nil))) da_nil)))
      (dss_cons (ds_if (dt_cmp op_notN opd_notN (de_var (pv 4)) de_non (nomark _)) (dss_cons (ds_expr (de_bm (T := "list") (.inl rfl) PySem.F.plainAttrs_list PySem.F.slot_list_append PySem.F.type_list_append mt_append mtd_append (de_var (pv 1)) (da_cons (de_own (own__law_line F) (hr.mono (by decide)) rfl psE_of (da_cons de_str (da_cons (de_own (own__law_flat F) (hr.mono (by decide)) rfl psE_of (da_cons (de_var (pv 4)) da_nil)) da_nil))) da_nil)))
      dss_nil) dss_nil)
      dss_nil)))))
      (dss_cons (ds_for pown_of rfl (di_seq (de_dget (hu1 hr) (de_var (pv 0)) de_str)) (dg_name (pg_name sc__law_lines.nd rfl (by first | exact Or.inl rfl | exact Or.inr rfl))) (dss_cons (ds_expr (de_bm (T := "list") (.inl rfl) PySem.F.plainAttrs_list PySem.F.slot_list_append PySem.F.type_list_append mt_append mtd_append (de_var (pv 1)) (da_cons (de_own (own__law_line F) (hr.mono (by decide)) rfl psE_of (da_cons de_str (da_cons (de_own (own__law_flat F) (hr.mono (by decide)) rfl psE_of (da_cons (de_var (pv 5)) da_nil)) da_nil))) da_nil)))
      dss_nil))
      (dss_cons (ds_for pown_of rfl (di_seq (de_tup (da_cons de_str (da_cons de_str da_nil)))) (dg_name (pg_name sc__law_lines.nd rfl (by first | exact Or.inl rfl | exact Or.inr rfl))) (dss_cons (ds_if (dt_cmp (op_neD (hu64 hr)) opd_neD (de_dget (hu1 hr) (de_var (pv 0)) (de_var (pv 3))) (de_tup da_nil) (nomark _)) (dss_cons (ds_expr (de_bm (T := "list") (.inl rfl) PySem.F.plainAttrs_list PySem.F.slot_list_append PySem.F.type_list_append mt_append mtd_append (de_var (pv 1)) (da_cons (de_own (own__law_line F) (hr.mono (by decide)) rfl psE_of (da_cons (de_var (pv 3)) (da_cons (de_dget (hu1 hr) (de_var (pv 0)) (de_var (pv 3))) da_nil))) da_nil)))
      dss_nil) dss_nil)
      dss_nil))
      (dss_cons (ds_ret (de_var (pv 1)))
      dss_nil)))))
theorem own__law_lines (F : Fx P w K mg base) : Own P w K mg base (tabs K) 2 ("_law_lines" : Str) (F__law_lines (He.ga K ("Program" : Str)) (ks K w)) := by
  obtain ⟨fd, hF⟩ := F.f__law_lines
  exact ⟨_, fd, _, ok__law_lines F hF, F.g__law_lines, hF.kp, hF.bindsN fun _ _ _ _ _ _ us hl => match us, hl with | [_], _ => rfl⟩
def m_law (cP : Addr) (kP : Ks) : MS := (seqS (asgS (fun s => bnd (bnd (bnd (bnd (sget s 0) fun x => bnd (pur []) fun r => pur (x :: r)) listD) fun x => bnd (bnd (pur (.int 0)) fun x => bnd (bnd (pur (.int 1)) fun x => bnd (pur []) fun r => pur (x :: r)) fun r => pur (x :: r)) fun r => pur (x :: r)) mkL) (tgN 1))
    (seqS (asgS (fun s => bnd (bnd (sget s 1) fun x => bnd (pur []) fun r => pur (x :: r)) (F__law_data cP)) (tgN 2))
    (seqS (asgS (fun s => bnd (bnd (sget s 2) fun x => bnd (pur []) fun r => pur (x :: r)) (F__law_made cP)) (tgN 3))
    (seqS (asgS (fun s => bnd (bnd (bnd (bnd (sget s 2) fun x => bnd (pur []) fun r => pur (x :: r)) (F__law_lines cP kP)) fun x => bnd (pur []) fun r => pur (x :: r)) (F__law_text cP)) (tgN 4))
    (seqS (forS (fun s => bnd (bnd (bnd (bnd (bnd (sget s 4) fun x => bnd (pur []) fun r => pur (x :: r)) (F_parse_program cP kP)) fun x => bnd (bnd (bnd (bnd (bnd (bnd (sget s 3) fun x => bnd (pur []) fun r => pur (x :: r)) (F_write_program cP kP)) fun x => bnd (pur []) fun r => pur (x :: r)) (F_parse_program cP kP)) fun x => bnd (pur []) fun r => pur (x :: r)) fun r => pur (x :: r)) mkL) seqW) (tgN 5) (seqS (ifS (fun s => bnd (bnd (bnd (bnd (bnd (sget s 5) fun x => bnd (bnd (pur (.cls cP)) fun x => bnd (pur []) fun r => pur (x :: r)) fun r => pur (x :: r)) (isND cP)) truM) fun b => pur (!b)) fun x => if x then pur true else bnd (bnd (bnd (bnd (bnd (sget s 5) fun x => bnd (pur []) fun r => pur (x :: r)) (F__law_all cP)) fun x => bnd (bnd (bnd (sget s 3) fun x => bnd (pur []) fun r => pur (x :: r)) (F__law_all cP)) fun y => neD x y) asB) fun x => if x then pur true else bnd (bnd (bnd (bnd (sget s 5) fun x => bnd (pur []) fun r => pur (x :: r)) (F_write_program cP kP)) fun x => bnd (sget s 4) fun y => neD x y) asB) (seqS (retS fun s => pur (.bl false))
    skipS) skipS)
    skipS))
    (seqS (asgS (fun s => bnd (bnd (sget s 1) fun x => bnd (bnd (sget s 2) fun x => bnd (pur []) fun r => pur (x :: r)) fun r => pur (x :: r)) (F__law_other cP)) (tgN 6))
    (seqS (retS fun s => bnd (bnd (bnd (bnd (bnd (bnd (sget s 6) fun x => bnd (pur []) fun r => pur (x :: r)) (F__law_made cP)) fun x => bnd (pur []) fun r => pur (x :: r)) (F_write_program cP kP)) fun x => bnd (bnd (bnd (sget s 3) fun x => bnd (pur []) fun r => pur (x :: r)) (F_write_program cP kP)) fun y => eqD x y) fun x => bnd (bnd (sget s 6) fun x => bnd (sget s 2) fun y => eqKD x y) fun y => eqD x y)
    skipS)))))))
def F_law (cP : Addr) (kP : Ks) : List D → M D := fnM 1 7 (m_law cP kP)
theorem sc_law : FnScope [("script" : Str), ("state" : Str), ("data" : Str), ("program" : Str), ("text" : Str), ("told" : Str), ("other" : Str)] [("script" : Str)] (defScope s_law) := ⟨rfl, rfl, rfl, by decide +kernel, rfl, by decide +kernel, by decide +kernel⟩
theorem ok_law (F : Fx P w K mg base) {fd : FuncData} (hF : FnP K ("law" : Str) s_law (He.fAd K (("law" : Str), none)) fd) : FnOk P w K mg base (L2.CX P w) 15 (He.fAd K (("law" : Str), none)) fd [("script" : Str)] (spD ⟨K, tabs K, DL.fw w⟩ (F_law (He.ga K ("Program" : Str)) (ks K w))) :=
  fn_D (N := [("script" : Str), ("state" : Str), ("data" : Str), ("program" : Str), ("text" : Str), ("told" : Str), ("other" : Str)]) (ps := [("script" : Str)]) (k := 14) hF sc_law 1 7 rfl rfl fun A outer s H E hr => by
    apply Exists.intro
    unfold m_law
    exact (dss_cons (ds_set (i := 1) sc_law.nd rfl (by first | exact Or.inl rfl | exact Or.inr rfl) (de_lst (da_cons (de_callTy call_list_of calld_list rfl F.g_list PyProof.Rows.boot_list (da_cons (de_var (pv 0)) da_nil)) (da_cons de_int (da_cons de_int da_nil)))))
      (dss_cons (ds_set (i := 2) sc_law.nd rfl (by first | exact Or.inl rfl | exact Or.inr rfl) (de_own (own__law_data F) (hr.mono (by decide)) rfl psE_of (da_cons (de_var (pv 1)) da_nil)))
      (dss_cons (ds_set (i := 3) sc_law.nd rfl (by first | exact Or.inl rfl | exact Or.inr rfl) (de_own (own__law_made F) (hr.mono (by decide)) rfl psE_of (da_cons (de_var (pv 2)) da_nil)))
      (dss_cons (ds_set (i := 4) sc_law.nd rfl (by first | exact Or.inl rfl | exact Or.inr rfl) (de_own (own__law_text F) (hr.mono (by decide)) rfl psE_of (da_cons (de_own (own__law_lines F) (hr.mono (by decide)) rfl psE_of (da_cons (de_var (pv 2)) da_nil)) da_nil)))
      (dss_cons (ds_for pown_of rfl (di_seq (de_lst (da_cons (de_own (own_parse_program F) (hr.mono (by decide)) rfl psE_of (da_cons (de_var (pv 4)) da_nil)) (da_cons (de_own (own_parse_program F) (hr.mono (by decide)) rfl psE_of (da_cons (de_own (own_write_program F) (hr.mono (by decide)) rfl psE_of (da_cons (de_var (pv 3)) da_nil)) da_nil)) da_nil)))) (dg_name (pg_name sc_law.nd rfl (by first | exact Or.inl rfl | exact Or.inr rfl))) (dss_cons (ds_if (DW.dt (dw_or (dt_not (dt_tru (de_isN F.cls F.isI_C (de_var (pv 5)) rfl F.g_isinstance rfl F.g_Program))) (dw_or (dt_cmp (op_neD (hu64 hr)) opd_neD (de_own (own__law_all F) (hr.mono (by decide)) rfl psE_of (da_cons (de_var (pv 5)) da_nil)) (de_own (own__law_all F) (hr.mono (by decide)) rfl psE_of (da_cons (de_var (pv 3)) da_nil)) (nomark _)) (dw_or1 (dt_cmp (op_neD (hu64 hr)) opd_neD (de_own (own_write_program F) (hr.mono (by decide)) rfl psE_of (da_cons (de_var (pv 5)) da_nil)) (de_var (pv 4)) (nomark _)))))) (dss_cons (ds_ret de_bl)
      dss_nil) dss_nil)
      dss_nil))
      (dss_cons (ds_set (i := 6) sc_law.nd rfl (by first | exact Or.inl rfl | exact Or.inr rfl) (de_own (own__law_other F) (hr.mono (by decide)) rfl psE_of (da_cons (de_var (pv 1)) (da_cons (de_var (pv 2)) da_nil))))
      (dss_cons (ds_ret (de_cmp (op_eqD (hu64 hr)) opd_eqD (de_cmp (op_eqD (hu64 hr)) opd_eqD (de_own (own_write_program F) (hr.mono (by decide)) rfl psE_of (da_cons (de_own (own__law_made F) (hr.mono (by decide)) rfl psE_of (da_cons (de_var (pv 6)) da_nil)) da_nil)) (de_own (own_write_program F) (hr.mono (by decide)) rfl psE_of (da_cons (de_var (pv 3)) da_nil)) (nomark _)) (de_cmp (op_eqK (hu64 hr)) opd_eqK (de_var (pv 6)) (de_var (pv 2)) (nomark _)) (nomark _)))
      dss_nil)))))))
end
end
end K14
namespace K14
open PySem PySem.Spec PyProof.Rows L2 DL
open Classical
variable {cP : Addr} {kP : Ks}
/-- the script's list at i, the state's at j -/
structure Dr (i j : Nat) (g : GS) (ns : List Int) (a b : Int) : Prop where
  hi : g[i]? = some (.lst (ns.map D.int))
  hj : g[j]? = some (.lst [.ref i, .int a, .int b])
  ne : i ≠ j
  b0 : 0 ≤ b
  b1 : b < 2147483647
theorem fnM_of {np k : Nat} {ms : MS} {ds : List D} {g g' : GS} {d : D} (hn : ds.length = np) (h : ms (ds.map some ++ List.replicate (k - np) none) g = .rt d g') (hl : g'.length = g.length) : fnM np k ms ds g = .ok d g' := by
  unfold fnM
  rw [if_pos hn, h]
  show gcR g.length (.ok d g') = _
  unfold gcR
  dsimp only
  rw [← hl, List.take_length]
  split <;> rfl
theorem next_low {i j : Nat} {g : GS} {ns : List Int} {a b m : Int} (h : Dr i j g ns a b) (m0 : 0 < m) (m1 : m < 1073741824) (ha : ¬ a < m) :
    F__law_next cP [.ref j, .int m] g = .ok (.int (a % m)) (g.set j (.lst [.ref i, .int (a / m), .int b])) := by
  obtain ⟨hi, hj, ne, b0, b1⟩ := h
  unfold F__law_next
  refine fnM_of rfl ?_ (by simp)
  simp [m__law_next, seqS, ifS, bndS, bnd, pur, sget, asgS, tgN, subG, setD, retS, skipS, ixD, ltI, iop, iopC, asB, hj, atI0, atI1, atI2, ixN0, ixN1, ixN2, ha, m0, m1, modI, divI, DL.intD]
theorem gset_ne {g : GS} {i j : Nat} {c d : Cell} (h : g[i]? = some d) (ne : j ≠ i) : (g.set j c)[i]? = some d := by rw [List.getElem?_set_ne ne]; exact h
theorem gset_eq {g : GS} {j : Nat} {c d : Cell} (h : g[j]? = some d) : (g.set j c)[j]? = some c := List.getElem?_set_self (List.getElem?_eq_some_iff.mp h).1
theorem next_gen {i j : Nat} {g : GS} {a b m : Int} (h : Dr i j g [] a b) (m0 : 0 < m) (m1 : m < 1073741824) (ha : a < m) :
    ∃ a' b', 0 ≤ b' ∧ b' < 2147483647 ∧ F__law_next cP [.ref j, .int m] g = .ok (.int (a' % m)) (g.set j (.lst [.ref i, .int (a' / m), .int b'])) := by
  obtain ⟨hi, hj, ne, b0, b1⟩ := h
  have hji := fun x : Cell => gset_eq (c := x) hj
  have hb : ((b * 48271 + 11) % 2147483647) < 18446744073709551616 := by omega
  have hb2 : -18446744073709551616 < ((b * 48271 + 11) % 2147483647) := by omega
  refine ⟨(((b * 48271 + 11) % 2147483647) * ((b * 48271 + 11) % 2147483647)) % 1000003, (b * 48271 + 11) % 2147483647, by omega, by omega, ?_⟩
  unfold F__law_next
  refine fnM_of rfl ?_ (by simp)
  generalize hq : (b * 48271 + 11) % 2147483647 = q at *
  simp [m__law_next, seqS, ifS, bndS, bnd, pur, sget, asgS, tgN, subG, setD, retS, skipS, ixD, ltI, iop, iopC, asB, hj, hi, atI0, atI1, atI2, ixN0, ixN1, ixN2, ha, m0, m1, modI, divI, DL.intD, lenD, gtI, mulI, addD, hq, hji, hb, hb2]
theorem next_cell {i j : Nat} {g : GS} {a b m c : Int} {ns : List Int} (h : Dr i j g (c :: ns) a b) (m0 : 0 < m) (m1 : m < 1073741824) (ha : a < m) :
    ∃ a' b', 0 ≤ b' ∧ b' < 2147483647 ∧ F__law_next cP [.ref j, .int m] g = .ok (.int (a' % m)) ((g.set i (.lst (ns.map D.int))).set j (.lst [.ref i, .int (a' / m), .int b'])) := by
  obtain ⟨hi, hj, ne, b0, b1⟩ := h
  have h1 := gset_ne (c := .lst (ns.map D.int)) hj ne
  have h2 : (0 : Int) < (ns.length : Int) + 1 := by omega
  have h3 : seqIndex? 0 (ns.length + 1) = some 0 := by
    unfold seqIndex?
    simp
  have tail : ∀ v : Int, (b * 69621 + v) % 2147483647 < 2147483647 ∧ 0 ≤ (b * 69621 + v) % 2147483647 := fun v => by omega
  have fin : ∀ v : Int, (if 0 ≤ c then 2 * c else -2 * c - 1) = v → F__law_next cP [.ref j, .int m] g = .ok (.int (v % m)) ((g.set i (.lst (ns.map D.int))).set j (.lst [.ref i, .int (v / m), .int ((b * 69621 + v) % 2147483647)])) := by
    intro v hv
    have h4 := fun x : Cell => gset_eq (c := x) h1
    unfold F__law_next
    refine fnM_of rfl ?_ (by simp)
    by_cases hc : 0 ≤ c
    · rw [if_pos hc] at hv
      subst hv
      simp [m__law_next, seqS, ifS, bndS, bnd, pur, sget, asgS, tgN, subG, setD, retS, skipS, ixD, ltI, iop, iopC, asB, hj, hi, atI0, atI1, atI2, ixN0, ixN1, ixN2, ha, m0, m1, modI, divI, DL.intD, lenD, gtI, geI, subI, mulI, addD, tyM, tyD, popAtD, h1, h2, h3, h4, hc]
    · rw [if_neg hc] at hv
      subst hv
      simp [m__law_next, seqS, ifS, bndS, bnd, pur, sget, asgS, tgN, subG, setD, retS, skipS, ixD, ltI, iop, iopC, asB, hj, hi, atI0, atI1, atI2, ixN0, ixN1, ixN2, ha, m0, m1, modI, divI, DL.intD, lenD, gtI, geI, subI, mulI, addD, negI, tyM, tyD, popAtD, h1, h2, h3, h4, hc]
  exact ⟨_, _, (tail _).2, (tail _).1, fin _ rfl⟩
/-- a draw below m -/
theorem next_ok {i j : Nat} {g : GS} {ns : List Int} {a b m : Int} (h : Dr i j g ns a b) (m0 : 0 < m) (m1 : m < 1073741824) :
    ∃ r g' ns' a' b', F__law_next cP [.ref j, .int m] g = .ok (.int r) g' ∧ 0 ≤ r ∧ r < m ∧ Dr i j g' ns' a' b' ∧ g'.length = g.length ∧ (∀ k, k ≠ i → k ≠ j → g'[k]? = g[k]?) := by
  have pos : ∀ x : Int, 0 ≤ x % m ∧ x % m < m := fun x => ⟨Int.emod_nonneg _ (by omega), Int.emod_lt_of_pos _ m0⟩
  obtain ⟨hi, hj, ne, b0, b1⟩ := id h
  by_cases ha : a < m
  · cases ns with
    | nil =>
      obtain ⟨a', b', q0, q1, e⟩ := next_gen h m0 m1 ha
      exact ⟨_, _, [], _, _, e, (pos _).1, (pos _).2, ⟨gset_ne hi ne.symm, gset_eq hj, ne, q0, q1⟩, by simp, fun k k1 k2 => by rw [List.getElem?_set_ne (Ne.symm k2)]⟩
    | cons c ns =>
      obtain ⟨a', b', q0, q1, e⟩ := next_cell h m0 m1 ha
      exact ⟨_, _, ns, _, _, e, (pos _).1, (pos _).2, ⟨gset_ne (gset_eq hi) ne.symm, gset_eq (gset_ne hj ne), ne, q0, q1⟩, by simp, fun k k1 k2 => by rw [List.getElem?_set_ne (Ne.symm k2), List.getElem?_set_ne (Ne.symm k1)]⟩
  · exact ⟨_, _, ns, _, _, next_low h m0 m1 ha, (pos _).1, (pos _).2, ⟨gset_ne hi ne.symm, gset_eq hj, ne, b0, b1⟩, by simp, fun k k1 k2 => by rw [List.getElem?_set_ne (Ne.symm k2)]⟩
end K14
namespace K14
open PySem PySem.Spec PyProof.Rows L2 DL
open Classical
variable {cP : Addr} {kP : Ks}
def Drw (i j : Nat) (g : GS) : Prop := ∃ ns a b, Dr i j g ns a b
structure Kp (i j : Nat) (g g' : GS) : Prop where
  le : g.length ≤ g'.length
  get : ∀ k, k < g.length → k ≠ i → k ≠ j → g'[k]? = g[k]?
structure Go (i j : Nat) (g g' : GS) : Prop where
  d : Drw i j g'
  k : Kp i j g g'
theorem Drw.lt {i j : Nat} {g : GS} (h : Drw i j g) : i < g.length ∧ j < g.length := by
  obtain ⟨ns, a, b, h⟩ := h
  exact ⟨(List.getElem?_eq_some_iff.mp h.hi).1, (List.getElem?_eq_some_iff.mp h.hj).1⟩
theorem Go.refl {i j : Nat} {g : GS} (h : Drw i j g) : Go i j g g := ⟨h, Nat.le_refl _, fun _ _ _ _ => rfl⟩
theorem Go.trans {i j : Nat} {g g1 g2 : GS} (h : Go i j g g1) (h2 : Go i j g1 g2) : Go i j g g2 :=
  ⟨h2.d, Nat.le_trans h.k.le h2.k.le, fun k hk a b => (h2.k.get k (Nat.lt_of_lt_of_le hk h.k.le) a b).trans (h.k.get k hk a b)⟩
theorem Drw.app {i j : Nat} {g : GS} (h : Drw i j g) (ex : GS) : Drw i j (g ++ ex) := by
  obtain ⟨l1, l2⟩ := h.lt
  obtain ⟨ns, a, b, h⟩ := h
  exact ⟨ns, a, b, by rw [List.getElem?_append_left l1]; exact h.hi, by rw [List.getElem?_append_left l2]; exact h.hj, h.ne, h.b0, h.b1⟩
theorem Go.app {i j : Nat} {g g' : GS} (h : Go i j g g') (ex : GS) : Go i j g (g' ++ ex) :=
  ⟨h.d.app ex, by rw [List.length_append]; exact Nat.le_trans h.k.le (Nat.le_add_right _ _), fun k hk a b => by
    rw [List.getElem?_append_left (Nat.lt_of_lt_of_le hk h.k.le)]
    exact h.k.get k hk a b⟩
theorem Go.take {i j : Nat} {g g' : GS} (h0 : Drw i j g) (h : Go i j g g') : Go i j g (g'.take g.length) := by
  obtain ⟨l1, l2⟩ := h0.lt
  obtain ⟨⟨ns, a, b, d⟩, k⟩ := h
  have hk := k.le
  refine ⟨⟨ns, a, b, by rw [List.getElem?_take_of_lt l1]; exact d.hi, by rw [List.getElem?_take_of_lt l2]; exact d.hj, d.ne, d.b0, d.b1⟩, by rw [List.length_take]; omega, fun q hq x y => ?_⟩
  rw [List.getElem?_take_of_lt hq]
  exact k.get q hq x y
theorem Go.set {i j n : Nat} {g g' : GS} {c : Cell} (h : Go i j g g') (hn : g.length ≤ n) : Go i j g (g'.set n c) ∨ n = i ∨ n = j := by
  by_cases h1 : n = i
  · exact .inr (.inl h1)
  by_cases h2 : n = j
  · exact .inr (.inr h2)
  obtain ⟨⟨ns, a, b, d⟩, k⟩ := h
  refine .inl ⟨⟨ns, a, b, by rw [List.getElem?_set_ne h1]; exact d.hi, by rw [List.getElem?_set_ne h2]; exact d.hj, d.ne, d.b0, d.b1⟩, by rw [List.length_set]; exact k.le, fun q hq x y => ?_⟩
  rw [List.getElem?_set_ne (by omega)]
  exact k.get q hq x y
theorem next_go {i j : Nat} {g : GS} {m : Int} {P : D → GS → Prop} (h : Drw i j g) (m0 : 0 < m) (m1 : m < 1073741824) (k : ∀ r g', 0 ≤ r → r < m → Go i j g g' → P (.int r) g') : okM (F__law_next cP [.ref j, .int m] g) P := by
  obtain ⟨ns, a, b, h⟩ := h
  obtain ⟨r, g', ns', a', b', e, r0, r1, d, hl, hk⟩ := next_ok (cP := cP) h m0 m1
  exact okM.of e (k r g' r0 r1 ⟨⟨ns', a', b', d⟩, Nat.le_of_eq hl.symm, fun k _ x y => hk k x y⟩)
/-- a def that draws -/
theorem fn_go {i j np k : Nat} {ms : MS} {ds : List D} {g : GS} {P : D → GS → Prop} (hn : ds.length = np) (h0 : Drw i j g)
    (h : okS (ms (ds.map some ++ List.replicate (k - np) none) g) (fun _ _ => False) (fun d g' => Go i j g g' ∧ ∀ g'', Go i j g g'' → P d g'') (fun _ _ => False) fun _ _ => False) : okM (fnM np k ms ds g) P := by
  refine fn_wp hn (h.mono (fun _ _ z => z.elim) (fun d g' z => ?_) (fun _ _ z => z) fun _ _ z => z)
  exact ⟨z.2 _ z.1, z.2 _ (z.1.take h0)⟩
/-- a def that draws nothing, lists of its own aside -/
theorem comp_go {α β : Type} {i j : Nat} {w : Itm} {tg : D → Sl → M Sl} {cond : Sl → M Bool} {elt : Sl → M D} {s : Sl} (hok : ∀ g, w.ok g) (e : α → D) (f : β → D) (Ok : α → β → Prop) : ∀ (xs : List α) (g : GS), Drw i j g →
    (∀ x ∈ xs, ∀ g', Go i j g g' → ∃ s1, tg (e x) s g' = .ok s1 g' ∧ cond s1 g' = .ok true g' ∧ okM (elt s1 g') fun d g2 => ∃ y, d = f y ∧ Ok x y ∧ Go i j g' g2) →
    okM (compM w tg cond elt s (xs.map e) g) fun ds g' => ∃ ys : List β, ds = ys.map f ∧ ys.length = xs.length ∧ (∀ y ∈ ys, ∃ x ∈ xs, Ok x y) ∧ Go i j g g'
  | [], g, hd, h => by
    rw [List.map_nil]
    unfold compM
    rw [if_pos (hok g)]
    exact ⟨[], rfl, rfl, fun y hy => (by cases hy), Go.refl hd⟩
  | x :: xs, g, hd, h => by
    obtain ⟨s1, e1, e2, e3⟩ := h x List.mem_cons_self g (Go.refl hd)
    obtain ⟨d, g2, e4, y, rfl, oy, go⟩ := e3.out
    obtain ⟨ds, g3, e5, ys, rfl, hl, hy, go2⟩ := (comp_go hok e f Ok xs g2 go.d fun x' hx' g' go' => h x' (List.mem_cons_of_mem _ hx') g' (go.trans go')).out
    rw [List.map_cons]
    unfold compM
    rw [if_pos (hok g), e1]
    dsimp only
    rw [e2]
    dsimp only
    rw [e4]
    dsimp only
    rw [e5]
    refine ⟨y :: ys, rfl, by rw [List.length_cons, List.length_cons, hl], fun z hz => ?_, go.trans go2⟩
    rcases List.mem_cons.mp hz with rfl | hz
    · exact ⟨x, List.mem_cons_self, oy⟩
    · obtain ⟨x', hx', o⟩ := hy z hz
      exact ⟨x', List.mem_cons_of_mem _ hx', o⟩
/-- items that are kept by a drawn test -/
theorem comp_goF {α : Type} {i j : Nat} {w : Itm} {tg : D → Sl → M Sl} {cond : Sl → M Bool} {elt : Sl → M D} {s : Sl} (hok : ∀ g, w.ok g) (e : α → D) : ∀ (xs : List α) (g : GS), Drw i j g →
    (∀ x ∈ xs, ∀ g', Go i j g g' → ∃ s1, tg (e x) s g' = .ok s1 g' ∧ okM (cond s1 g') (fun _ g2 => Go i j g' g2) ∧ ∀ g2, elt s1 g2 = .ok (e x) g2) →
    okM (compM w tg cond elt s (xs.map e) g) fun ds g' => ∃ ys : List α, ds = ys.map e ∧ ys.Sublist xs ∧ Go i j g g'
  | [], g, hd, h => by
    rw [List.map_nil]
    unfold compM
    rw [if_pos (hok g)]
    exact ⟨[], rfl, List.Sublist.refl _, Go.refl hd⟩
  | x :: xs, g, hd, h => by
    obtain ⟨s1, e1, e2, e3⟩ := h x List.mem_cons_self g (Go.refl hd)
    obtain ⟨b, g2, e4, go⟩ := e2.out
    obtain ⟨ds, g3, e5, ys, rfl, hl, go2⟩ := (comp_goF hok e xs g2 go.d fun x' hx' g' go' => h x' (List.mem_cons_of_mem _ hx') g' (go.trans go')).out
    rw [List.map_cons]
    unfold compM
    rw [if_pos (hok g), e1]
    dsimp only
    rw [e4]
    cases b with
    | true =>
      dsimp only
      rw [e3]
      dsimp only
      rw [e5]
      exact ⟨x :: ys, rfl, hl.cons₂ _, go.trans go2⟩
    | false =>
      dsimp only
      rw [e5]
      exact ⟨ys, rfl, hl.cons _, go.trans go2⟩
abbrev Ch : Type := List (Int × Int)
abbrev Pr : Type := Int × List Int
structure Part where
  look : Pr
  word : Pr
  press : Option Ch
structure Prg where
  sizes : List Int
  parts : List Part
  ticks : List Ch
  live : List Int
  skips : List Int
def mD (m : Int × Int) : D := .tup [.int m.1, .int m.2]
def dI (l : List Int) : D := .tup (l.map D.int)
def prD (p : Pr) : D := .tup [.int p.1, dI p.2]
def chD (c : Ch) : D := .tup (c.map mD)
def poD : Option Ch → D
  | none => .non
  | some c => chD c
def partD (p : Part) : D := .tup [prD p.look, prD p.word, poD p.press]
def OkSizes (l : List Int) : Prop := 1 ≤ l.length ∧ l.length ≤ 3 ∧ ∀ x ∈ l, 2 ≤ x ∧ x ≤ 4
def OkPr (sizes : List Int) (p : Pr) : Prop := (∃ v : Nat, p.1 = v ∧ sizes[v]? = some (p.2.length : Int)) ∧ ∀ x ∈ p.2, 0 ≤ x ∧ x ≤ 7
def OkCh (sizes : List Int) (c : Ch) : Prop := 1 ≤ c.length ∧ c.length ≤ 3 ∧ ∀ m ∈ c, (0 ≤ m.1 ∧ m.1 < sizes.length) ∧ 1 ≤ m.2 ∧ m.2 ≤ 3
def OkPart (sizes : List Int) (p : Part) : Prop := OkPr sizes p.look ∧ OkPr sizes p.word ∧ ∀ c, p.press = some c → OkCh sizes c
structure OkPrg (p : Prg) : Prop where
  sizes : OkSizes p.sizes
  np : 1 ≤ p.parts.length ∧ p.parts.length ≤ 4
  parts : ∀ x ∈ p.parts, OkPart p.sizes x
  nt : p.ticks.length ≤ 2
  ticks : ∀ c ∈ p.ticks, OkCh p.sizes c
  live : p.live.Pairwise (· < ·) ∧ ∀ x ∈ p.live, 0 ≤ x ∧ x < p.parts.length
  skips : p.skips.Pairwise (· < ·) ∧ ∀ x ∈ p.skips, 0 ≤ x ∧ x < p.parts.length
theorem rng_map {n : Int} (h : 0 ≤ n) : rngItems 0 n = (List.range n.toNat).map fun k => D.int (k : Nat) := by
  unfold rngItems
  rw [Int.sub_zero]
  apply List.map_congr_left
  intro a _
  rw [Int.zero_add]
theorem changes_go {i j : Nat} {g : GS} {sizes : List Int} {P : D → GS → Prop} (h0 : Drw i j g) (hs : OkSizes sizes) (k : ∀ c g', OkCh sizes c → Go i j g g' → P (chD c) g') : okM (F__law_changes cP [.ref j, dI sizes] g) P := by
  refine fn_go rfl h0 ?_
  show okS (m__law_changes cP [some (.ref j), some (dI sizes), none] g) _ _ _ _
  simp only [m__law_changes, v_seq, v_ret, w_bnd, w_pur, x_get, List.getElem?_cons_zero, List.getElem?_cons_succ, compD]
  refine next_go h0 (by decide) (by decide) fun r g1 r0 r1 go1 => ?_
  rw [w_addi, x_rng (by omega) (by omega)]
  rw [rng_map (show 0 ≤ 1 + r by omega)]
  refine (comp_go (i := i) (j := j) (fun _ => by exact True.intro) (fun k : Nat => D.int (k : Int)) mD (fun _ m => (0 ≤ m.1 ∧ m.1 < sizes.length) ∧ 1 ≤ m.2 ∧ m.2 ≤ 3) _ g1 go1.d fun x hx g2 go2 => ⟨[some (.ref j), some (dI sizes), some (.int x)], rfl, rfl, ?_⟩).mono fun ds g3 ⟨ys, e, hl, hy, go3⟩ => ?_
  · simp only [w_bnd, w_pur, x_get, List.getElem?_cons_zero, List.getElem?_cons_succ, dI, w_lenT]
    have hl := hs.1
    have hl2 := hs.2.1
    refine next_go go2.d (by rw [List.length_map]; omega) (by rw [List.length_map]; omega) fun v g4 v0 v1 go4 => ?_
    rw [List.length_map] at v1
    refine next_go go4.d (by decide) (by decide) fun a g5 a0 a1 go5 => ?_
    rw [w_addi, w_mkT (by simp)]
    exact ⟨(v, 1 + a), rfl, ⟨⟨v0, v1⟩, by show 1 ≤ 1 + a; omega, by show 1 + a ≤ 3; omega⟩, go4.trans go5⟩
  · subst e
    rw [List.length_range] at hl
    rw [if_pos (by rw [List.length_map, hl]; exact Nat.le_trans (show (1 + r).toNat ≤ 10 by omega) (by decide)), w_pur]
    exact ⟨go1.trans go3, fun g'' go => k ys g'' ⟨by omega, by omega, fun m hm => let ⟨_, _, o⟩ := hy m hm; o⟩ go⟩
end K14
namespace K14
open PySem PySem.Spec PyProof.Rows L2 DL
open Classical
variable {cP : Addr} {kP : Ks}
theorem seq_wp {m1 m2 : MS} {s : Sl} {g : GS} {Pn : Sl → GS → Prop} {Pr : D → GS → Prop} {Pb Pc : Sl → GS → Prop} (Mid : Sl → GS → Prop) (h1 : okS (m1 s g) Mid Pr Pb Pc) (h2 : ∀ s g, Mid s g → okS (m2 s g) Pn Pr Pb Pc) : okS (seqS m1 m2 s g) Pn Pr Pb Pc :=
  v_seq.mpr (h1.mono h2 (fun _ _ h => h) (fun _ _ h => h) fun _ _ h => h)
theorem pair_go {i j : Nat} {g : GS} {sizes : List Int} {most : Int} {P : D → GS → Prop} (h0 : Drw i j g) (hs : OkSizes sizes) (m0 : 0 < most) (m1 : most ≤ 8) (k : ∀ p g', OkPr sizes p → Go i j g g' → P (prD p) g') : okM (F__law_pair cP [.ref j, dI sizes, .int most] g) P := by
  refine fn_go rfl h0 ?_
  show okS (m__law_pair cP [some (.ref j), some (dI sizes), some (.int most), none, none] g) _ _ _ _
  have hl := hs.1
  have hl2 := hs.2.1
  unfold m__law_pair
  rw [v_seq]
  simp only [v_asg, v_if, v_ret, v_drop, v_for, v_skip, w_bnd, w_pur, x_get, w_tgN, w_subG, w_asB, w_asI, w_if, w_truB, List.getElem?_cons_zero, List.getElem?_cons_succ, List.set_cons_zero, List.set_cons_succ, dI, w_lenT]
  refine next_go h0 (by rw [List.length_map]; omega) (by rw [List.length_map]; omega) fun v g1 v0 v1 go1 => ?_
  rw [List.length_map] at v1
  obtain ⟨v, rfl⟩ := Int.eq_ofNat_of_zero_le v0
  have hv : v < sizes.length := by omega
  have hat : atI (sizes.map D.int) (v : Int) = some (.int sizes[v]) := DL.atI_nat (by rw [List.getElem?_map, List.getElem?_eq_getElem hv]; rfl)
  have hsz := hs.2.2 sizes[v] (List.getElem_mem hv)
  rw [v_seq]
  simp only [v_asg, v_if, v_ret, v_drop, v_for, v_skip, w_bnd, w_pur, x_get, w_tgN, w_subG, w_asB, w_asI, w_if, w_truB, List.getElem?_cons_zero, List.getElem?_cons_succ, List.set_cons_zero, List.set_cons_succ, compD, x_ixT, Int.ofNat_eq_natCast, hat]
  rw [x_rng (by omega) (by omega)]
  rw [rng_map (show 0 ≤ sizes[v] by omega)]
  refine (comp_go (i := i) (j := j) (fun _ => by exact True.intro) (fun k : Nat => D.int (k : Int)) D.int (fun _ x => 0 ≤ x ∧ x < most) _ g1 go1.d fun x hx g2 go2 => ⟨[some (.ref j), some (.tup (sizes.map D.int)), some (.int most), some (.int v), some (.int x)], rfl, rfl, ?_⟩).mono fun ds g3 ⟨ys, e, hl, hy, go3⟩ => ?_
  · simp only [v_asg, v_if, v_ret, v_drop, v_for, v_skip, w_bnd, w_pur, x_get, w_tgN, w_subG, w_asB, w_asI, w_if, w_truB, List.getElem?_cons_zero, List.getElem?_cons_succ, List.set_cons_zero, List.set_cons_succ]
    exact next_go go2.d m0 (by omega) fun a g5 a0 a1 go5 => ⟨a, rfl, ⟨a0, a1⟩, go5⟩
  · subst e
    rw [List.length_range] at hl
    rw [if_pos (by rw [List.length_map, hl]; exact Nat.le_trans (show sizes[v].toNat ≤ 10 by omega) (by decide)), w_pur, w_mkT (by simp)]
    refine ⟨go1.trans go3, fun g'' go => k (v, ys) g'' ⟨⟨v, rfl, ?_⟩, fun x hx => ?_⟩ go⟩
    · rw [List.getElem?_eq_getElem hv, hl]
      show some sizes[v] = some ((sizes[v].toNat : Nat) : Int)
      congr 1
      omega
    · obtain ⟨_, _, o⟩ := hy x hx
      omega
theorem x_tyL {n : Nat} {ds : List D} {g : GS} {P : D → GS → Prop} (h : g[n]? = some (.lst ds)) : okM (tyM "list" (.ref n) g) P ↔ P (.ref n) g := by
  have e : tyD (.ref n) g = some "list" := by
    unfold tyD
    dsimp only
    rw [h]
  unfold tyM
  rw [if_pos e]; rfl
theorem x_app {n : Nat} {ds : List D} {d : D} {g : GS} {P : D → GS → Prop} (h : g[n]? = some (.lst ds)) (hl : ds.length < 1000000) : okM (appendD (.ref n) [d] g) P ↔ P .non (g.set n (.lst (ds ++ [d]))) := by
  unfold appendD
  dsimp only
  rw [h]
  dsimp only
  rw [if_pos (show ds.length < LIM from hl)]; rfl
/-- a def whose answer may be a list of its own -/
theorem fn_ref {np k : Nat} {ms : MS} {ds : List D} {g : GS} {P : D → GS → Prop} (hn : ds.length = np) (h : okS (ms (ds.map some ++ List.replicate (k - np) none) g) (fun _ _ => False) (fun d g' => P d g' ∧ d.und g.length = false) (fun _ _ => False) fun _ _ => False) : okM (fnM np k ms ds g) P := by
  unfold fnM
  rw [if_pos hn]
  generalize ms (ds.map some ++ List.replicate (k - np) none) g = r at h ⊢
  cases r with
  | nx s g' => exact h.elim
  | rt d g' =>
    show okM (gcR g.length (.ok d g')) P
    unfold gcR
    dsimp only
    rw [if_neg (by rw [h.2]; exact Bool.false_ne_true)]
    exact h.1
  | bk _ _ => exact h.elim
  | ct _ _ => exact h.elim
  | bad => exact h.elim
  | ex _ _ _ => exact h.elim
def prgV (p : Prg) : List D := [dI p.sizes, .tup (p.parts.map partD), .tup (p.ticks.map chD), dI p.live, dI p.skips]
def prgK (p : Prg) : List (Key × D) := (nsP.map Sum.inr).zip (prgV p)
theorem asc_sub {n : Nat} {ys : List Nat} (h : ys.Sublist (List.range n)) : (ys.map (fun k : Nat => (k : Int))).Pairwise (· < ·) ∧ ∀ x ∈ ys.map (fun k : Nat => (k : Int)), 0 ≤ x ∧ x < (n : Int) := by
  refine ⟨?_, fun x hx => ?_⟩
  · rw [List.pairwise_map]
    have := List.Pairwise.sublist h (List.pairwise_lt_range (n := n))
    exact this.imp fun h => by omega
  · obtain ⟨k, hk, rfl⟩ := List.mem_map.mp hx
    have := List.mem_range.mp (h.subset hk)
    omega
theorem data_go {i j : Nat} {g : GS} {P : D → GS → Prop} (h0 : Drw i j g) (k : ∀ p g' n, OkPrg p → Go i j g g' → g'[n]? = some (.dic (prgK p)) → P (.ref n) g') : okM (F__law_data cP [.ref j] g) P := by
  obtain ⟨li, lj⟩ := h0.lt
  refine fn_ref rfl ?_
  show okS (m__law_data cP [some (.ref j), none, none, none, none, none, none, none, none, none, none] g) _ _ _ _
  unfold m__law_data
  rw [v_seq]
  simp only [v_asg, v_if, v_ret, v_drop, v_for, v_skip, w_bnd, w_pur, x_get, w_tgN, w_subG, w_asB, w_asI, w_if, w_truB, List.getElem?_cons_zero, List.getElem?_cons_succ, List.set_cons_zero, List.set_cons_succ, compD]
  -- sizes
  refine next_go h0 (by decide) (by decide) fun r g1 r0 r1 go1 => ?_
  rw [w_addi, x_rng (by omega) (by omega), rng_map (show 0 ≤ 1 + r by omega)]
  refine (comp_go (i := i) (j := j) (fun _ => by exact True.intro) (fun k : Nat => D.int (k : Int)) D.int (fun _ x => 2 ≤ x ∧ x ≤ 4) _ g1 go1.d fun x hx g2 go2 => ⟨[some (.ref j), none, none, some (.int x), none, none, none, none, none, none, none], rfl, rfl, ?_⟩).mono fun ds g3 ⟨sizes, e, hl, hy, go3⟩ => ?_
  · simp only [v_asg, v_if, v_ret, v_drop, v_for, v_skip, w_bnd, w_pur, x_get, w_tgN, w_subG, w_asB, w_asI, w_if, w_truB, List.getElem?_cons_zero, List.getElem?_cons_succ, List.set_cons_zero, List.set_cons_succ]
    refine next_go go2.d (by decide) (by decide) fun a g5 a0 a1 go5 => ?_
    rw [w_addi]
    exact ⟨2 + a, rfl, ⟨by omega, by omega⟩, go5⟩
  subst e
  rw [List.length_range] at hl
  have hs : OkSizes sizes := ⟨by omega, by omega, fun x hx => let ⟨_, _, o⟩ := hy x hx; o⟩
  rw [if_pos (by rw [List.length_map, hl]; exact Nat.le_trans (show (1 + r).toNat ≤ 10 by omega) (by decide)), w_pur, v_seq]
  simp only [v_asg, v_if, v_ret, v_drop, v_for, v_skip, w_bnd, w_pur, x_get, w_tgN, w_subG, w_asB, w_asI, w_if, w_truB, List.getElem?_cons_zero, List.getElem?_cons_succ, List.set_cons_zero, List.set_cons_succ]
  rw [w_mkL (by simp), v_seq]
  simp only [v_asg, v_if, v_ret, v_drop, v_for, v_skip, w_bnd, w_pur, x_get, w_tgN, w_subG, w_asB, w_asI, w_if, w_truB, List.getElem?_cons_zero, List.getElem?_cons_succ, List.set_cons_zero, List.set_cons_succ]
  have go4 := (go1.trans go3).app [Cell.lst []]
  have hc : (g3 ++ [Cell.lst []])[g3.length]? = some (.lst []) := by simp
  have lc : g.length ≤ g3.length := (go1.trans go3).k.le
  generalize hcn : g3.length = c at hc lc ⊢
  generalize g3 ++ [Cell.lst []] = g4 at hc go4 ⊢
  -- parts
  refine next_go go4.d (by decide) (by decide) fun np g5 p0 p1 go5 => ?_
  have lc4 : c < g4.length := (List.getElem?_eq_some_iff.mp hc).1
  have ci : c ≠ i := by omega
  have cj : c ≠ j := by omega
  rw [w_addi, x_rng (by omega) (by omega)]
  refine loop_wp (fun k s g' => ∃ v3 v4 v5 v6 v7 ps, s = [some (.ref j), some (.tup (sizes.map D.int)), some (.ref c), v3, v4, v5, v6, v7, none, none, none] ∧ Go i j g g' ∧ g'[c]? = some (.lst (ps.map partD)) ∧ ps.length = k ∧ ∀ x ∈ ps, OkPart sizes x) _
    ⟨none, none, none, none, none, [], rfl, go4.trans go5, by rw [go5.k.get c lc4 ci cj]; exact hc, rfl, fun x hx => by cases hx⟩ (fun _ _ _ _ _ => True.intro) ?_ ?_
  · rintro kk x s g6 hx ⟨v3, v4, v5, v6, v7, ps, rfl, go6, hps, hlen, hok⟩
    have lc6 : c < g6.length := (List.getElem?_eq_some_iff.mp hps).1
    rw [w_tgN, v_seq]
    simp only [v_asg, v_if, v_ret, v_drop, v_for, v_skip, w_bnd, w_pur, x_get, w_tgN, w_subG, w_asB, w_asI, w_if, w_truB, List.getElem?_cons_zero, List.getElem?_cons_succ, List.set_cons_zero, List.set_cons_succ]
    rw [w_mkL (by simp)]
    have go7 := go6.app [Cell.lst [.int 8, .int 2, .int 3]]
    have hps7 : (g6 ++ [Cell.lst [.int 8, .int 2, .int 3]])[c]? = some (.lst (ps.map partD)) := by rw [List.getElem?_append_left lc6]; exact hps
    have hm7 : (g6 ++ [Cell.lst [.int 8, .int 2, .int 3]])[g6.length]? = some (.lst [.int 8, .int 2, .int 3]) := by simp
    have l6 : g.length ≤ g6.length := go6.k.le
    refine next_go go7.d (by decide) (by decide) fun a g8 a0 a1 go8 => ?_
    have hm8 : g8[g6.length]? = some (.lst [.int 8, .int 2, .int 3]) := by rw [go8.k.get g6.length (by simp) (by omega) (by omega)]; exact hm7
    have hps8 : g8[c]? = some (.lst (ps.map partD)) := by rw [go8.k.get c (by simp; omega) ci cj]; exact hps7
    obtain ⟨most, hat, q0, q1⟩ : ∃ most : Int, atI [D.int 8, D.int 2, D.int 3] a = some (.int most) ∧ 0 < most ∧ most ≤ 8 := by
      rcases (show a = 0 ∨ a = 1 ∨ a = 2 by omega) with rfl | rfl | rfl
      · exact ⟨8, DL.atI0, by decide, by decide⟩
      · exact ⟨2, DL.atI1, by decide, by decide⟩
      · exact ⟨3, DL.atI2, by decide, by decide⟩
    rw [w_ixR hm8 hat, v_seq]
    simp only [v_asg, v_if, v_ret, v_drop, v_for, v_skip, w_bnd, w_pur, x_get, w_tgN, w_subG, w_asB, w_asI, w_if, w_truB, List.getElem?_cons_zero, List.getElem?_cons_succ, List.set_cons_zero, List.set_cons_succ]
    have go9 := go7.trans go8
    refine pair_go go9.d hs q0 q1 fun look g10 ok1 go10 => ?_
    have l8 : c < g8.length := (List.getElem?_eq_some_iff.mp hps8).1
    have hps10 : g10[c]? = some (.lst (ps.map partD)) := by rw [go10.k.get c l8 ci cj]; exact hps8
    rw [v_seq]
    simp only [v_asg, v_if, v_ret, v_drop, v_for, v_skip, w_bnd, w_pur, x_get, w_tgN, w_subG, w_asB, w_asI, w_if, w_truB, List.getElem?_cons_zero, List.getElem?_cons_succ, List.set_cons_zero, List.set_cons_succ]
    refine pair_go go10.d hs q0 q1 fun word g11 ok2 go11 => ?_
    have l10 : c < g10.length := (List.getElem?_eq_some_iff.mp hps10).1
    have hps11 : g11[c]? = some (.lst (ps.map partD)) := by rw [go11.k.get c l10 ci cj]; exact hps10
    have l11 : c < g11.length := (List.getElem?_eq_some_iff.mp hps11).1
    refine seq_wp (fun s g' => ∃ press, s = [some (.ref j), some (.tup (sizes.map D.int)), some (.ref c), some x, some (.int most), some (prD look), some (prD word), some (poD press), none, none, none] ∧ Go i j g11 g' ∧ ∀ c, press = some c → OkCh sizes c) ?_ ?_
    · simp only [v_asg, v_if, v_ret, v_drop, v_for, v_skip, w_bnd, w_pur, x_get, w_tgN, w_subG, w_asB, w_asI, w_if, w_truB, List.getElem?_cons_zero, List.getElem?_cons_succ, List.set_cons_zero, List.set_cons_succ]
      refine next_go go11.d (by decide) (by decide) fun b g12 _ _ go12 => ?_
      rw [w_eqI, w_asB]
      split
      · exact ⟨none, rfl, go12, fun c h => by cases h⟩
      · exact changes_go go12.d hs fun ch g13 okc go13 => ⟨some ch, rfl, go12.trans go13, fun c h => by cases h; exact okc⟩
    · rintro s g12 ⟨press, rfl, go12, okp⟩
      have hps12 : g12[c]? = some (.lst (ps.map partD)) := by rw [go12.k.get c l11 ci cj]; exact hps11
      rw [v_seq]
      simp only [v_asg, v_if, v_ret, v_drop, v_for, v_skip, w_bnd, w_pur, x_get, w_tgN, w_subG, w_asB, w_asI, w_if, w_truB, List.getElem?_cons_zero, List.getElem?_cons_succ, List.set_cons_zero, List.set_cons_succ]
      have hk : kk < (1 + np).toNat := by
        have := (List.getElem?_eq_some_iff.mp hx).1
        rw [rng_map (show 0 ≤ 1 + np by omega)] at this
        simpa using this
      rw [x_tyL hps12, w_mkT (by simp), x_app hps12 (by rw [List.length_map]; omega)]
      have l12 : c < g12.length := (List.getElem?_eq_some_iff.mp hps12).1
      have gt := go9.trans (go10.trans (go11.trans go12))
      refine ⟨_, _, _, _, _, ps ++ [⟨look, word, press⟩], rfl, ?_, ?_, by rw [List.length_append, hlen]; rfl, fun y hy => ?_⟩
      · rcases Go.set (c := .lst (ps.map partD ++ [.tup [prD look, prD word, poD press]])) (n := c) gt lc with h | h | h
        · exact h
        · exact absurd h ci
        · exact absurd h cj
      · rw [List.getElem?_set_self l12, List.map_append]; rfl
      · rcases List.mem_append.mp hy with hy | hy
        · exact hok y hy
        · have : y = ⟨look, word, press⟩ := by simpa using hy
          rw [this]
          exact ⟨ok1, ok2, okp⟩
  · rintro s g6 ⟨v3, v4, v5, v6, v7, ps, rfl, go6, hps, hlen, hok⟩
    have hnp : ps.length = (1 + np).toNat := by
      rw [hlen, rng_map (show 0 ≤ 1 + np by omega)]
      simp
    have lc6 : c < g6.length := (List.getElem?_eq_some_iff.mp hps).1
    rw [v_seq]
    simp only [v_asg, v_if, v_ret, v_drop, v_for, v_skip, w_bnd, w_pur, x_get, w_tgN, w_subG, w_asB, w_asI, w_if, w_truB, List.getElem?_cons_zero, List.getElem?_cons_succ, List.set_cons_zero, List.set_cons_succ, compD]
    -- ticks
    refine next_go go6.d (by decide) (by decide) fun t g7 t0 t1 go7 => ?_
    rw [x_rng (by omega) (by omega), rng_map (show 0 ≤ t by omega)]
    refine (comp_go (i := i) (j := j) (fun _ => by exact True.intro) (fun k : Nat => D.int (k : Int)) chD (fun _ c => OkCh sizes c) _ g7 go7.d fun x hx g8 go8 => ⟨[some (.ref j), some (.tup (sizes.map D.int)), some (.ref c), some (.int x), v4, v5, v6, v7, none, none, none], rfl, rfl, ?_⟩).mono fun ds g9 ⟨ticks, e, hlt, hyt, go9⟩ => ?_
    · simp only [v_asg, v_if, v_ret, v_drop, v_for, v_skip, w_bnd, w_pur, x_get, w_tgN, w_subG, w_asB, w_asI, w_if, w_truB, List.getElem?_cons_zero, List.getElem?_cons_succ, List.set_cons_zero, List.set_cons_succ]
      exact changes_go go8.d hs fun ch g9 okc go9 => ⟨ch, rfl, okc, go9⟩
    subst e
    rw [List.length_range] at hlt
    rw [if_pos (by rw [List.length_map, hlt]; exact Nat.le_trans (show t.toNat ≤ 10 by omega) (by decide)), w_pur, v_seq]
    have go69 := go7.trans go9
    have hps9 : g9[c]? = some (.lst (ps.map partD)) := by rw [go69.k.get c lc6 ci cj]; exact hps
    have lc9 : c < g9.length := (List.getElem?_eq_some_iff.mp hps9).1
    -- live
    simp only [v_asg, v_if, v_ret, v_drop, v_for, v_skip, w_bnd, w_pur, x_get, w_tgN, w_subG, w_asB, w_asI, w_if, w_truB, List.getElem?_cons_zero, List.getElem?_cons_succ, List.set_cons_zero, List.set_cons_succ, compD, x_lenR, hps9, List.length_map]
    rw [x_rng (by omega) (by omega), rng_map (show (0 : Int) ≤ (ps.length : Int) by omega)]
    refine (comp_goF (i := i) (j := j) (fun _ => by exact True.intro) (fun k : Nat => D.int (k : Int)) _ g9 go69.d fun x hx g8 go8 => ⟨[some (.ref j), some (.tup (sizes.map D.int)), some (.ref c), some (.int x), v4, v5, v6, v7, some (.tup (ticks.map chD)), none, none], rfl, ?_, fun g2 => rfl⟩).mono fun ds g10 ⟨live, e, hsub, go10⟩ => ?_
    · simp only [v_asg, v_if, v_ret, v_drop, v_for, v_skip, w_bnd, w_pur, x_get, w_tgN, w_subG, w_asB, w_asI, w_if, w_truB, List.getElem?_cons_zero, List.getElem?_cons_succ, List.set_cons_zero, List.set_cons_succ]
      refine next_go go8.d (by decide) (by decide) fun b g12 _ _ go12 => ?_
      rw [w_eqI, w_asB]
      exact go12
    subst e
    have hll : live.length ≤ 10 := by
      have := hsub.length_le
      rw [List.length_range] at this
      omega
    rw [if_pos (by rw [List.length_map]; exact Nat.le_trans hll (by decide)), w_pur, v_seq]
    have hps10 : g10[c]? = some (.lst (ps.map partD)) := by rw [go10.k.get c lc9 ci cj]; exact hps9
    have lc10 : c < g10.length := (List.getElem?_eq_some_iff.mp hps10).1
    -- skips
    simp only [v_asg, v_if, v_ret, v_drop, v_for, v_skip, w_bnd, w_pur, x_get, w_tgN, w_subG, w_asB, w_asI, w_if, w_truB, List.getElem?_cons_zero, List.getElem?_cons_succ, List.set_cons_zero, List.set_cons_succ, compD, x_lenR, hps10, List.length_map]
    rw [x_rng (by omega) (by omega), rng_map (show (0 : Int) ≤ (ps.length : Int) by omega)]
    refine (comp_goF (i := i) (j := j) (fun _ => by exact True.intro) (fun k : Nat => D.int (k : Int)) _ g10 go10.d fun x hx g8 go8 => ⟨[some (.ref j), some (.tup (sizes.map D.int)), some (.ref c), some (.int x), v4, v5, v6, v7, some (.tup (ticks.map chD)), some (.tup (live.map fun k : Nat => D.int (k : Int))), none], rfl, ?_, fun g2 => rfl⟩).mono fun ds g11 ⟨skips, e, hsub2, go11⟩ => ?_
    · simp only [v_asg, v_if, v_ret, v_drop, v_for, v_skip, w_bnd, w_pur, x_get, w_tgN, w_subG, w_asB, w_asI, w_if, w_truB, List.getElem?_cons_zero, List.getElem?_cons_succ, List.set_cons_zero, List.set_cons_succ]
      refine next_go go8.d (by decide) (by decide) fun b g12 _ _ go12 => ?_
      rw [w_eqI, w_asB]
      exact go12
    subst e
    have hll2 : skips.length ≤ 10 := by
      have := hsub2.length_le
      rw [List.length_range] at this
      omega
    rw [if_pos (by rw [List.length_map]; exact Nat.le_trans hll2 (by decide)), w_pur, v_seq]
    have hps11 : g11[c]? = some (.lst (ps.map partD)) := by rw [go11.k.get c lc10 ci cj]; exact hps10
    -- the dict
    simp only [v_asg, v_if, v_ret, v_drop, v_for, v_skip, w_bnd, w_pur, x_get, w_tgN, w_subG, w_asB, w_asI, w_if, w_truB, List.getElem?_cons_zero, List.getElem?_cons_succ, List.set_cons_zero, List.set_cons_succ, x_tupR, hps11]
    show okM (dispD _ _ g11) _
    have go := go6.trans (go69.trans (go10.trans go11))
    have a1 := asc_sub hsub
    have a2 := asc_sub hsub2
    have ed : ∀ l : List Nat, l.map (fun k : Nat => D.int (k : Int)) = (l.map fun k : Nat => (k : Int)).map D.int := fun l => by rw [List.map_map]; rfl
    refine ⟨k ⟨sizes, ps, ticks, live.map fun k : Nat => (k : Int), skips.map fun k : Nat => (k : Int)⟩ _ _ ⟨hs, (show 1 ≤ ps.length ∧ ps.length ≤ 4 by omega), hok, (show ticks.length ≤ 2 by omega), fun c hc => let ⟨_, _, o⟩ := hyt c hc; o, a1, a2⟩ (go.app _) ?_, ?_⟩
    · show (g11 ++ [Cell.dic ((([("sizes" : Str), ("parts" : Str), ("ticks" : Str), ("live" : Str), ("skips" : Str)] : List Str).map Sum.inr).zip [D.tup (sizes.map D.int), D.tup (ps.map partD), D.tup (ticks.map chD), D.tup (live.map fun k : Nat => D.int (k : Int)), D.tup (skips.map fun k : Nat => D.int (k : Int))])])[g11.length]? = some (Cell.dic _)
      rw [ed, ed]
      exact List.getElem?_concat_length
    · have := go.k.le
      show decide (g11.length < g.length) = false
      exact decide_eq_false (by omega)
end K14
namespace K14
open PySem PySem.Spec PyProof.Rows L2 DL
open Classical
variable {cP : Addr} {kP : Ks}
theorem ok_iff {α : Type} {a : α} {g : GS} {P : α → GS → Prop} : okM (.ok a g) P ↔ P a g := Iff.rfl
theorem fn_eq {np k : Nat} {ms : MS} {ds : List D} {g : GS} {d : D} (hn : ds.length = np) (h : okS (ms (ds.map some ++ List.replicate (k - np) none) g) (fun _ _ => False) (fun d' g' => d' = d ∧ g' = g) (fun _ _ => False) fun _ _ => False) : fnM np k ms ds g = .ok d g := by
  refine okM.eq (fn_wp hn (h.mono (fun _ _ z => z.elim) (fun d g' z => ?_) (fun _ _ z => z) fun _ _ z => z))
  obtain ⟨rfl, rfl⟩ := z
  exact ⟨⟨rfl, rfl⟩, rfl, by rw [List.take_length]⟩
theorem isi_bi {x : Int} {g : GS} {P : D → GS → Prop} : okM (isiD "bool" [.int x, .ty "bool"] g) P ↔ P (.bl false) g := by
  unfold isiD
  simp only [if_true, tyD]
  rw [show kitB "int" "bool" = some false from by decide]
  rfl
theorem isi_ii {x : Int} {g : GS} {P : D → GS → Prop} : okM (isiD "int" [.int x, .ty "int"] g) P ↔ P (.bl true) g := by
  unfold isiD
  simp only [if_true, tyD]
  rw [show kitB "int" "int" = some true from by decide]
  rfl
theorem number_eq {x lo hi : Int} {g : GS} : F__is_number cP [.int x, .int lo, .int hi] g = .ok (.bl (decide (lo ≤ x) && decide (x ≤ hi))) g := by
  refine fn_eq rfl ?_
  show okS (m__is_number cP [some (.int x), some (.int lo), some (.int hi)] g) _ _ _ _
  simp only [m__is_number, v_seq, v_asg, v_if, v_ret, v_drop, v_for, v_skip, w_bnd, w_pur, x_get, w_tgN, w_subG, w_asB, w_asI, w_if, w_truB, List.getElem?_cons_zero, List.getElem?_cons_succ, List.set_cons_zero, List.set_cons_succ, isi_bi, isi_ii, w_le, Bool.not_true, Bool.false_eq_true, if_false]
  by_cases h : lo ≤ x
  · rw [decide_eq_true h]
    simp only [if_true, v_asg, v_if, v_ret, v_drop, v_for, v_skip, w_bnd, w_pur, x_get, w_tgN, w_subG, w_asB, w_asI, w_if, w_truB, List.getElem?_cons_zero, List.getElem?_cons_succ, List.set_cons_zero, List.set_cons_succ, w_le, Bool.true_and]
    first | exact ⟨rfl, rfl⟩ | exact ⟨rfl, True.intro⟩ | exact rfl | exact True.intro | simp
  · rw [decide_eq_false h]
    first | exact ⟨rfl, rfl⟩ | exact ⟨rfl, True.intro⟩ | exact rfl | exact True.intro | simp
theorem any_false {α : Type} {xs : List α} {f : α → Bool} (h : ∀ x ∈ xs, f x = true) : (xs.any fun x => f x == false) = false := by
  rw [List.any_eq_false]
  intro x hx
  rw [h x hx]
  decide
theorem sizes_eq {sizes : List Int} {g : GS} (hs : OkSizes sizes) : F_are_sizes cP [dI sizes] g = .ok (.bl true) g := by
  obtain ⟨h1, h2, h3⟩ := hs
  refine fn_eq rfl ?_
  show okS (m_are_sizes cP [some (dI sizes), none] g) _ _ _ _
  simp only [m_are_sizes, v_seq, v_asg, v_if, v_ret, v_drop, v_for, v_skip, w_bnd, w_pur, x_get, w_tgN, w_subG, w_asB, w_asI, w_if, w_truB, List.getElem?_cons_zero, List.getElem?_cons_succ, List.set_cons_zero, List.set_cons_succ, dI, w_lenT, w_le, List.length_map, genD, x_seqT, wipeD]
  rw [decide_eq_true (show (1 : Int) ≤ (sizes.length : Int) by omega), decide_eq_true (show (sizes.length : Int) ≤ 3 by omega)]
  simp only [if_true, v_asg, v_if, v_ret, v_drop, v_for, v_skip, w_bnd, w_pur, x_get, w_tgN, w_subG, w_asB, w_asI, w_if, w_truB, List.getElem?_cons_zero, List.getElem?_cons_succ, List.set_cons_zero, List.set_cons_succ, x_seqT]
  refine okM.of (gen_wpT (by exact True.intro) D.int (fun x => decide (2 ≤ x) && decide (x ≤ 4)) sizes fun x hx => ⟨_, rfl, okM.eq ?_⟩) ?_
  · simp only [v_asg, v_if, v_ret, v_drop, v_for, v_skip, w_bnd, w_pur, x_get, w_tgN, w_subG, w_asB, w_asI, w_if, w_truB, List.getElem?_cons_zero, List.getElem?_cons_succ, List.set_cons_zero, List.set_cons_succ, number_eq, ok_iff]
    first | exact ⟨rfl, rfl⟩ | exact ⟨rfl, True.intro⟩ | exact rfl | exact True.intro | simp
  · rw [any_false fun x hx => by
      have := h3 x hx
      rw [decide_eq_true this.1, decide_eq_true this.2]; rfl]
    first | exact ⟨rfl, rfl⟩ | exact ⟨rfl, True.intro⟩ | exact rfl | exact True.intro | simp
theorem change_eq {sizes : List Int} {m : Int × Int} {g : GS} (h : (0 ≤ m.1 ∧ m.1 < sizes.length) ∧ 1 ≤ m.2 ∧ m.2 ≤ 3) : F__is_change cP [dI sizes, mD m] g = .ok (.bl true) g := by
  refine fn_eq rfl ?_
  show okS (m__is_change cP [some (dI sizes), some (mD m), none, none] g) _ _ _ _
  simp only [m__is_change, v_seq, v_asg, v_if, v_ret, v_drop, v_for, v_skip, w_bnd, w_pur, x_get, w_tgN, w_subG, w_asB, w_asI, w_if, w_truB, List.getElem?_cons_zero, List.getElem?_cons_succ, List.set_cons_zero, List.set_cons_succ, mD, tgT2, dI, w_lenT, List.length_map, w_sub, number_eq, ok_iff]
  rw [decide_eq_true h.1.1, decide_eq_true (show m.1 ≤ (sizes.length : Int) - 1 by omega)]
  simp only [Bool.and_self, if_true, v_asg, v_if, v_ret, v_drop, v_for, v_skip, w_bnd, w_pur, x_get, w_tgN, w_subG, w_asB, w_asI, w_if, w_truB, List.getElem?_cons_zero, List.getElem?_cons_succ, List.set_cons_zero, List.set_cons_succ, number_eq, ok_iff]
  rw [decide_eq_true h.2.1, decide_eq_true h.2.2]
  first | exact ⟨rfl, rfl⟩ | exact ⟨rfl, True.intro⟩ | exact rfl | exact True.intro | simp
theorem changes_eq {sizes : List Int} {c : Ch} {g : GS} (h : OkCh sizes c) : F_are_changes cP [dI sizes, chD c] g = .ok (.bl true) g := by
  obtain ⟨h1, h2, h3⟩ := h
  refine fn_eq rfl ?_
  show okS (m_are_changes cP [some (dI sizes), some (chD c), none] g) _ _ _ _
  simp only [m_are_changes, v_seq, v_asg, v_if, v_ret, v_drop, v_for, v_skip, w_bnd, w_pur, x_get, w_tgN, w_subG, w_asB, w_asI, w_if, w_truB, List.getElem?_cons_zero, List.getElem?_cons_succ, List.set_cons_zero, List.set_cons_succ, chD, w_lenT, w_le, List.length_map, genD, x_seqT, wipeD]
  rw [decide_eq_true (show (1 : Int) ≤ (c.length : Int) by omega), decide_eq_true (show (c.length : Int) ≤ 3 by omega)]
  simp only [if_true, v_asg, v_if, v_ret, v_drop, v_for, v_skip, w_bnd, w_pur, x_get, w_tgN, w_subG, w_asB, w_asI, w_if, w_truB, List.getElem?_cons_zero, List.getElem?_cons_succ, List.set_cons_zero, List.set_cons_succ, x_seqT]
  refine okM.of (gen_wpT (by exact True.intro) mD (fun _ => true) c fun x hx => ⟨_, rfl, okM.eq ?_⟩) ?_
  · simp only [v_asg, v_if, v_ret, v_drop, v_for, v_skip, w_bnd, w_pur, x_get, w_tgN, w_subG, w_asB, w_asI, w_if, w_truB, List.getElem?_cons_zero, List.getElem?_cons_succ, List.set_cons_zero, List.set_cons_succ, change_eq (h3 x hx), ok_iff]
    first | exact ⟨rfl, rfl⟩ | exact ⟨rfl, True.intro⟩ | exact rfl | exact True.intro | simp
  · rw [any_false fun x hx => rfl]
    first | exact ⟨rfl, rfl⟩ | exact ⟨rfl, True.intro⟩ | exact rfl | exact True.intro | simp
theorem ticks_eq {sizes : List Int} {ts : List Ch} {g : GS} (hn : ts.length ≤ 2) (h : ∀ c ∈ ts, OkCh sizes c) : F__are_ticks cP [dI sizes, .tup (ts.map chD)] g = .ok (.bl true) g := by
  refine fn_eq rfl ?_
  show okS (m__are_ticks cP [some (dI sizes), some (.tup (ts.map chD)), none] g) _ _ _ _
  simp only [m__are_ticks, v_seq, v_asg, v_if, v_ret, v_drop, v_for, v_skip, w_bnd, w_pur, x_get, w_tgN, w_subG, w_asB, w_asI, w_if, w_truB, List.getElem?_cons_zero, List.getElem?_cons_succ, List.set_cons_zero, List.set_cons_succ, w_lenT, w_le, List.length_map, genD, x_seqT, wipeD]
  rw [decide_eq_true (show (ts.length : Int) ≤ 2 by omega)]
  simp only [if_true, v_asg, v_if, v_ret, v_drop, v_for, v_skip, w_bnd, w_pur, x_get, w_tgN, w_subG, w_asB, w_asI, w_if, w_truB, List.getElem?_cons_zero, List.getElem?_cons_succ, List.set_cons_zero, List.set_cons_succ, x_seqT]
  refine okM.of (gen_wpT (by exact True.intro) chD (fun _ => true) ts fun x hx => ⟨_, rfl, okM.eq ?_⟩) ?_
  · simp only [v_asg, v_if, v_ret, v_drop, v_for, v_skip, w_bnd, w_pur, x_get, w_tgN, w_subG, w_asB, w_asI, w_if, w_truB, List.getElem?_cons_zero, List.getElem?_cons_succ, List.set_cons_zero, List.set_cons_succ, changes_eq (h x hx), ok_iff]
    first | exact ⟨rfl, rfl⟩ | exact ⟨rfl, True.intro⟩ | exact rfl | exact True.intro | simp
  · rw [any_false fun x hx => rfl]
    first | exact ⟨rfl, rfl⟩ | exact ⟨rfl, True.intro⟩ | exact rfl | exact True.intro | simp
theorem shown_eq {sizes : List Int} {p : Pr} {g : GS} (hs : OkSizes sizes) (h : OkPr sizes p) : F_is_shown cP [dI sizes, prD p] g = .ok (.bl true) g := by
  obtain ⟨⟨v, hv, hz⟩, h3⟩ := h
  have hv2 := (List.getElem?_eq_some_iff.mp hz).1
  have hat : atI (sizes.map D.int) (v : Int) = some (.int (p.2.length : Int)) := DL.atI_nat (by rw [List.getElem?_map, hz]; rfl)
  refine fn_eq rfl ?_
  show okS (m_is_shown cP [some (dI sizes), some (prD p), none, none, none] g) _ _ _ _
  simp only [m_is_shown, v_seq, v_asg, v_if, v_ret, v_drop, v_for, v_skip, w_bnd, w_pur, x_get, w_tgN, w_subG, w_asB, w_asI, w_if, w_truB, List.getElem?_cons_zero, List.getElem?_cons_succ, List.set_cons_zero, List.set_cons_succ, prD, tgT2, hv, dI, w_lenT, List.length_map, w_sub, number_eq, ok_iff]
  rw [decide_eq_true (show (0 : Int) ≤ (v : Int) by omega), decide_eq_true (show (v : Int) ≤ (sizes.length : Int) - 1 by omega)]
  simp only [Bool.and_self, Bool.not_true, Bool.false_eq_true, if_false, v_asg, v_if, v_ret, v_drop, v_for, v_skip, w_bnd, w_pur, x_get, w_tgN, w_subG, w_asB, w_asI, w_if, w_truB, List.getElem?_cons_zero, List.getElem?_cons_succ, List.set_cons_zero, List.set_cons_succ, x_ixT, hat, w_eqI, decide_true, if_true, genD, x_seqT, wipeD]
  refine okM.of (gen_wpT (by exact True.intro) D.int (fun x => decide (0 ≤ x) && decide (x ≤ 7)) p.2 fun x hx => ⟨_, rfl, okM.eq ?_⟩) ?_
  · simp only [v_asg, v_if, v_ret, v_drop, v_for, v_skip, w_bnd, w_pur, x_get, w_tgN, w_subG, w_asB, w_asI, w_if, w_truB, List.getElem?_cons_zero, List.getElem?_cons_succ, List.set_cons_zero, List.set_cons_succ, number_eq, ok_iff]
    first | exact ⟨rfl, rfl⟩ | exact ⟨rfl, True.intro⟩ | exact rfl | exact True.intro | simp
  · rw [any_false fun x hx => by
      have := h3 x hx
      rw [decide_eq_true this.1, decide_eq_true this.2]; rfl]
    first | exact ⟨rfl, rfl⟩ | exact ⟨rfl, True.intro⟩ | exact rfl | exact True.intro | simp
theorem part_eq {sizes : List Int} {p : Part} {g : GS} (hs : OkSizes sizes) (h : OkPart sizes p) : F__is_part cP [dI sizes, partD p] g = .ok (.bl true) g := by
  obtain ⟨h1, h2, h3⟩ := h
  refine fn_eq rfl ?_
  show okS (m__is_part cP [some (dI sizes), some (partD p), none, none, none] g) _ _ _ _
  simp only [m__is_part, v_seq, v_asg, v_if, v_ret, v_drop, v_for, v_skip, w_bnd, w_pur, x_get, w_tgN, w_subG, w_asB, w_asI, w_if, w_truB, List.getElem?_cons_zero, List.getElem?_cons_succ, List.set_cons_zero, List.set_cons_succ, partD, tgT3, shown_eq hs h1, shown_eq hs h2, ok_iff, Bool.not_true, Bool.false_eq_true, if_false]
  cases hp : p.press with
  | none =>
    simp only [poD, isNoneD, isNonB, bne_iff_ne, v_asg, v_if, v_ret, v_drop, v_for, v_skip, w_bnd, w_pur, x_get, w_tgN, w_subG, w_asB, w_asI, w_if, w_truB, List.getElem?_cons_zero, List.getElem?_cons_succ, List.set_cons_zero, List.set_cons_succ, ok_iff, show (true != false) = true from rfl, if_true]
    first | exact ⟨rfl, rfl⟩ | exact ⟨rfl, True.intro⟩ | exact rfl | exact True.intro | simp
  | some c =>
    simp only [poD, chD, isNoneD, isNonB, v_asg, v_if, v_ret, v_drop, v_for, v_skip, w_bnd, w_pur, x_get, w_tgN, w_subG, w_asB, w_asI, w_if, w_truB, List.getElem?_cons_zero, List.getElem?_cons_succ, List.set_cons_zero, List.set_cons_succ, ok_iff, show (false != false) = false from rfl, Bool.false_eq_true, if_false]
    have e := changes_eq (cP := cP) (g := g) (h3 c hp)
    simp only [chD, dI] at e ⊢
    rw [e]
    first | exact ⟨rfl, rfl⟩ | exact ⟨rfl, True.intro⟩ | exact rfl | exact True.intro | simp
theorem parts_eq {sizes : List Int} {ps : List Part} {g : GS} (hs : OkSizes sizes) (hn : 1 ≤ ps.length ∧ ps.length ≤ 4) (h : ∀ p ∈ ps, OkPart sizes p) : F__are_parts cP [dI sizes, .tup (ps.map partD)] g = .ok (.bl true) g := by
  refine fn_eq rfl ?_
  show okS (m__are_parts cP [some (dI sizes), some (.tup (ps.map partD)), none] g) _ _ _ _
  simp only [m__are_parts, v_seq, v_asg, v_if, v_ret, v_drop, v_for, v_skip, w_bnd, w_pur, x_get, w_tgN, w_subG, w_asB, w_asI, w_if, w_truB, List.getElem?_cons_zero, List.getElem?_cons_succ, List.set_cons_zero, List.set_cons_succ, w_lenT, w_le, List.length_map, genD, x_seqT, wipeD]
  rw [decide_eq_true (show (1 : Int) ≤ (ps.length : Int) by omega), decide_eq_true (show (ps.length : Int) ≤ 4 by omega)]
  simp only [if_true, v_asg, v_if, v_ret, v_drop, v_for, v_skip, w_bnd, w_pur, x_get, w_tgN, w_subG, w_asB, w_asI, w_if, w_truB, List.getElem?_cons_zero, List.getElem?_cons_succ, List.set_cons_zero, List.set_cons_succ, x_seqT]
  refine okM.of (gen_wpT (by exact True.intro) partD (fun _ => true) ps fun x hx => ⟨_, rfl, okM.eq ?_⟩) ?_
  · simp only [v_asg, v_if, v_ret, v_drop, v_for, v_skip, w_bnd, w_pur, x_get, w_tgN, w_subG, w_asB, w_asI, w_if, w_truB, List.getElem?_cons_zero, List.getElem?_cons_succ, List.set_cons_zero, List.set_cons_succ, part_eq hs (h x hx), ok_iff]
    first | exact ⟨rfl, rfl⟩ | exact ⟨rfl, True.intro⟩ | exact rfl | exact True.intro | simp
  · rw [any_false fun x hx => rfl]
    first | exact ⟨rfl, rfl⟩ | exact ⟨rfl, True.intro⟩ | exact rfl | exact True.intro | simp
theorem indexes_eq {n : Nat} {l : List Int} {g : GS} (hp : l.Pairwise (· < ·)) (h : ∀ x ∈ l, 0 ≤ x ∧ x < (n : Int)) : F_are_indexes cP [.int n, dI l] g = .ok (.bl true) g := by
  refine fn_eq rfl ?_
  show okS (m_are_indexes cP [some (.int n), some (dI l), none, none] g) _ _ _ _
  simp only [m_are_indexes, v_seq, v_asg, v_if, v_ret, v_drop, v_for, v_skip, w_bnd, w_pur, x_get, w_tgN, w_subG, w_asB, w_asI, w_if, w_truB, List.getElem?_cons_zero, List.getElem?_cons_succ, List.set_cons_zero, List.set_cons_succ, dI, x_seqT]
  refine loop_wp (fun k s g' => ∃ (lo : Int) (v : Option D), s = [some (.int n), some (.tup (l.map D.int)), some (.int lo), v] ∧ g' = g ∧ ∀ x ∈ l.drop k, lo ≤ x) _ ⟨0, none, rfl, rfl, fun x hx => (h x (List.drop_subset _ _ hx)).1⟩ (fun _ _ _ _ _ => True.intro) ?_ ?_
  · rintro k x s g' hx ⟨lo, v, rfl, rfl, hlo⟩
    rw [List.getElem?_map] at hx
    cases e : l[k]? with
    | none => rw [e] at hx; cases hx
    | some y =>
      rw [e] at hx
      cases hx
      have hk := (List.getElem?_eq_some_iff.mp e).1
      have ey : l[k] = y := (List.getElem?_eq_some_iff.mp e).2
      have hd : l.drop k = l[k] :: l.drop (k + 1) := List.drop_eq_getElem_cons hk
      have h1 : lo ≤ y := hlo y (by rw [hd, ey]; exact List.mem_cons_self)
      have h2 := h y (List.mem_of_getElem? e)
      rw [w_tgN]
      simp only [v_seq, v_asg, v_if, v_ret, v_drop, v_for, v_skip, w_bnd, w_pur, x_get, w_tgN, w_subG, w_asB, w_asI, w_if, w_truB, List.getElem?_cons_zero, List.getElem?_cons_succ, List.set_cons_zero, List.set_cons_succ, w_sub, number_eq, ok_iff, w_addi]
      rw [decide_eq_true h1, decide_eq_true (show y ≤ (n : Int) - 1 by omega)]
      simp only [Bool.and_self, Bool.not_true, Bool.false_eq_true, if_false]
      refine ⟨y + 1, _, rfl, True.intro, fun z hz => ?_⟩
      have hp2 : (l.drop k).Pairwise (· < ·) := hp.sublist (List.drop_sublist _ _)
      rw [hd, ey] at hp2
      have := (List.pairwise_cons.mp hp2).1 z hz
      omega
  · rintro s g' ⟨lo, v, rfl, rfl, _⟩
    first | exact ⟨rfl, rfl⟩ | exact ⟨rfl, True.intro⟩ | exact rfl | exact True.intro | simp
def progD (cP : Addr) (p : Prg) : D := .ins cP nsP (prgV p)
theorem init_eq {p : Prg} {g : GS} (h : OkPrg p) : iniM (m_init cP) (prgV p) g = .ok () g := by
  unfold iniM
  have key : okS (m_init cP [some .non, some (dI p.sizes), some (.tup (p.parts.map partD)), some (.tup (p.ticks.map chD)), some (dI p.live), some (dI p.skips)] g) (fun _ g' => g' = g) (fun _ _ => False) (fun _ _ => False) fun _ _ => False := by
    simp only [m_init, v_seq, v_asg, v_if, v_ret, v_drop, v_for, v_skip, w_bnd, w_pur, x_get, w_tgN, w_subG, w_asB, w_asI, w_if, w_truB, List.getElem?_cons_zero, List.getElem?_cons_succ, List.set_cons_zero, List.set_cons_succ, sizes_eq h.sizes, parts_eq h.sizes h.np h.parts, ticks_eq h.nt h.ticks, w_lenT, List.length_map, indexes_eq h.live.1 h.live.2, indexes_eq h.skips.1 h.skips.2, ok_iff, Bool.not_true, Bool.false_eq_true, if_false]
  show outc (m_init cP [some .non, some (dI p.sizes), some (.tup (p.parts.map partD)), some (.tup (p.ticks.map chD)), some (dI p.live), some (dI p.skips)] g) = _
  generalize m_init cP [some .non, some (dI p.sizes), some (.tup (p.parts.map partD)), some (.tup (p.ticks.map chD)), some (dI p.live), some (dI p.skips)] g = r at key ⊢
  cases r with
  | nx s g' =>
    have key : g' = g := key
    rw [key]; rfl
  | _ => exact key.elim
theorem made_eq {p : Prg} {g : GS} {n : Nat} (h : OkPrg p) (hn : g[n]? = some (.dic (prgK p))) : F__law_made cP [.ref n] g = .ok (progD cP p) g := by
  refine fn_eq rfl ?_
  show okS (m__law_made cP [some (.ref n)] g) _ _ _ _
  have get : ∀ (k : Str) (d : D) (P : D → GS → Prop), dget (prgK p) (.inr k) = some d → (okM (dgetD (.ref n) (.str k) g) P ↔ P d g) := fun k d P e => by
    unfold dgetD keyD
    dsimp only
    rw [hn]
    dsimp only
    rw [e]; rfl
  simp only [m__law_made, v_seq, v_asg, v_if, v_ret, v_drop, v_for, v_skip, w_bnd, w_pur, x_get, w_tgN, w_subG, w_asB, w_asI, w_if, w_truB, List.getElem?_cons_zero, List.getElem?_cons_succ, List.set_cons_zero, List.set_cons_succ]
  rw [get _ _ _ (show dget (prgK p) (.inr ("sizes" : Str)) = some (dI p.sizes) from rfl)]
  rw [get _ _ _ (show dget (prgK p) (.inr ("parts" : Str)) = some (.tup (p.parts.map partD)) from rfl)]
  rw [get _ _ _ (show dget (prgK p) (.inr ("ticks" : Str)) = some (.tup (p.ticks.map chD)) from rfl)]
  rw [get _ _ _ (show dget (prgK p) (.inr ("live" : Str)) = some (dI p.live) from rfl)]
  rw [get _ _ _ (show dget (prgK p) (.inr ("skips" : Str)) = some (dI p.skips) from rfl)]
  show okM (makeD cP nsP (m_init cP) (prgV p) g) _
  unfold makeD
  rw [if_pos (show (prgV p).length = nsP.length from rfl), init_eq h]
  exact ⟨rfl, rfl⟩
end K14
namespace K14
open PySem PySem.Spec PyProof.Rows L2 DL
open Classical
variable {cP : Addr} {kP : Ks}
theorem f_sizes {p : Prg} {g : GS} {P : D → GS → Prop} : okM (fldD cP ("sizes" : Str) (progD cP p) g) P ↔ P (dI p.sizes) g := by
  unfold fldD progD
  dsimp only
  rw [if_pos rfl]
  exact Iff.rfl
theorem f_parts {p : Prg} {g : GS} {P : D → GS → Prop} : okM (fldD cP ("parts" : Str) (progD cP p) g) P ↔ P (.tup (p.parts.map partD)) g := by
  unfold fldD progD
  dsimp only
  rw [if_pos rfl]
  exact Iff.rfl
theorem f_ticks {p : Prg} {g : GS} {P : D → GS → Prop} : okM (fldD cP ("ticks" : Str) (progD cP p) g) P ↔ P (.tup (p.ticks.map chD)) g := by
  unfold fldD progD
  dsimp only
  rw [if_pos rfl]
  exact Iff.rfl
theorem f_live {p : Prg} {g : GS} {P : D → GS → Prop} : okM (fldD cP ("live" : Str) (progD cP p) g) P ↔ P (dI p.live) g := by
  unfold fldD progD
  dsimp only
  rw [if_pos rfl]
  exact Iff.rfl
theorem f_skips {p : Prg} {g : GS} {P : D → GS → Prop} : okM (fldD cP ("skips" : Str) (progD cP p) g) P ↔ P (dI p.skips) g := by
  unfold fldD progD
  dsimp only
  rw [if_pos rfl]
  exact Iff.rfl
/-- a def that draws nothing; lists of its own may be left -/
theorem fn_app {np k : Nat} {ms : MS} {ds : List D} {g : GS} {d : D} {P : D → GS → Prop} (hn : ds.length = np) (h : okS (ms (ds.map some ++ List.replicate (k - np) none) g) (fun _ _ => False) (fun d' g' => d' = d ∧ ∃ ex, g' = g ++ ex) (fun _ _ => False) fun _ _ => False) (hP : ∀ ex, P d (g ++ ex)) : okM (fnM np k ms ds g) P := by
  refine fn_wp hn (h.mono (fun _ _ z => z.elim) (fun d' g' z => ?_) (fun _ _ z => z) fun _ _ z => z)
  obtain ⟨rfl, ex, rfl⟩ := z
  exact ⟨hP ex, by
    have z := hP []
    rw [List.append_nil] at z
    rw [List.take_left' rfl]
    exact z⟩
theorem range_get {α β : Type} (l : List α) (f : α → β) (f' : Nat → β) (h : ∀ k x, l[k]? = some x → f' k = f x) : (List.range l.length).map f' = l.map f := by
  apply List.ext_getElem
  · simp
  · intro i h1 h2
    have hi : i < l.length := by simpa using h1
    rw [List.getElem_map, List.getElem_map, List.getElem_range]
    exact h i _ (List.getElem?_eq_getElem hi)
end K14
namespace K14
open PySem PySem.Spec PyProof.Rows L2 DL
open Classical
variable {cP : Addr} {kP : Ks}
theorem cut_one {xs : List D} : DL.cutD xs (some 1) none = xs.drop 1 := by
  unfold DL.cutD
  rw [HT.sIx_none, show HT.sIx xs.length 0 (some (1 : Int)) = min 1 xs.length from HT.sIx_nat xs.length 0 1]
  cases xs with
  | nil => rfl
  | cons x r =>
    rw [List.length_cons, Nat.min_eq_left (by omega)]
    exact List.take_of_length_le (by simp)
end K14
namespace K14
open PySem PySem.Spec PyProof.Rows L2 DL
open Classical
variable {cP : Addr} {kP : Ks}
theorem plL_int : ∀ (l : List Int), plL 0 (l.map D.int) = true
  | [] => rfl
  | x :: l => by rw [List.map_cons, plL, plL_int l]; rfl
end K14
namespace K14
open PySem PySem.Spec PyProof.Rows L2 DL
open Classical
variable {cP : Addr} {kP : Ks}
theorem dget_parts {p : Prg} {n : Nat} {g : GS} {P : D → GS → Prop} (h : g[n]? = some (.dic (prgK p))) : okM (dgetD (.ref n) (.str ("parts" : Str)) g) P ↔ P (.tup (p.parts.map partD)) g := by
  unfold dgetD keyD
  dsimp only
  rw [h]
  dsimp only
  rw [show dget (prgK p) (.inr ("parts" : Str)) = some (.tup (p.parts.map partD)) from rfl]; rfl
theorem dget_sizes {p : Prg} {n : Nat} {g : GS} {P : D → GS → Prop} (h : g[n]? = some (.dic (prgK p))) : okM (dgetD (.ref n) (.str ("sizes" : Str)) g) P ↔ P (dI p.sizes) g := by
  unfold dgetD keyD
  dsimp only
  rw [h]
  dsimp only
  rw [show dget (prgK p) (.inr ("sizes" : Str)) = some (dI p.sizes) from rfl]; rfl
theorem dget_ticks {p : Prg} {n : Nat} {g : GS} {P : D → GS → Prop} (h : g[n]? = some (.dic (prgK p))) : okM (dgetD (.ref n) (.str ("ticks" : Str)) g) P ↔ P (.tup (p.ticks.map chD)) g := by
  unfold dgetD keyD
  dsimp only
  rw [h]
  dsimp only
  rw [show dget (prgK p) (.inr ("ticks" : Str)) = some (.tup (p.ticks.map chD)) from rfl]; rfl
theorem dget_live {p : Prg} {n : Nat} {g : GS} {P : D → GS → Prop} (h : g[n]? = some (.dic (prgK p))) : okM (dgetD (.ref n) (.str ("live" : Str)) g) P ↔ P (dI p.live) g := by
  unfold dgetD keyD
  dsimp only
  rw [h]
  dsimp only
  rw [show dget (prgK p) (.inr ("live" : Str)) = some (dI p.live) from rfl]; rfl
theorem dget_skips {p : Prg} {n : Nat} {g : GS} {P : D → GS → Prop} (h : g[n]? = some (.dic (prgK p))) : okM (dgetD (.ref n) (.str ("skips" : Str)) g) P ↔ P (dI p.skips) g := by
  unfold dgetD keyD
  dsimp only
  rw [h]
  dsimp only
  rw [show dget (prgK p) (.inr ("skips" : Str)) = some (dI p.skips) from rfl]; rfl
end K14
namespace K14
open PySem PySem.Spec PyProof.Rows L2 DL
open Classical
variable {cP : Addr} {kP : Ks}
theorem str_assoc (a b c : Str) : a ++ b ++ c = a ++ (b ++ c) := by
  show Str.append (Str.append a b) c = Str.append a (Str.append b c)
  simp [Str.append, Array.append_assoc]
theorem str_len (a b : Str) : (a ++ b).length = a.length + b.length := by
  show (Str.append a b).length = _
  simp [Str.append, Str.length]
theorem str_ok2 {a b : Str} (ha : PyData.strOk a = true) (hb : PyData.strOk b = true) : PyData.strOk (a ++ b) = true := by
  show (Str.append a b).cps.all (· < 0x110000) = true
  have ha : a.cps.all (· < 0x110000) = true := ha
  have hb : b.cps.all (· < 0x110000) = true := hb
  unfold Str.append
  rw [Array.all_append, ha, hb]; rfl
theorem str_empty (a : Str) : a ++ Str.empty = a := by
  show Str.append a Str.empty = a
  simp [Str.append, Str.empty]
def dg (x : Int) : Str := ⟨#[48 + x.toNat]⟩
theorem dg_len (x : Int) : (dg x).length = 1 := rfl
theorem dg_ok {x : Int} (h0 : 0 ≤ x) (h7 : x ≤ 7) : PyData.strOk (dg x) = true := by
  have : 48 + x.toNat < 0x110000 := by omega
  show (#[48 + x.toNat] : Array Nat).all (· < 0x110000) = true
  simp [this]
theorem small {x : Int} (h0 : 0 ≤ x) (h7 : x ≤ 7) : x = 0 ∨ x = 1 ∨ x = 2 ∨ x = 3 ∨ x = 4 ∨ x = 5 ∨ x = 6 ∨ x = 7 := by omega
theorem str_eq {x : Int} {g : GS} {P : D → GS → Prop} (h0 : 0 ≤ x) (h7 : x ≤ 7) : okM (strD [.int x] g) P ↔ P (.str (dg x)) g := by
  have e : (Str.ofString (toString x : String)) = dg x ∧ x.natAbs.log2 < 1920 := by
    rcases small h0 h7 with rfl | rfl | rfl | rfl | rfl | rfl | rfl | rfl <;> exact ⟨by decide +kernel, by decide +kernel⟩
  unfold strD
  dsimp only
  rw [if_pos e.2, e.1]; rfl
theorem ixs_eq {x : Int} {g : GS} {P : D → GS → Prop} (h0 : 0 ≤ x) (h7 : x ≤ 7) : okM (ixSD (.str ("01234567" : Str)) (.int x) g) P ↔ P (.str (dg x)) g := by
  have e : atI ("01234567" : Str).cps.toList x = some (48 + x.toNat) ∧ ("01234567" : Str).length ≤ LIM := by
    rcases small h0 h7 with rfl | rfl | rfl | rfl | rfl | rfl | rfl | rfl <;> exact ⟨by decide +kernel, by decide +kernel⟩
  unfold ixSD
  dsimp only
  rw [if_pos e.2, e.1]; rfl
theorem x_addS {a b : Str} {g : GS} {P : D → GS → Prop} (h : a.length + b.length ≤ 1000000) : okM (addD (.str a) (.str b) g) P ↔ P (.str (a ++ b)) g := by
  unfold addD addS
  dsimp only
  rw [if_pos (show a.length + b.length ≤ LIM from h)]; rfl
theorem x_tyS {a : Str} {g : GS} {P : D → GS → Prop} : okM (tyM "str" (.str a) g) P ↔ P (.str a) g := by
  unfold tyM
  rw [if_pos (show tyD (.str a) g = some "str" from rfl)]; rfl
theorem strs_map : ∀ ys : List Str, strsOf (ys.map D.str) = some ys
  | [] => rfl
  | y :: ys => by rw [List.map_cons, strsOf, strs_map ys]; rfl
theorem x_join {z : Str} {n : Nat} {ys : List Str} {g : GS} {P : D → GS → Prop} (h : g[n]? = some (.lst (ys.map D.str))) (hl : (ys.map (·.length)).sum + ys.length * z.length ≤ 1000000) : okM (joinD (.str z) [.ref n] g) P ↔ P (.str (Str.join z ys)) g := by
  unfold joinD
  dsimp only
  rw [h]
  dsimp only
  rw [strs_map]
  dsimp only
  rw [if_pos (show (ys.map (·.length)).sum + ys.length * z.length ≤ LIM from hl)]; rfl
/-- a line without its line feed -/
def lineS (kind : Str) (ns : List Int) : Str := ns.foldl (fun t x => t ++ (" " : Str) ++ dg x) kind
theorem line_len : ∀ (ns : List Int) (kind : Str), (lineS kind ns).length = kind.length + 2 * ns.length
  | [], kind => rfl
  | x :: ns, kind => by
    show (lineS (kind ++ (" " : Str) ++ dg x) ns).length = _
    rw [line_len ns, str_len, str_len, dg_len, show (" " : Str).length = 1 from by decide +kernel, List.length_cons]
    omega
theorem line_ok : ∀ (ns : List Int) (kind : Str), PyData.strOk kind = true → (∀ x ∈ ns, 0 ≤ x ∧ x ≤ 7) → PyData.strOk (lineS kind ns) = true
  | [], kind, h, _ => h
  | x :: ns, kind, h, hx => by
    have h1 := hx x List.mem_cons_self
    exact line_ok ns _ (str_ok2 (str_ok2 h (by decide +kernel)) (dg_ok h1.1 h1.2)) fun y hy => hx y (List.mem_cons_of_mem _ hy)
theorem fold_app (sep : Str) : ∀ (r : List Str) (a b : Str), a ++ r.foldl (fun t y => t ++ sep ++ y) b = r.foldl (fun t y => t ++ sep ++ y) (a ++ b)
  | [], a, b => rfl
  | y :: r, a, b => by
    rw [List.foldl_cons, List.foldl_cons, fold_app sep r, str_assoc, str_assoc, str_assoc]
theorem join_fold (sep : Str) : ∀ (r : List Str) (x : Str), Str.join sep (x :: r) = r.foldl (fun t y => t ++ sep ++ y) x
  | [], x => rfl
  | y :: r, x => by
    show x ++ sep ++ Str.join sep (y :: r) = _
    rw [join_fold sep r y, fold_app, List.foldl_cons]
theorem join_line (kind : Str) (ns : List Int) : Str.join (" " : Str) (kind :: ns.map dg) = lineS kind ns := by
  rw [join_fold, List.foldl_map]; rfl
theorem sum_dg (ns : List Int) : ((ns.map dg).map (·.length)).sum = ns.length := by
  induction ns with
  | nil => rfl
  | cons x ns ih => rw [List.map_cons, List.map_cons, List.sum_cons, ih, dg_len, List.length_cons]; omega
def flat (c : Ch) : List Int := c.flatMap fun m => [m.1, m.2]
def partL (pt : Part) : List Str := [lineS ("part" : Str) [], lineS ("look" : Str) (pt.look.1 :: pt.look.2), lineS ("word" : Str) (pt.word.1 :: pt.word.2)] ++ (match pt.press with
  | none => []
  | some c => [lineS ("press" : Str) (flat c)])
def endL (kind : Str) (l : List Int) : List Str := if l = [] then [] else [lineS kind l]
def lns (p : Prg) : List Str := [lineS ("sizes" : Str) p.sizes] ++ p.parts.flatMap partL ++ p.ticks.map (fun c => lineS ("tick" : Str) (flat c)) ++ endL ("live" : Str) p.live ++ endL ("skips" : Str) p.skips
def nl (s : Str) : Str := s ++ ("\n" : Str)
theorem flat_len (c : Ch) : (flat c).length = 2 * c.length := by
  unfold flat
  induction c with
  | nil => rfl
  | cons m c ih => rw [List.flatMap_cons, List.length_append, ih]; simp; omega
theorem flat_ok {sizes : List Int} {c : Ch} (hs : OkSizes sizes) (h : OkCh sizes c) : (flat c).length ≤ 6 ∧ ∀ x ∈ flat c, 0 ≤ x ∧ x ≤ 7 := by
  refine ⟨by rw [flat_len]; have := h.2.1; omega, fun x hx => ?_⟩
  obtain ⟨m, hm, hx⟩ := List.mem_flatMap.mp hx
  have := h.2.2 m hm
  have := hs.2.1
  simp at hx
  rcases hx with rfl | rfl <;> omega
theorem pr_ok {sizes : List Int} {pr : Pr} (hs : OkSizes sizes) (h : OkPr sizes pr) : (pr.1 :: pr.2).length ≤ 5 ∧ ∀ x ∈ pr.1 :: pr.2, 0 ≤ x ∧ x ≤ 7 := by
  obtain ⟨⟨v, e, hz⟩, hx⟩ := h
  have hv := (List.getElem?_eq_some_iff.mp hz).1
  have h3 := hs.2.1
  have h4 := hs.2.2 _ (List.mem_of_getElem? hz)
  refine ⟨by rw [List.length_cons]; omega, fun x hx2 => ?_⟩
  rcases List.mem_cons.mp hx2 with rfl | hx2
  · omega
  · exact hx x hx2
theorem sizes_ok {sizes : List Int} (hs : OkSizes sizes) : sizes.length ≤ 6 ∧ ∀ x ∈ sizes, 0 ≤ x ∧ x ≤ 7 := ⟨by have := hs.2.1; omega, fun x hx => by have := hs.2.2 x hx; omega⟩
theorem asc_len : ∀ {l : List Int} {a n : Int}, l.Pairwise (· < ·) → (∀ x ∈ l, a ≤ x ∧ x < n) → (l.length : Int) ≤ max (n - a) 0
  | [], a, n, _, _ => by simp; omega
  | x :: l, a, n, hp, h => by
    have hx := h x List.mem_cons_self
    have hp := List.pairwise_cons.mp hp
    have := asc_len (a := x + 1) (n := n) hp.2 fun y hy => ⟨by have := hp.1 y hy; omega, (h y (List.mem_cons_of_mem _ hy)).2⟩
    rw [List.length_cons]
    omega
theorem ix_ok {n : Nat} {l : List Int} (hn : n ≤ 4) (hp : l.Pairwise (· < ·)) (h : ∀ x ∈ l, 0 ≤ x ∧ x < (n : Int)) : l.length ≤ 6 ∧ ∀ x ∈ l, 0 ≤ x ∧ x ≤ 7 := by
  have := asc_len hp h
  exact ⟨by omega, fun x hx => by have := h x hx; omega⟩
/-- what is good of a line -/
def OkLine (s : Str) : Prop := s.length ≤ 30 ∧ PyData.strOk s = true
theorem okLine {kind : Str} {ns : List Int} (hk : kind.length ≤ 10) (ho : PyData.strOk kind = true) (h : ns.length ≤ 6 ∧ ∀ x ∈ ns, 0 ≤ x ∧ x ≤ 7) : OkLine (lineS kind ns) := ⟨by rw [line_len]; omega, line_ok ns kind ho h.2⟩
theorem kinds : (("sizes" : Str).length ≤ 10 ∧ PyData.strOk ("sizes" : Str) = true) ∧ (("part" : Str).length ≤ 10 ∧ PyData.strOk ("part" : Str) = true) ∧ (("look" : Str).length ≤ 10 ∧ PyData.strOk ("look" : Str) = true) ∧ (("word" : Str).length ≤ 10 ∧ PyData.strOk ("word" : Str) = true) ∧ (("press" : Str).length ≤ 10 ∧ PyData.strOk ("press" : Str) = true) ∧ (("tick" : Str).length ≤ 10 ∧ PyData.strOk ("tick" : Str) = true) ∧ (("live" : Str).length ≤ 10 ∧ PyData.strOk ("live" : Str) = true) ∧ (("skips" : Str).length ≤ 10 ∧ PyData.strOk ("skips" : Str) = true) := by decide +kernel
theorem partL_ok {sizes : List Int} {pt : Part} (hs : OkSizes sizes) (h : OkPart sizes pt) : (partL pt).length ≤ 4 ∧ ∀ s ∈ partL pt, OkLine s := by
  obtain ⟨h1, h2, h3⟩ := h
  have k := kinds
  refine ⟨by unfold partL; cases pt.press <;> simp, fun s hs2 => ?_⟩
  have o1 := pr_ok hs h1
  have o2 := pr_ok hs h2
  unfold partL at hs2
  rcases List.mem_append.mp hs2 with hs2 | hs2
  · simp only [List.mem_cons, List.not_mem_nil, or_false] at hs2
    rcases hs2 with rfl | rfl | rfl
    · exact okLine k.2.1.1 k.2.1.2 ⟨by simp, fun x hx => by cases hx⟩
    · exact okLine k.2.2.1.1 k.2.2.1.2 ⟨by omega, o1.2⟩
    · exact okLine k.2.2.2.1.1 k.2.2.2.1.2 ⟨by omega, o2.2⟩
  · cases hp : pt.press with
    | none => rw [hp] at hs2; cases hs2
    | some c =>
      rw [hp] at hs2
      have : s = lineS ("press" : Str) (flat c) := by simpa using hs2
      rw [this]
      exact okLine k.2.2.2.2.1.1 k.2.2.2.2.1.2 (flat_ok hs (h3 c hp))
theorem join_ok : ∀ (L : List Str), (∀ s ∈ L, PyData.strOk s = true) → PyData.strOk (Str.join Str.empty L) = true
  | [], _ => by decide +kernel
  | [x], h => h x List.mem_cons_self
  | x :: y :: r, h => str_ok2 (str_ok2 (h x List.mem_cons_self) (by decide +kernel)) (join_ok (y :: r) fun s hs => h s (List.mem_cons_of_mem _ hs))
theorem pre_get {g g' : GS} {n : Nat} {c : Cell} (h : g <+: g') (hn : g[n]? = some c) : g'[n]? = some c := by
  obtain ⟨t, rfl⟩ := h
  rw [List.getElem?_append_left (List.getElem?_eq_some_iff.mp hn).1]
  exact hn
theorem pre_set {g g' : GS} {n : Nat} {c : Cell} (h : g <+: g') (hn : g.length ≤ n) : g <+: g'.set n c := by
  obtain ⟨t, rfl⟩ := h
  rw [List.set_append_right _ _ hn]
  exact List.prefix_append _ _
theorem pre_app {g g' : GS} (h : g <+: g') (ex : GS) : g <+: g' ++ ex := h.trans (List.prefix_append _ _)
theorem fn_pre {np k : Nat} {ms : MS} {ds : List D} {g : GS} {d : D} {P : D → GS → Prop} (hn : ds.length = np) (h : okS (ms (ds.map some ++ List.replicate (k - np) none) g) (fun _ _ => False) (fun d' g' => d' = d ∧ g <+: g') (fun _ _ => False) fun _ _ => False) (hP : ∀ g', g <+: g' → P d g') : okM (fnM np k ms ds g) P :=
  fn_app hn (h.mono (fun _ _ z => z) (fun d' g' ⟨e, t, et⟩ => ⟨e, t, et.symm⟩) (fun _ _ z => z) fun _ _ z => z) fun ex => hP _ (List.prefix_append _ _)
/-- items that are whole numbers, of a tuple or a list that stays -/
structure Nums (nd : D) (ns : List Int) (g : GS) : Prop where
  go : ∀ g', g <+: g' → ∃ w, seqW nd g' = .ok ⟨ns.map D.int, w⟩ g' ∧ ∀ g'', g' <+: g'' → (⟨ns.map D.int, w⟩ : Itm).ok g''
theorem nums_tup {ns : List Int} {g : GS} : Nums (.tup (ns.map D.int)) ns g := ⟨fun g' _ => ⟨none, rfl, fun _ _ => True.intro⟩⟩
theorem nums_ref {ns : List Int} {g : GS} {n : Nat} (h : g[n]? = some (.lst (ns.map D.int))) : Nums (.ref n) ns g := ⟨fun g' hg => by
  have e := pre_get hg h
  refine ⟨some (n, ns.map D.int), ?_, fun g'' hg2 => pre_get hg2 e⟩
  unfold seqW
  dsimp only
  rw [e]⟩
theorem lawline_wp {kind : Str} {nd : D} {ns : List Int} {g : GS} {P : D → GS → Prop} (hn : Nums nd ns g) (hk : kind.length ≤ 10) (h : ns.length ≤ 6 ∧ ∀ x ∈ ns, 0 ≤ x ∧ x ≤ 7) (k : ∀ g', g <+: g' → P (.str (lineS kind ns)) g') : okM (F__law_line cP [.str kind, nd] g) P := by
  obtain ⟨w, ew, hw⟩ := hn.go g (List.prefix_refl _)
  refine fn_pre rfl ?_ k
  show okS (m__law_line cP [some (.str kind), some nd, none, none] g) _ _ _ _
  unfold m__law_line
  rw [v_seq]
  simp only [v_asg, v_if, v_ret, v_drop, v_for, v_skip, w_bnd, w_pur, x_get, w_tgN, w_subG, w_asB, w_asI, w_if, w_truB, List.getElem?_cons_zero, List.getElem?_cons_succ, List.set_cons_zero, List.set_cons_succ]
  rw [v_seq]
  simp only [v_asg, v_if, v_ret, v_drop, v_for, v_skip, w_bnd, w_pur, x_get, w_tgN, w_subG, w_asB, w_asI, w_if, w_truB, List.getElem?_cons_zero, List.getElem?_cons_succ, List.set_cons_zero, List.set_cons_succ, ew, ok_iff]
  refine loop_wp (fun i s g' => ∃ v3, s = [some (.str kind), some nd, some (.str (lineS kind (ns.take i))), v3] ∧ g' = g) _ ⟨none, rfl, rfl⟩ (fun _ _ g' _ ⟨_, _, e⟩ => by rw [e]; exact hw g (List.prefix_refl _)) ?_ ?_
  · rintro i x s g' hx ⟨v3, rfl, rfl⟩
    rw [List.getElem?_map] at hx
    cases e : ns[i]? with
    | none => rw [e] at hx; cases hx
    | some y =>
      rw [e] at hx
      cases hx
      have hy := h.2 y (List.mem_of_getElem? e)
      have etake : ns.take (i + 1) = ns.take i ++ [y] := by rw [List.take_add_one, e]; rfl
      have el : (lineS kind (ns.take i)).length ≤ 30 := by
        rw [line_len, List.length_take]
        have := Nat.min_le_right i ns.length
        omega
      have s1 : (" " : Str).length = 1 := by decide +kernel
      rw [w_tgN, v_seq]
      simp only [v_asg, v_if, v_ret, v_drop, v_for, v_skip, w_bnd, w_pur, x_get, w_tgN, w_subG, w_asB, w_asI, w_if, w_truB, List.getElem?_cons_zero, List.getElem?_cons_succ, List.set_cons_zero, List.set_cons_succ]
      rw [x_addS (by omega)]
      simp only [ixs_eq hy.1 hy.2]
      rw [x_addS (by rw [str_len, dg_len]; omega)]
      have en : lineS kind (ns.take (i + 1)) = lineS kind (ns.take i) ++ (" " : Str) ++ dg y := by
        rw [etake]
        unfold lineS
        rw [List.foldl_append]
        rfl
      rw [en]
      first | exact ⟨_, rfl, rfl⟩ | exact ⟨_, rfl, True.intro⟩
  · rintro s g' ⟨v3, rfl, rfl⟩
    rw [List.length_map, List.take_length, v_seq]
    simp only [v_asg, v_if, v_ret, v_drop, v_for, v_skip, w_bnd, w_pur, x_get, w_tgN, w_subG, w_asB, w_asI, w_if, w_truB, List.getElem?_cons_zero, List.getElem?_cons_succ, List.set_cons_zero, List.set_cons_succ]
    first | exact ⟨rfl, List.prefix_refl _⟩ | exact ⟨True.intro, List.prefix_refl _⟩
theorem line_wp {kind : Str} {nd : D} {ns : List Int} {g : GS} {P : D → GS → Prop} (hn : Nums nd ns g) (hk : kind.length ≤ 10) (h : ns.length ≤ 6 ∧ ∀ x ∈ ns, 0 ≤ x ∧ x ≤ 7) (k : ∀ g', g <+: g' → P (.str (nl (lineS kind ns))) g') : okM (F__line cP [.str kind, nd] g) P := by
  refine fn_pre rfl ?_ k
  show okS (m__line cP [some (.str kind), some nd, none, none] g) _ _ _ _
  unfold m__line
  rw [v_seq]
  simp only [v_asg, v_if, v_ret, v_drop, v_for, v_skip, w_bnd, w_pur, x_get, w_tgN, w_subG, w_asB, w_asI, w_if, w_truB, List.getElem?_cons_zero, List.getElem?_cons_succ, List.set_cons_zero, List.set_cons_succ, compD, wipeD]
  rw [w_mkL (by simp)]
  obtain ⟨w, ew, hw⟩ := hn.go (g ++ [Cell.lst [.str kind]]) (List.prefix_append _ _)
  simp only [v_asg, v_if, v_ret, v_drop, v_for, v_skip, w_bnd, w_pur, x_get, w_tgN, w_subG, w_asB, w_asI, w_if, w_truB, List.getElem?_cons_zero, List.getElem?_cons_succ, List.set_cons_zero, List.set_cons_succ, ew, ok_iff]
  refine okM.of (comp_wpT (hw _ (List.prefix_refl _)) D.int (fun x => D.str (dg x)) ns fun x hx => ⟨_, rfl, rfl, okM.eq ?_⟩) ?_
  · have hy := h.2 x hx
    simp only [v_asg, v_if, v_ret, v_drop, v_for, v_skip, w_bnd, w_pur, x_get, w_tgN, w_subG, w_asB, w_asI, w_if, w_truB, List.getElem?_cons_zero, List.getElem?_cons_succ, List.set_cons_zero, List.set_cons_succ, str_eq hy.1 hy.2]
    first | exact ⟨rfl, rfl⟩ | exact ⟨rfl, True.intro⟩ | exact rfl | exact True.intro | simp
  rw [if_pos (by rw [List.length_map]; exact Nat.le_trans h.1 (by decide)), w_pur, w_newL]
  have ed : ns.map (fun x => D.str (dg x)) = (ns.map dg).map D.str := by rw [List.map_map]; rfl
  rw [ed, x_addR (xs := [.str kind]) (ys := (ns.map dg).map D.str) (by simp) (by simp) (by simp; omega), v_seq]
  have ej : [D.str kind] ++ (ns.map dg).map D.str = (kind :: ns.map dg).map D.str := rfl
  have s1 : (" " : Str).length = 1 := by decide +kernel
  have s2 : ("\n" : Str).length = 1 := by decide +kernel
  simp only [v_asg, v_if, v_ret, v_drop, v_for, v_skip, w_bnd, w_pur, x_get, w_tgN, w_subG, w_asB, w_asI, w_if, w_truB, List.getElem?_cons_zero, List.getElem?_cons_succ, List.set_cons_zero, List.set_cons_succ, x_tyS]
  rw [x_join (ys := kind :: ns.map dg) (by rw [ej]; exact List.getElem?_concat_length) (by rw [List.map_cons, List.sum_cons, sum_dg, List.length_cons, List.length_map, s1]; omega), join_line]
  rw [x_addS (by rw [line_len, s2]; omega)]
  refine ⟨rfl, ?_⟩
  rw [List.append_assoc, List.append_assoc]
  exact List.prefix_append _ _
end K14
namespace K14
open PySem PySem.Spec PyProof.Rows L2 DL
open Classical
variable {cP : Addr} {kP : Ks}
theorem comp2_eq {w : Itm} {s : Sl} {g : GS} (hok : w.ok g) (hs : s.length = 4) : ∀ (c : Ch), comp2M w (tgN 2) (fun s => sget s 2) (tgN 3) (fun s => sget s 3) [3] s (c.map mD) g = .ok ((flat c).map D.int) g
  | [] => by
    rw [List.map_nil]
    unfold comp2M
    rw [if_pos hok]; rfl
  | m :: c => by
    rw [List.map_cons]
    unfold comp2M
    rw [if_pos hok]
    have e1 : tgN 2 (mD m) s g = .ok (s.set 2 (some (mD m))) g := rfl
    rw [e1]
    dsimp only
    have e2 : bnd (sget (s.set 2 (some (mD m))) 2) seqW g = .ok ⟨[.int m.1, .int m.2], none⟩ g := by
      unfold bnd sget
      rw [List.getElem?_set_self (by omega)]
      rfl
    rw [e2]
    dsimp only
    have e3 : compM ⟨[D.int m.1, D.int m.2], none⟩ (tgN 3) (fun _ => pur true) (fun s => sget s 3) (wipeD (s.set 2 (some (mD m))) [3]) [D.int m.1, D.int m.2] g = .ok [D.int m.1, D.int m.2] g :=
      comp_wpT (by exact True.intro) D.int D.int [m.1, m.2] fun x hx => ⟨(wipeD (s.set 2 (some (mD m))) [3]).set 3 (some (D.int x)), rfl, rfl, by
        unfold sget
        rw [List.getElem?_set_self (by simp [wipeD]; omega)]⟩
    rw [e3]
    dsimp only
    rw [comp2_eq hok hs c]
    show R.ok _ _ = R.ok _ _
    rw [show flat (m :: c) = [m.1, m.2] ++ flat c from rfl, List.map_append]
    rfl
theorem chline_wp {sizes : List Int} {kind : Str} {c : Ch} {g : GS} {P : D → GS → Prop} (hs : OkSizes sizes) (hc : OkCh sizes c) (hk : kind.length ≤ 10) (k : ∀ g', g <+: g' → P (.str (nl (lineS kind (flat c)))) g') : okM (F__changes_line cP [.str kind, chD c] g) P := by
  have hf := flat_ok hs hc
  refine fn_pre rfl ?_ k
  show okS (m__changes_line cP [some (.str kind), some (chD c), none, none] g) _ _ _ _
  unfold m__changes_line
  rw [v_seq]
  simp only [v_asg, v_if, v_ret, v_drop, v_for, v_skip, w_bnd, w_pur, x_get, w_tgN, w_subG, w_asB, w_asI, w_if, w_truB, List.getElem?_cons_zero, List.getElem?_cons_succ, List.set_cons_zero, List.set_cons_succ, comp2D, wipeD, chD, x_seqT]
  rw [comp2_eq (by exact True.intro) rfl c, ok_iff, if_pos (by rw [List.length_map]; exact Nat.le_trans hf.1 (by decide)), w_pur, w_newL]
  refine line_wp (nums_ref (ns := flat c) (by simp)) hk hf fun g' hg => ?_
  exact ⟨rfl, (List.prefix_append _ _).trans hg⟩
theorem shown_wp {sizes : List Int} {kind : Str} {pr : Pr} {g : GS} {P : D → GS → Prop} (hs : OkSizes sizes) (h : OkPr sizes pr) (hk : kind.length ≤ 10) (k : ∀ g', g <+: g' → P (.str (nl (lineS kind (pr.1 :: pr.2)))) g') : okM (F__shown_line cP [.str kind, prD pr] g) P := by
  have hf := pr_ok hs h
  refine fn_pre rfl ?_ k
  show okS (m__shown_line cP [some (.str kind), some (prD pr), none, none] g) _ _ _ _
  unfold m__shown_line
  rw [v_seq]
  simp only [v_asg, v_if, v_ret, v_drop, v_for, v_skip, w_bnd, w_pur, x_get, w_tgN, w_subG, w_asB, w_asI, w_if, w_truB, List.getElem?_cons_zero, List.getElem?_cons_succ, List.set_cons_zero, List.set_cons_succ, prD, tgT2]
  rw [v_seq]
  simp only [v_asg, v_if, v_ret, v_drop, v_for, v_skip, w_bnd, w_pur, x_get, w_tgN, w_subG, w_asB, w_asI, w_if, w_truB, List.getElem?_cons_zero, List.getElem?_cons_succ, List.set_cons_zero, List.set_cons_succ, dI, w_starT, List.append_nil]
  rw [w_mkT (by simp; have := hf.1; rw [List.length_cons] at this; omega)]
  refine line_wp (nums_tup (ns := pr.1 :: pr.2)) hk ⟨by omega, hf.2⟩ fun g' hg => ?_
  exact ⟨rfl, hg⟩
def nlD (L : List Str) : List D := L.map fun s => D.str (nl s)
theorem part_wp {sizes : List Int} {pt : Part} {g : GS} {P : D → GS → Prop} (hs : OkSizes sizes) (h : OkPart sizes pt) (k : ∀ g' n, g <+: g' → g'[n]? = some (.lst (nlD (partL pt))) → g.length ≤ n → P (.ref n) g') : okM (F__part_lines cP kP [partD pt] g) P := by
  obtain ⟨h1, h2, h3⟩ := h
  have kk := kinds
  refine fn_ref rfl ?_
  show okS (m__part_lines cP kP [some (partD pt), none, none, none, none] g) _ _ _ _
  unfold m__part_lines
  rw [v_seq]
  simp only [v_asg, v_if, v_ret, v_drop, v_for, v_skip, w_bnd, w_pur, x_get, w_tgN, w_subG, w_asB, w_asI, w_if, w_truB, List.getElem?_cons_zero, List.getElem?_cons_succ, List.set_cons_zero, List.set_cons_succ, partD, tgT3]
  rw [v_seq]
  simp only [v_asg, v_if, v_ret, v_drop, v_for, v_skip, w_bnd, w_pur, x_get, w_tgN, w_subG, w_asB, w_asI, w_if, w_truB, List.getElem?_cons_zero, List.getElem?_cons_succ, List.set_cons_zero, List.set_cons_succ]
  rw [w_mkT (by simp)]
  refine line_wp (nums_tup (ns := [])) kk.2.1.1 ⟨by simp, fun x hx => by cases hx⟩ fun g1 p1 => ?_
  try simp only [v_asg, v_if, v_ret, v_drop, v_for, v_skip, w_bnd, w_pur, x_get, w_tgN, w_subG, w_asB, w_asI, w_if, w_truB, List.getElem?_cons_zero, List.getElem?_cons_succ, List.set_cons_zero, List.set_cons_succ]
  refine shown_wp hs h1 kk.2.2.1.1 fun g2 p2 => ?_
  try simp only [v_asg, v_if, v_ret, v_drop, v_for, v_skip, w_bnd, w_pur, x_get, w_tgN, w_subG, w_asB, w_asI, w_if, w_truB, List.getElem?_cons_zero, List.getElem?_cons_succ, List.set_cons_zero, List.set_cons_succ]
  refine shown_wp hs h2 kk.2.2.2.1.1 fun g3 p3 => ?_
  try simp only [v_asg, v_if, v_ret, v_drop, v_for, v_skip, w_bnd, w_pur, x_get, w_tgN, w_subG, w_asB, w_asI, w_if, w_truB, List.getElem?_cons_zero, List.getElem?_cons_succ, List.set_cons_zero, List.set_cons_succ]
  rw [w_mkL (by simp)]
  have p03 := (p1.trans p2).trans p3
  have hg : (g3 ++ [Cell.lst [.str (nl (lineS ("part" : Str) [])), .str (nl (lineS ("look" : Str) (pt.look.1 :: pt.look.2))), .str (nl (lineS ("word" : Str) (pt.word.1 :: pt.word.2)))]])[g3.length]? = some (.lst [.str (nl (lineS ("part" : Str) [])), .str (nl (lineS ("look" : Str) (pt.look.1 :: pt.look.2))), .str (nl (lineS ("word" : Str) (pt.word.1 :: pt.word.2)))]) := by simp
  have p04 := pre_app p03 [Cell.lst [.str (nl (lineS ("part" : Str) [])), .str (nl (lineS ("look" : Str) (pt.look.1 :: pt.look.2))), .str (nl (lineS ("word" : Str) (pt.word.1 :: pt.word.2)))]]
  have lg := p03.length_le
  generalize g3.length = n at hg lg ⊢
  generalize g3 ++ [Cell.lst [.str (nl (lineS ("part" : Str) [])), .str (nl (lineS ("look" : Str) (pt.look.1 :: pt.look.2))), .str (nl (lineS ("word" : Str) (pt.word.1 :: pt.word.2)))]] = g4 at hg p04 ⊢
  have und : (D.ref n).und g.length = false := by
    show decide (n < g.length) = false
    exact decide_eq_false (by omega)
  rw [v_seq]
  simp only [v_asg, v_if, v_ret, v_drop, v_for, v_skip, w_bnd, w_pur, x_get, w_tgN, w_subG, w_asB, w_asI, w_if, w_truB, List.getElem?_cons_zero, List.getElem?_cons_succ, List.set_cons_zero, List.set_cons_succ]
  cases hp : pt.press with
  | none =>
    have ep : nlD (partL pt) = [.str (nl (lineS ("part" : Str) [])), .str (nl (lineS ("look" : Str) (pt.look.1 :: pt.look.2))), .str (nl (lineS ("word" : Str) (pt.word.1 :: pt.word.2)))] := by unfold partL; rw [hp]; rfl
    simp only [poD, isNoneD, isNonB, v_asg, v_if, v_ret, v_drop, v_for, v_skip, w_bnd, w_pur, x_get, w_tgN, w_subG, w_asB, w_asI, w_if, w_truB, List.getElem?_cons_zero, List.getElem?_cons_succ, List.set_cons_zero, List.set_cons_succ, show (true != true) = false from rfl, Bool.false_eq_true, if_false, show (true != false) = true from rfl]
    simp only [v_seq, v_asg, v_if, v_ret, v_drop, v_for, v_skip, w_bnd, w_pur, x_get, w_tgN, w_subG, w_asB, w_asI, w_if, w_truB, List.getElem?_cons_zero, List.getElem?_cons_succ, List.set_cons_zero, List.set_cons_succ, if_false, if_true, Bool.not_true, Bool.false_eq_true]
    exact ⟨k g4 n p04 (by rw [ep]; exact hg) lg, und⟩
  | some c =>
    have hc := h3 c hp
    have ep : nlD (partL pt) = [.str (nl (lineS ("part" : Str) [])), .str (nl (lineS ("look" : Str) (pt.look.1 :: pt.look.2))), .str (nl (lineS ("word" : Str) (pt.word.1 :: pt.word.2))), .str (nl (lineS ("press" : Str) (flat c)))] := by unfold partL; rw [hp]; rfl
    simp only [poD, isNoneD, isNonB, chD, v_asg, v_if, v_ret, v_drop, v_for, v_skip, w_bnd, w_pur, x_get, w_tgN, w_subG, w_asB, w_asI, w_if, w_truB, List.getElem?_cons_zero, List.getElem?_cons_succ, List.set_cons_zero, List.set_cons_succ, show (false != false) = false from rfl, Bool.false_eq_true, if_false, show (true != false) = true from rfl, if_true]
    rw [v_seq]
    simp only [v_asg, v_if, v_ret, v_drop, v_for, v_skip, w_bnd, w_pur, x_get, w_tgN, w_subG, w_asB, w_asI, w_if, w_truB, List.getElem?_cons_zero, List.getElem?_cons_succ, List.set_cons_zero, List.set_cons_succ, Bool.not_false, if_true]
    rw [v_seq]
    simp only [v_asg, v_if, v_ret, v_drop, v_for, v_skip, w_bnd, w_pur, x_get, w_tgN, w_subG, w_asB, w_asI, w_if, w_truB, List.getElem?_cons_zero, List.getElem?_cons_succ, List.set_cons_zero, List.set_cons_succ]
    rw [x_tyL hg]
    rw [show D.tup (c.map mD) = chD c from rfl]
    refine chline_wp hs hc kk.2.2.2.2.1.1 fun g5 p5 => ?_
    have hg5 := pre_get p5 hg
    try simp only [v_asg, v_if, v_ret, v_drop, v_for, v_skip, w_bnd, w_pur, x_get, w_tgN, w_subG, w_asB, w_asI, w_if, w_truB, List.getElem?_cons_zero, List.getElem?_cons_succ, List.set_cons_zero, List.set_cons_succ]
    rw [x_app hg5 (by simp)]
    rw [v_seq]
    simp only [v_asg, v_if, v_ret, v_drop, v_for, v_skip, w_bnd, w_pur, x_get, w_tgN, w_subG, w_asB, w_asI, w_if, w_truB, List.getElem?_cons_zero, List.getElem?_cons_succ, List.set_cons_zero, List.set_cons_succ]
    refine ⟨k _ n (pre_set (p04.trans p5) lg) ?_ lg, und⟩
    rw [List.getElem?_set_self (List.getElem?_eq_some_iff.mp hg5).1, ep]
    rfl
end K14
namespace K14
open PySem PySem.Spec PyProof.Rows L2 DL
open Classical
variable {cP : Addr} {kP : Ks}
theorem comp_grow {α : Type} {w : Itm} {tg : D → Sl → M Sl} {elt : Sl → M D} {s : Sl} (e f : α → D) : ∀ (xs : List α) (g : GS), (∀ g', g <+: g' → w.ok g') → (∀ x ∈ xs, ∀ g', g <+: g' → ∃ s1, tg (e x) s g' = .ok s1 g' ∧ okM (elt s1 g') fun d g2 => d = f x ∧ g' <+: g2) →
    okM (compM w tg (fun _ => pur true) elt s (xs.map e) g) fun ds g' => ds = xs.map f ∧ g <+: g'
  | [], g, hok, h => by
    rw [List.map_nil]
    unfold compM
    rw [if_pos (hok g (List.prefix_refl _))]
    exact ⟨rfl, List.prefix_refl _⟩
  | x :: xs, g, hok, h => by
    obtain ⟨s1, e1, e2⟩ := h x List.mem_cons_self g (List.prefix_refl _)
    obtain ⟨d, g2, e3, rfl, p⟩ := e2.out
    obtain ⟨ds, g3, e4, rfl, p2⟩ := (comp_grow e f xs g2 (fun g' p' => hok g' (p.trans p')) fun y hy g' p' => h y (List.mem_cons_of_mem _ hy) g' (p.trans p')).out
    rw [List.map_cons]
    unfold compM
    rw [if_pos (hok g (List.prefix_refl _)), e1]
    dsimp only [pur]
    rw [e3]
    dsimp only
    rw [e4]
    exact ⟨rfl, p.trans p2⟩
theorem x_ext {a b : Nat} {xs ys : List D} {g : GS} {P : D → GS → Prop} (ha : g[a]? = some (.lst xs)) (hb : g[b]? = some (.lst ys)) (hl : xs.length + ys.length ≤ 1000000) : okM (extendD (.ref a) [.ref b] g) P ↔ P .non (g.set a (.lst (xs ++ ys))) := by
  unfold extendD
  dsimp only
  rw [ha, hb]
  dsimp only
  rw [if_pos (show xs.length + ys.length ≤ LIM from hl)]; rfl
theorem nlD_app (a b : List Str) : nlD (a ++ b) = nlD a ++ nlD b := by unfold nlD; rw [List.map_append]
theorem nlD_len (a : List Str) : (nlD a).length = a.length := by unfold nlD; rw [List.length_map]
theorem flatMap_len {p : Prg} (hp : OkPrg p) : ∀ l : List Part, (∀ x ∈ l, x ∈ p.parts) → (l.flatMap partL).length ≤ 4 * l.length
  | [], _ => Nat.le_refl _
  | x :: l, h => by
    rw [List.flatMap_cons, List.length_append, List.length_cons]
    have := flatMap_len hp l fun y hy => h y (List.mem_cons_of_mem _ hy)
    have := (partL_ok hp.sizes (hp.parts x (h x List.mem_cons_self))).1
    omega
theorem endL_ok {kind : Str} {l : List Int} (hk : kind.length ≤ 10) (ho : PyData.strOk kind = true) (h : l.length ≤ 6 ∧ ∀ x ∈ l, 0 ≤ x ∧ x ≤ 7) : (endL kind l).length ≤ 1 ∧ ∀ s ∈ endL kind l, OkLine s := by
  unfold endL
  by_cases e : l = []
  · rw [if_pos e]
    exact ⟨Nat.zero_le _, fun s hs => by cases hs⟩
  · rw [if_neg e]
    refine ⟨Nat.le_refl _, fun s hs => ?_⟩
    have : s = lineS kind l := by simpa using hs
    rw [this]
    exact okLine hk ho h
theorem lns_ok {p : Prg} (hp : OkPrg p) : (lns p).length ≤ 30 ∧ ∀ s ∈ lns p, OkLine s := by
  have kk := kinds
  have h1 := flatMap_len hp p.parts fun x hx => hx
  have h2 := hp.np.2
  have h3 := hp.nt
  have h4 := endL_ok kk.2.2.2.2.2.2.1.1 kk.2.2.2.2.2.2.1.2 (ix_ok hp.np.2 hp.live.1 hp.live.2)
  have h5 := endL_ok kk.2.2.2.2.2.2.2.1 kk.2.2.2.2.2.2.2.2 (ix_ok hp.np.2 hp.skips.1 hp.skips.2)
  refine ⟨?_, fun s hs => ?_⟩
  · unfold lns
    rw [List.length_append, List.length_append, List.length_append, List.length_append, List.length_map, List.length_singleton]
    have := h4.1
    have := h5.1
    omega
  · unfold lns at hs
    rcases List.mem_append.mp hs with hs | hs
    · rcases List.mem_append.mp hs with hs | hs
      · rcases List.mem_append.mp hs with hs | hs
        · rcases List.mem_append.mp hs with hs | hs
          · have : s = lineS ("sizes" : Str) p.sizes := by simpa using hs
            rw [this]
            exact okLine kk.1.1 kk.1.2 (sizes_ok hp.sizes)
          · obtain ⟨pt, hpt, hs⟩ := List.mem_flatMap.mp hs
            exact (partL_ok hp.sizes (hp.parts pt hpt)).2 s hs
        · obtain ⟨c, hc, rfl⟩ := List.mem_map.mp hs
          exact okLine kk.2.2.2.2.2.1.1 kk.2.2.2.2.2.1.2 (flat_ok hp.sizes (hp.ticks c hc))
      · exact h4.2 s hs
    · exact h5.2 s hs
theorem nl_len (s : Str) : (nl s).length = s.length + 1 := by
  unfold nl
  rw [str_len, show ("\n" : Str).length = 1 from by decide +kernel]
theorem sum_nl : ∀ (L : List Str), (∀ s ∈ L, OkLine s) → ((L.map nl).map (·.length)).sum ≤ 31 * L.length
  | [], _ => Nat.le_refl _
  | s :: L, h => by
    rw [List.map_cons, List.map_cons, List.sum_cons, List.length_cons, nl_len]
    have := (h s List.mem_cons_self).1
    have := sum_nl L fun x hx => h x (List.mem_cons_of_mem _ hx)
    omega
theorem empty_eq : ("" : Str) = Str.empty := by decide +kernel
def txt (p : Prg) : Str := Str.join Str.empty ((lns p).map nl)
theorem txt_ok {p : Prg} (hp : OkPrg p) : PyData.strOk (txt p) = true := join_ok _ fun s hs => by
  obtain ⟨x, hx, rfl⟩ := List.mem_map.mp hs
  exact str_ok2 ((lns_ok hp).2 x hx).2 (by decide +kernel)
theorem join_nl {n : Nat} {p : Prg} {g : GS} {P : D → GS → Prop} (hp : OkPrg p) (h : g[n]? = some (.lst (nlD (lns p)))) : okM (joinD (.str ("" : Str)) [.ref n] g) P ↔ P (.str (txt p)) g := by
  have e : nlD (lns p) = ((lns p).map nl).map D.str := by unfold nlD; rw [List.map_map]; rfl
  have o := lns_ok hp
  rw [e] at h
  have s := sum_nl _ o.2
  rw [x_join h (by rw [empty_eq, show Str.empty.length = 0 from rfl]; omega), empty_eq]
  rfl
theorem write_wp {p : Prg} {g : GS} {P : D → GS → Prop} (hp : OkPrg p) (k : ∀ g', g <+: g' → P (.str (txt p)) g') : okM (F_write_program cP kP [progD cP p] g) P := by
  have kk := kinds
  have hnp := hp.np
  have hnt := hp.nt
  refine fn_pre rfl ?_ k
  show okS (m_write_program cP kP [some (progD cP p), none, none, none] g) _ _ _ _
  unfold m_write_program
  rw [v_seq]
  simp only [v_asg, v_if, v_ret, v_drop, v_for, v_skip, w_bnd, w_pur, x_get, w_tgN, w_subG, w_asB, w_asI, w_if, w_truB, List.getElem?_cons_zero, List.getElem?_cons_succ, List.set_cons_zero, List.set_cons_succ, f_sizes]
  refine line_wp (nums_tup (ns := p.sizes)) kk.1.1 (sizes_ok hp.sizes) fun g1 p1 => ?_
  try simp only [v_asg, v_if, v_ret, v_drop, v_for, v_skip, w_bnd, w_pur, x_get, w_tgN, w_subG, w_asB, w_asI, w_if, w_truB, List.getElem?_cons_zero, List.getElem?_cons_succ, List.set_cons_zero, List.set_cons_succ]
  rw [w_mkL (by simp)]
  have hc : (g1 ++ [Cell.lst [.str (nl (lineS ("sizes" : Str) p.sizes))]])[g1.length]? = some (.lst (nlD [lineS ("sizes" : Str) p.sizes])) := by simp [nlD]
  have p2 := pre_app p1 [Cell.lst [.str (nl (lineS ("sizes" : Str) p.sizes))]]
  have lc := p1.length_le
  generalize g1.length = c at hc lc ⊢
  generalize g1 ++ [Cell.lst [.str (nl (lineS ("sizes" : Str) p.sizes))]] = g2 at hc p2 ⊢
  rw [v_seq]
  simp only [v_asg, v_if, v_ret, v_drop, v_for, v_skip, w_bnd, w_pur, x_get, w_tgN, w_subG, w_asB, w_asI, w_if, w_truB, List.getElem?_cons_zero, List.getElem?_cons_succ, List.set_cons_zero, List.set_cons_succ, f_parts, x_seqT]
  refine loop_wp (fun i s g' => ∃ v2, s = [some (progD cP p), some (.ref c), v2, none] ∧ g <+: g' ∧ g'[c]? = some (.lst (nlD ([lineS ("sizes" : Str) p.sizes] ++ (p.parts.take i).flatMap partL)))) _ ⟨none, rfl, p2, by simpa using hc⟩ (fun _ _ _ _ _ => True.intro) ?_ ?_
  · rintro i x s g' hx ⟨v2, rfl, pg, hc⟩
    rw [List.getElem?_map] at hx
    cases e : p.parts[i]? with
    | none => rw [e] at hx; cases hx
    | some pt =>
      rw [e] at hx
      cases hx
      have hpt := hp.parts pt (List.mem_of_getElem? e)
      have etake : p.parts.take (i + 1) = p.parts.take i ++ [pt] := by rw [List.take_add_one, e]; rfl
      have l1 := flatMap_len hp (p.parts.take i) fun y hy => List.mem_of_mem_take hy
      have l2 : (p.parts.take i).length ≤ 4 := by rw [List.length_take]; omega
      have l3 := (partL_ok hp.sizes hpt).1
      rw [w_tgN, v_seq]
      simp only [v_asg, v_if, v_ret, v_drop, v_for, v_skip, w_bnd, w_pur, x_get, w_tgN, w_subG, w_asB, w_asI, w_if, w_truB, List.getElem?_cons_zero, List.getElem?_cons_succ, List.set_cons_zero, List.set_cons_succ]
      rw [x_tyL hc]
      refine part_wp hp.sizes hpt fun g5 m p5 hm lm => ?_
      try simp only [v_asg, v_if, v_ret, v_drop, v_for, v_skip, w_bnd, w_pur, x_get, w_tgN, w_subG, w_asB, w_asI, w_if, w_truB, List.getElem?_cons_zero, List.getElem?_cons_succ, List.set_cons_zero, List.set_cons_succ]
      have hc5 := pre_get p5 hc
      rw [x_ext hc5 hm (by rw [nlD_len, nlD_len, List.length_append, List.length_singleton]; omega)]
      refine ⟨_, rfl, pre_set (pg.trans p5) lc, ?_⟩
      rw [List.getElem?_set_self (List.getElem?_eq_some_iff.mp hc5).1, etake, List.flatMap_append, ← nlD_app, ← List.append_assoc]
      simp
  rintro s g' ⟨v2, rfl, pg, hc⟩
  have l1 := flatMap_len hp p.parts fun y hy => hy
  rw [List.length_map, List.take_length] at hc
  rw [v_seq]
  simp only [v_asg, v_if, v_ret, v_drop, v_for, v_skip, w_bnd, w_pur, x_get, w_tgN, w_subG, w_asB, w_asI, w_if, w_truB, List.getElem?_cons_zero, List.getElem?_cons_succ, List.set_cons_zero, List.set_cons_succ]
  rw [x_tyL hc]
  simp only [compD, wipeD, v_asg, v_if, v_ret, v_drop, v_for, v_skip, w_bnd, w_pur, x_get, w_tgN, w_subG, w_asB, w_asI, w_if, w_truB, List.getElem?_cons_zero, List.getElem?_cons_succ, List.set_cons_zero, List.set_cons_succ, f_ticks, x_seqT]
  refine (comp_grow chD (fun c => D.str (nl (lineS ("tick" : Str) (flat c)))) p.ticks g' (fun _ _ => by exact True.intro) fun ch hch g5 p5 => ⟨[some (progD cP p), some (.ref c), v2, some (chD ch)], rfl, ?_⟩).mono fun ds g6 ⟨e, p6⟩ => ?_
  · simp only [v_asg, v_if, v_ret, v_drop, v_for, v_skip, w_bnd, w_pur, x_get, w_tgN, w_subG, w_asB, w_asI, w_if, w_truB, List.getElem?_cons_zero, List.getElem?_cons_succ, List.set_cons_zero, List.set_cons_succ]
    refine chline_wp hp.sizes (hp.ticks ch hch) kk.2.2.2.2.2.1.1 fun g6 p6 => ⟨rfl, p6⟩
  subst e
  rw [if_pos (by rw [List.length_map]; exact Nat.le_trans hnt (by decide)), w_pur, w_newL]
  have hc6 := pre_get p6 hc
  have hc7 : (g6 ++ [Cell.lst (p.ticks.map fun c => D.str (nl (lineS ("tick" : Str) (flat c))))])[c]? = _ := pre_get (List.prefix_append _ _) hc6
  rw [x_ext (ys := p.ticks.map fun c => D.str (nl (lineS ("tick" : Str) (flat c)))) hc7 (by rw [List.getElem?_concat_length]) (by rw [nlD_len, List.length_append, List.length_singleton, List.length_map]; omega)]
  have et : p.ticks.map (fun c => D.str (nl (lineS ("tick" : Str) (flat c)))) = nlD (p.ticks.map fun c => lineS ("tick" : Str) (flat c)) := by unfold nlD; rw [List.map_map]; rfl
  have p8 : g <+: (g6 ++ [Cell.lst (p.ticks.map fun c => D.str (nl (lineS ("tick" : Str) (flat c))))]).set c (.lst (nlD ([lineS ("sizes" : Str) p.sizes] ++ p.parts.flatMap partL) ++ p.ticks.map fun c => D.str (nl (lineS ("tick" : Str) (flat c))))) := pre_set (pre_app (pg.trans p6) _) lc
  have hc8 : ((g6 ++ [Cell.lst (p.ticks.map fun c => D.str (nl (lineS ("tick" : Str) (flat c))))]).set c (.lst (nlD ([lineS ("sizes" : Str) p.sizes] ++ p.parts.flatMap partL) ++ p.ticks.map fun c => D.str (nl (lineS ("tick" : Str) (flat c))))))[c]? = some (.lst (nlD ([lineS ("sizes" : Str) p.sizes] ++ p.parts.flatMap partL ++ p.ticks.map fun c => lineS ("tick" : Str) (flat c)))) := by
    rw [List.getElem?_set_self (List.getElem?_eq_some_iff.mp hc7).1, et, ← nlD_app]
  generalize (g6 ++ [Cell.lst (p.ticks.map fun c => D.str (nl (lineS ("tick" : Str) (flat c))))]).set c (.lst (nlD ([lineS ("sizes" : Str) p.sizes] ++ p.parts.flatMap partL) ++ p.ticks.map fun c => D.str (nl (lineS ("tick" : Str) (flat c))))) = g8 at p8 hc8 ⊢
  have hlen : ([lineS ("sizes" : Str) p.sizes] ++ p.parts.flatMap partL ++ p.ticks.map fun c => lineS ("tick" : Str) (flat c)).length ≤ 25 := by
    rw [List.length_append, List.length_append, List.length_map, List.length_singleton]
    omega
  have eL : lns p = ([lineS ("sizes" : Str) p.sizes] ++ p.parts.flatMap partL ++ p.ticks.map fun c => lineS ("tick" : Str) (flat c)) ++ endL ("live" : Str) p.live ++ endL ("skips" : Str) p.skips := rfl
  generalize ([lineS ("sizes" : Str) p.sizes] ++ p.parts.flatMap partL ++ p.ticks.map fun c => lineS ("tick" : Str) (flat c)) = L at hc8 hlen eL
  -- live and skips
  have fin : ∀ (kind : Str) (l : List Int) (L : List Str) (g8 : GS) (v2 : Option D) (me : Sl → M D) (Q : Sl → GS → Prop), kind.length ≤ 10 → (l.length ≤ 6 ∧ ∀ x ∈ l, 0 ≤ x ∧ x ≤ 7) → L.length ≤ 100 → g <+: g8 → g8[c]? = some (.lst (nlD L)) → (∀ (s : Sl) (g : GS) (P : D → GS → Prop), s[0]? = some (some (progD cP p)) → (okM (me s g) P ↔ P (dI l) g)) →
      (∀ g', g <+: g' → g'[c]? = some (.lst (nlD (L ++ endL kind l))) → Q [some (progD cP p), some (.ref c), v2, none] g') →
      okS ((ifS (fun s => bnd (me s) truM) (seqS (dropS fun s => bnd (sget s 1) fun x => bnd (tyM "list" x) fun x => bnd (bnd (bnd (bnd (pur (.str kind)) fun x => bnd (bnd (me s) fun x => bnd (pur []) fun r => pur (x :: r)) fun r => pur (x :: r)) (F__line cP)) fun x => bnd (pur []) fun r => pur (x :: r)) (appendD x)) skipS) skipS) [some (progD cP p), some (.ref c), v2, none] g8) Q (fun _ _ => False) (fun _ _ => False) fun _ _ => False := by
    intro kind l L g8 v2 me Q hk hl hL p8 hc8 hme hQ
    simp only [v_asg, v_if, v_ret, v_drop, v_for, v_skip, w_bnd, w_pur, x_get, w_tgN, w_subG, w_asB, w_asI, w_if, w_truB, List.getElem?_cons_zero, List.getElem?_cons_succ, List.set_cons_zero, List.set_cons_succ]
    rw [hme _ _ _ rfl]
    simp only [dI, w_truT]
    by_cases e : l = []
    · subst e
      simp only [List.map_nil, List.isEmpty_nil, Bool.not_true, Bool.false_eq_true, if_false]
      refine hQ g8 p8 ?_
      rw [show endL kind [] = [] from rfl, List.append_nil]
      exact hc8
    · have e2 : (!(l.map D.int).isEmpty) = true := by cases l with
        | nil => exact absurd rfl e
        | cons x l => rfl
      rw [e2]
      simp only [if_true]
      rw [v_seq]
      simp only [v_asg, v_if, v_ret, v_drop, v_for, v_skip, w_bnd, w_pur, x_get, w_tgN, w_subG, w_asB, w_asI, w_if, w_truB, List.getElem?_cons_zero, List.getElem?_cons_succ, List.set_cons_zero, List.set_cons_succ]
      rw [x_tyL hc8, hme _ _ _ rfl]
      try simp only [v_asg, v_if, v_ret, v_drop, v_for, v_skip, w_bnd, w_pur, x_get, w_tgN, w_subG, w_asB, w_asI, w_if, w_truB, List.getElem?_cons_zero, List.getElem?_cons_succ, List.set_cons_zero, List.set_cons_succ, dI]
      refine line_wp (nums_tup (ns := l)) hk hl fun g9 p9 => ?_
      try simp only [v_asg, v_if, v_ret, v_drop, v_for, v_skip, w_bnd, w_pur, x_get, w_tgN, w_subG, w_asB, w_asI, w_if, w_truB, List.getElem?_cons_zero, List.getElem?_cons_succ, List.set_cons_zero, List.set_cons_succ]
      have hc9 := pre_get p9 hc8
      rw [x_app hc9 (by rw [nlD_len]; omega)]
      refine hQ _ (pre_set (p8.trans p9) lc) ?_
      rw [List.getElem?_set_self (List.getElem?_eq_some_iff.mp hc9).1, show endL kind l = [lineS kind l] from if_neg e, nlD_app]
      rfl
  have hli := ix_ok hp.np.2 hp.live.1 hp.live.2
  have hsk := ix_ok hp.np.2 hp.skips.1 hp.skips.2
  rw [v_seq]
  refine okS.mono (fin ("live" : Str) p.live L g8 v2 (fun s => bnd (sget s 0) (fldD cP ("live" : Str))) _ kk.2.2.2.2.2.2.1.1 hli (by omega) p8 hc8 (fun s g P hs => by
    rw [w_bnd, x_get, hs]
    exact f_live) fun g9 p9 hc9 => ?_) (fun _ _ z => z) (fun _ _ z => z.elim) (fun _ _ z => z.elim) fun _ _ z => z.elim
  have el := (endL_ok kk.2.2.2.2.2.2.1.1 kk.2.2.2.2.2.2.1.2 hli).1
  rw [v_seq]
  refine okS.mono (fin ("skips" : Str) p.skips (L ++ endL ("live" : Str) p.live) g9 v2 (fun s => bnd (sget s 0) (fldD cP ("skips" : Str))) _ kk.2.2.2.2.2.2.2.1 hsk (by rw [List.length_append]; omega) p9 hc9 (fun s g P hs => by
    rw [w_bnd, x_get, hs]
    exact f_skips) fun g10 p10 hc10 => ?_) (fun _ _ z => z) (fun _ _ z => z.elim) (fun _ _ z => z.elim) fun _ _ z => z.elim
  rw [← eL] at hc10
  rw [v_seq]
  simp only [v_asg, v_if, v_ret, v_drop, v_for, v_skip, w_bnd, w_pur, x_get, w_tgN, w_subG, w_asB, w_asI, w_if, w_truB, List.getElem?_cons_zero, List.getElem?_cons_succ, List.set_cons_zero, List.set_cons_succ, x_tyS]
  rw [join_nl hp hc10]
  first | exact ⟨rfl, p10⟩ | exact ⟨True.intro, p10⟩
end K14
namespace K14
open PySem PySem.Spec PyProof.Rows L2 DL
open Classical
variable {cP : Addr} {kP : Ks}
theorem lawflat_wp {sizes : List Int} {c : Ch} {g : GS} {P : D → GS → Prop} (hc : OkCh sizes c) (k : ∀ g' n, g <+: g' → g'[n]? = some (.lst ((flat c).map D.int)) → g.length ≤ n → P (.ref n) g') : okM (F__law_flat cP [chD c] g) P := by
  have hl := hc.2.1
  refine fn_ref rfl ?_
  show okS (m__law_flat cP [some (chD c), none, none, none] g) _ _ _ _
  unfold m__law_flat
  rw [v_seq]
  simp only [v_asg, v_if, v_ret, v_drop, v_for, v_skip, w_bnd, w_pur, x_get, w_tgN, w_subG, w_asB, w_asI, w_if, w_truB, List.getElem?_cons_zero, List.getElem?_cons_succ, List.set_cons_zero, List.set_cons_succ]
  rw [w_mkL (by simp), v_seq]
  simp only [v_asg, v_if, v_ret, v_drop, v_for, v_skip, w_bnd, w_pur, x_get, w_tgN, w_subG, w_asB, w_asI, w_if, w_truB, List.getElem?_cons_zero, List.getElem?_cons_succ, List.set_cons_zero, List.set_cons_succ, chD, x_seqT]
  refine loop_wp (fun i s g' => ∃ n v2 v3, s = [some (.tup (c.map mD)), some (.ref n), v2, v3] ∧ g <+: g' ∧ g'[n]? = some (.lst ((flat (c.take i)).map D.int)) ∧ g.length ≤ n) _ ⟨g.length, none, none, rfl, List.prefix_append _ _, by simp [flat], Nat.le_refl _⟩ (fun _ _ _ _ _ => True.intro) ?_ ?_
  · rintro i x s g' hx ⟨n, v2, v3, rfl, pg, hn, ln⟩
    rw [List.getElem?_map] at hx
    cases e : c[i]? with
    | none => rw [e] at hx; cases hx
    | some m =>
      rw [e] at hx
      cases hx
      have etake : c.take (i + 1) = c.take i ++ [m] := by rw [List.take_add_one, e]; rfl
      have l1 : (flat (c.take i)).length ≤ 6 := by
        rw [flat_len, List.length_take]
        have := Nat.min_le_right i c.length
        omega
      simp only [mD, tgT2, w_pur]
      rw [v_seq]
      simp only [v_asg, v_if, v_ret, v_drop, v_for, v_skip, w_bnd, w_pur, x_get, w_tgN, w_subG, w_asB, w_asI, w_if, w_truB, List.getElem?_cons_zero, List.getElem?_cons_succ, List.set_cons_zero, List.set_cons_succ]
      rw [w_mkL (by simp)]
      have hn2 : (g' ++ [Cell.lst [.int m.1, .int m.2]])[n]? = _ := pre_get (List.prefix_append _ _) hn
      rw [x_addR (ys := [.int m.1, .int m.2]) hn2 (by rw [List.getElem?_concat_length]) (by rw [List.length_map]; simp; omega)]
      have ef : flat (c.take (i + 1)) = flat (c.take i) ++ [m.1, m.2] := by rw [etake]; unfold flat; rw [List.flatMap_append]; simp
      refine ⟨_, _, _, rfl, pre_app (pre_app pg _) _, ?_, ?_⟩
      · rw [List.getElem?_concat_length, ef, List.map_append]; rfl
      · rw [List.length_append]
        have := pg.length_le
        omega
  · rintro s g' ⟨n, v2, v3, rfl, pg, hn, ln⟩
    rw [List.length_map, List.take_length] at hn
    rw [v_seq]
    simp only [v_asg, v_if, v_ret, v_drop, v_for, v_skip, w_bnd, w_pur, x_get, w_tgN, w_subG, w_asB, w_asI, w_if, w_truB, List.getElem?_cons_zero, List.getElem?_cons_succ, List.set_cons_zero, List.set_cons_succ]
    exact ⟨k g' n pg hn ln, decide_eq_false (by omega)⟩
theorem pl_nums : ∀ (l : List Int), plL 0 (l.map D.int) = true
  | [] => rfl
  | x :: l => by rw [List.map_cons, plL, pl_nums l]; rfl
def sD (L : List Str) : List D := L.map D.str
theorem sD_app (a b : List Str) : sD (a ++ b) = sD a ++ sD b := by unfold sD; rw [List.map_append]
theorem sD_len (a : List Str) : (sD a).length = a.length := by unfold sD; rw [List.length_map]
theorem lawlines_wp {p : Prg} {n : Nat} {g : GS} {P : D → GS → Prop} (hp : OkPrg p) (hn : g[n]? = some (.dic (prgK p))) (k : ∀ g' m, g <+: g' → g'[m]? = some (.lst (sD (lns p))) → g.length ≤ m → P (.ref m) g') : okM (F__law_lines cP kP [.ref n] g) P := by
  have kk := kinds
  have hnp := hp.np
  have hnt := hp.nt
  refine fn_ref rfl ?_
  show okS (m__law_lines cP kP [some (.ref n), none, none, none, none, none] g) _ _ _ _
  unfold m__law_lines
  rw [v_seq]
  simp only [v_asg, v_if, v_ret, v_drop, v_for, v_skip, w_bnd, w_pur, x_get, w_tgN, w_subG, w_asB, w_asI, w_if, w_truB, List.getElem?_cons_zero, List.getElem?_cons_succ, List.set_cons_zero, List.set_cons_succ, dget_sizes hn]
  refine lawline_wp (nums_tup (ns := p.sizes)) kk.1.1 (sizes_ok hp.sizes) fun g1 p1 => ?_
  try simp only [v_asg, v_if, v_ret, v_drop, v_for, v_skip, w_bnd, w_pur, x_get, w_tgN, w_subG, w_asB, w_asI, w_if, w_truB, List.getElem?_cons_zero, List.getElem?_cons_succ, List.set_cons_zero, List.set_cons_succ]
  rw [w_mkL (by simp)]
  have hc : (g1 ++ [Cell.lst [.str (lineS ("sizes" : Str) p.sizes)]])[g1.length]? = some (.lst (sD [lineS ("sizes" : Str) p.sizes])) := by simp [sD]
  have p2 := pre_app p1 [Cell.lst [.str (lineS ("sizes" : Str) p.sizes)]]
  have lc := p1.length_le
  generalize g1.length = c at hc lc ⊢
  generalize g1 ++ [Cell.lst [.str (lineS ("sizes" : Str) p.sizes)]] = g2 at hc p2 ⊢
  -- one more line
  have more : ∀ (kind : Str) (nd : D) (ns : List Int) (L : List Str) (g5 : GS) (Q : D → GS → Prop), Nums nd ns g5 → kind.length ≤ 10 → (ns.length ≤ 6 ∧ ∀ x ∈ ns, 0 ≤ x ∧ x ≤ 7) → L.length ≤ 100 → g <+: g5 → g5[c]? = some (.lst (sD L)) → (∀ g', g <+: g' → g'[c]? = some (.lst (sD (L ++ [lineS kind ns]))) → Q .non g') → okM (F__law_line cP [.str kind, nd] g5) fun d g' => okM (appendD (.ref c) [d] g') Q := by
    intro kind nd ns L g5 Q hnu hk hns hL p5 hc5 hQ
    refine lawline_wp hnu hk hns fun g6 p6 => ?_
    have hc6 := pre_get p6 hc5
    rw [x_app hc6 (by rw [sD_len]; omega)]
    refine hQ _ (pre_set (p5.trans p6) lc) ?_
    rw [List.getElem?_set_self (List.getElem?_eq_some_iff.mp hc6).1, sD_app]
    rfl
  rw [v_seq]
  simp only [v_asg, v_if, v_ret, v_drop, v_for, v_skip, w_bnd, w_pur, x_get, w_tgN, w_subG, w_asB, w_asI, w_if, w_truB, List.getElem?_cons_zero, List.getElem?_cons_succ, List.set_cons_zero, List.set_cons_succ, dget_parts (pre_get p2 hn), x_seqT]
  refine loop_wp (fun i s g' => ∃ v2 v3 v4, s = [some (.ref n), some (.ref c), v2, v3, v4, none] ∧ g <+: g' ∧ g'[c]? = some (.lst (sD ([lineS ("sizes" : Str) p.sizes] ++ (p.parts.take i).flatMap partL)))) _ ⟨none, none, none, rfl, p2, by simpa using hc⟩ (fun _ _ _ _ _ => True.intro) ?_ ?_
  · rintro i x s g' hx ⟨v2, v3, v4, rfl, pg, hc⟩
    rw [List.getElem?_map] at hx
    cases e : p.parts[i]? with
    | none => rw [e] at hx; cases hx
    | some pt =>
      rw [e] at hx
      cases hx
      obtain ⟨h1, h2, h3⟩ := hp.parts pt (List.mem_of_getElem? e)
      have o1 := pr_ok hp.sizes h1
      have o2 := pr_ok hp.sizes h2
      have etake : p.parts.take (i + 1) = p.parts.take i ++ [pt] := by rw [List.take_add_one, e]; rfl
      have l1 := flatMap_len hp (p.parts.take i) fun y hy => List.mem_of_mem_take hy
      have l2 : (p.parts.take i).length ≤ 4 := by rw [List.length_take]; omega
      have eF : [lineS ("sizes" : Str) p.sizes] ++ (p.parts.take (i + 1)).flatMap partL = [lineS ("sizes" : Str) p.sizes] ++ (p.parts.take i).flatMap partL ++ partL pt := by rw [etake, List.flatMap_append, List.append_assoc]; simp
      have hL : ([lineS ("sizes" : Str) p.sizes] ++ (p.parts.take i).flatMap partL).length ≤ 20 := by rw [List.length_append, List.length_singleton]; omega
      rw [eF]
      generalize [lineS ("sizes" : Str) p.sizes] ++ (p.parts.take i).flatMap partL = L at hc hL ⊢
      simp only [partD, tgT3, w_pur]
      rw [v_seq]
      simp only [v_asg, v_if, v_ret, v_drop, v_for, v_skip, w_bnd, w_pur, x_get, w_tgN, w_subG, w_asB, w_asI, w_if, w_truB, List.getElem?_cons_zero, List.getElem?_cons_succ, List.set_cons_zero, List.set_cons_succ]
      rw [x_tyL hc]
      rw [x_app hc (by rw [sD_len]; omega)]
      have hc1 : (g'.set c (.lst (sD L ++ [D.str ("part" : Str)])))[c]? = some (.lst (sD (L ++ [lineS ("part" : Str) []]))) := by rw [List.getElem?_set_self (List.getElem?_eq_some_iff.mp hc).1, sD_app]; rfl
      have pg1 := pre_set (c := .lst (sD L ++ [D.str ("part" : Str)])) pg lc
      generalize g'.set c (.lst (sD L ++ [D.str ("part" : Str)])) = g5 at hc1 pg1 ⊢
      have shown : ∀ (kind : Str) (pr : Pr) (L : List Str) (g5 : GS) (Q : D → GS → Prop), kind.length ≤ 10 → OkPr p.sizes pr → L.length ≤ 100 → g <+: g5 → g5[c]? = some (.lst (sD L)) → (∀ g', g <+: g' → g'[c]? = some (.lst (sD (L ++ [lineS kind (pr.1 :: pr.2)]))) → Q .non g') →
          okM (mkL [.int pr.1] g5) fun x g' => okM (listD [dI pr.2] g') fun y g' => okM (addD x y g') fun nd g' => okM (F__law_line cP [.str kind, nd] g') fun d g' => okM (appendD (.ref c) [d] g') Q := by
        intro kind pr L g5 Q hk hpr hL p5 hc5 hQ
        have o := pr_ok hp.sizes hpr
        rw [w_mkL (by simp)]
        simp only [dI, w_listT]
        rw [x_addR (xs := [.int pr.1]) (ys := pr.2.map D.int) (by simp) (by rw [List.getElem?_concat_length]) (by rw [List.length_map]; have := o.1; rw [List.length_cons] at this; simp; omega)]
        have q1 : g5 <+: g5 ++ [Cell.lst [.int pr.1]] ++ [Cell.lst (pr.2.map D.int)] ++ [Cell.lst ([.int pr.1] ++ pr.2.map D.int)] := pre_app (pre_app (List.prefix_append _ _) _) _
        exact more kind _ (pr.1 :: pr.2) L _ Q (nums_ref (by rw [List.getElem?_concat_length]; rfl)) hk ⟨by omega, o.2⟩ hL (p5.trans q1) (pre_get q1 hc5) hQ
      rw [v_seq]
      simp only [v_asg, v_if, v_ret, v_drop, v_for, v_skip, w_bnd, w_pur, x_get, w_tgN, w_subG, w_asB, w_asI, w_if, w_truB, List.getElem?_cons_zero, List.getElem?_cons_succ, List.set_cons_zero, List.set_cons_succ]
      rw [x_tyL hc1]
      simp only [prD, x_ixT, DL.atI0, DL.atI1]
      refine shown ("look" : Str) pt.look _ _ _ kk.2.2.1.1 h1 (by rw [List.length_append, List.length_singleton]; omega) pg1 hc1 fun g6 p6 hc6 => ?_
      rw [v_seq]
      simp only [v_asg, v_if, v_ret, v_drop, v_for, v_skip, w_bnd, w_pur, x_get, w_tgN, w_subG, w_asB, w_asI, w_if, w_truB, List.getElem?_cons_zero, List.getElem?_cons_succ, List.set_cons_zero, List.set_cons_succ]
      rw [x_tyL hc6]
      simp only [x_ixT, DL.atI0, DL.atI1]
      refine shown ("word" : Str) pt.word _ _ _ kk.2.2.2.1.1 h2 (by rw [List.length_append, List.length_append, List.length_singleton, List.length_singleton]; omega) p6 hc6 fun g7 p7 hc7 => ?_
      rw [v_seq]
      simp only [v_asg, v_if, v_ret, v_drop, v_for, v_skip, w_bnd, w_pur, x_get, w_tgN, w_subG, w_asB, w_asI, w_if, w_truB, List.getElem?_cons_zero, List.getElem?_cons_succ, List.set_cons_zero, List.set_cons_succ]
      cases hpp : pt.press with
      | none =>
        have ep : L ++ partL pt = L ++ [lineS ("part" : Str) []] ++ [lineS ("look" : Str) (pt.look.1 :: pt.look.2)] ++ [lineS ("word" : Str) (pt.word.1 :: pt.word.2)] := by unfold partL; rw [hpp]; simp
        rw [ep]
        have isn : okM (isNoneD true (poD none) .non g7) (fun d g' => d = .bl false ∧ g' = g7) := ⟨rfl, rfl⟩
        refine isn.mono fun d g' z => ?_
        obtain ⟨rfl, rfl⟩ := z
        simp only [w_asB, Bool.false_eq_true, if_false, v_asg, v_if, v_ret, v_drop, v_for, v_skip, w_bnd, w_pur, x_get, w_tgN, w_subG, w_asB, w_asI, w_if, w_truB, List.getElem?_cons_zero, List.getElem?_cons_succ, List.set_cons_zero, List.set_cons_succ]
        exact ⟨_, _, _, rfl, p7, hc7⟩
      | some ch =>
        have ep : L ++ partL pt = L ++ [lineS ("part" : Str) []] ++ [lineS ("look" : Str) (pt.look.1 :: pt.look.2)] ++ [lineS ("word" : Str) (pt.word.1 :: pt.word.2)] ++ [lineS ("press" : Str) (flat ch)] := by unfold partL; rw [hpp]; simp
        rw [ep]
        have isn : okM (isNoneD true (poD (some ch)) .non g7) (fun d g' => d = .bl true ∧ g' = g7) := ⟨rfl, rfl⟩
        refine isn.mono fun d g' z => ?_
        obtain ⟨rfl, rfl⟩ := z
        simp only [w_asB, if_true]
        rw [v_seq]
        simp only [v_asg, v_if, v_ret, v_drop, v_for, v_skip, w_bnd, w_pur, x_get, w_tgN, w_subG, w_asB, w_asI, w_if, w_truB, List.getElem?_cons_zero, List.getElem?_cons_succ, List.set_cons_zero, List.set_cons_succ]
        rw [x_tyL hc7]
        refine lawflat_wp (h3 ch hpp) fun g8 m p8 hm lm => ?_
        try simp only [v_asg, v_if, v_ret, v_drop, v_for, v_skip, w_bnd, w_pur, x_get, w_tgN, w_subG, w_asB, w_asI, w_if, w_truB, List.getElem?_cons_zero, List.getElem?_cons_succ, List.set_cons_zero, List.set_cons_succ]
        refine more ("press" : Str) _ (flat ch) _ _ _ (nums_ref hm) kk.2.2.2.2.1.1 (flat_ok hp.sizes (h3 ch hpp)) (by simp; omega) (p7.trans p8) (pre_get p8 hc7) fun g9 p9 hc9 => ?_
        exact ⟨_, _, _, rfl, p9, hc9⟩
  rintro s g' ⟨v2, v3, v4, rfl, pg, hc⟩
  have l1 := flatMap_len hp p.parts fun y hy => hy
  rw [List.length_map, List.take_length] at hc
  have hL : ([lineS ("sizes" : Str) p.sizes] ++ p.parts.flatMap partL).length ≤ 20 := by rw [List.length_append, List.length_singleton]; omega
  have eL : lns p = [lineS ("sizes" : Str) p.sizes] ++ p.parts.flatMap partL ++ (p.ticks.map fun c => lineS ("tick" : Str) (flat c)) ++ endL ("live" : Str) p.live ++ endL ("skips" : Str) p.skips := rfl
  generalize [lineS ("sizes" : Str) p.sizes] ++ p.parts.flatMap partL = L at hc hL eL
  rw [v_seq]
  simp only [v_asg, v_if, v_ret, v_drop, v_for, v_skip, w_bnd, w_pur, x_get, w_tgN, w_subG, w_asB, w_asI, w_if, w_truB, List.getElem?_cons_zero, List.getElem?_cons_succ, List.set_cons_zero, List.set_cons_succ, dget_ticks (pre_get pg hn), x_seqT]
  refine loop_wp (fun i s g' => ∃ v5, s = [some (.ref n), some (.ref c), v2, v3, v4, v5] ∧ g <+: g' ∧ g'[c]? = some (.lst (sD (L ++ (p.ticks.take i).map fun c => lineS ("tick" : Str) (flat c))))) _ ⟨none, rfl, pg, by simpa using hc⟩ (fun _ _ _ _ _ => True.intro) ?_ ?_
  · rintro i x s g' hx ⟨v5, rfl, pg, hc⟩
    rw [List.getElem?_map] at hx
    cases e : p.ticks[i]? with
    | none => rw [e] at hx; cases hx
    | some ch =>
      rw [e] at hx
      cases hx
      have hch := hp.ticks ch (List.mem_of_getElem? e)
      have etake : p.ticks.take (i + 1) = p.ticks.take i ++ [ch] := by rw [List.take_add_one, e]; rfl
      rw [w_tgN, v_seq]
      simp only [v_asg, v_if, v_ret, v_drop, v_for, v_skip, w_bnd, w_pur, x_get, w_tgN, w_subG, w_asB, w_asI, w_if, w_truB, List.getElem?_cons_zero, List.getElem?_cons_succ, List.set_cons_zero, List.set_cons_succ]
      rw [x_tyL hc]
      refine lawflat_wp hch fun g8 m p8 hm lm => ?_
      try simp only [v_asg, v_if, v_ret, v_drop, v_for, v_skip, w_bnd, w_pur, x_get, w_tgN, w_subG, w_asB, w_asI, w_if, w_truB, List.getElem?_cons_zero, List.getElem?_cons_succ, List.set_cons_zero, List.set_cons_succ]
      refine more ("tick" : Str) _ (flat ch) _ _ _ (nums_ref hm) kk.2.2.2.2.2.1.1 (flat_ok hp.sizes hch) (by rw [List.length_append, List.length_map, List.length_take]; have := Nat.min_le_right i p.ticks.length; omega) (pg.trans p8) (pre_get p8 hc) fun g9 p9 hc9 => ?_
      refine ⟨_, rfl, p9, ?_⟩
      rw [hc9, etake, List.map_append, List.append_assoc]
      rfl
  rintro s g' ⟨v5, rfl, pg, hc⟩
  rw [List.length_map, List.take_length] at hc
  have hL2 : (L ++ p.ticks.map fun c => lineS ("tick" : Str) (flat c)).length ≤ 25 := by rw [List.length_append, List.length_map]; omega
  generalize (L ++ p.ticks.map fun c => lineS ("tick" : Str) (flat c)) = L2 at hc hL2 eL
  have sl : PyData.strOk ("live" : Str) = true := kk.2.2.2.2.2.2.1.2
  have hli := ix_ok hp.np.2 hp.live.1 hp.live.2
  have hsk := ix_ok hp.np.2 hp.skips.1 hp.skips.2
  rw [v_seq]
  simp only [v_asg, v_if, v_ret, v_drop, v_for, v_skip, w_bnd, w_pur, x_get, w_tgN, w_subG, w_asB, w_asI, w_if, w_truB, List.getElem?_cons_zero, List.getElem?_cons_succ, List.set_cons_zero, List.set_cons_succ]
  rw [w_mkT (by simp)]
  simp only [x_seqT]
  have e1 := (endL_ok kk.2.2.2.2.2.2.1.1 kk.2.2.2.2.2.2.1.2 hli).1
  refine loop_wp (fun i s g' => ∃ v3, s = [some (.ref n), some (.ref c), v2, v3, v4, v5] ∧ g <+: g' ∧ g'[c]? = some (.lst (sD (match i with | 0 => L2 | 1 => L2 ++ endL ("live" : Str) p.live | _ => L2 ++ endL ("live" : Str) p.live ++ endL ("skips" : Str) p.skips)))) _ ⟨v3, rfl, pg, hc⟩ (fun _ _ _ _ _ => True.intro) ?_ ?_
  · rintro i x s g' hx ⟨v3, rfl, pg, hc⟩
    have one : ∀ (kind : Str) (l : List Int) (L : List Str) (Q : Sl → GS → Prop) (Pr : D → GS → Prop) (Pb Pc : Sl → GS → Prop), kind.length ≤ 10 → (l.length ≤ 6 ∧ ∀ x ∈ l, 0 ≤ x ∧ x ≤ 7) → L.length ≤ 100 → g'[c]? = some (.lst (sD L)) → (∀ (g : GS) (P : D → GS → Prop), g[n]? = some (.dic (prgK p)) → (okM (dgetD (.ref n) (.str kind) g) P ↔ P (dI l) g)) →
        (∀ g', g <+: g' → g'[c]? = some (.lst (sD (L ++ endL kind l))) → Q [some (.ref n), some (.ref c), v2, some (.str kind), v4, v5] g') →
        okS ((seqS (ifS (fun s => bnd (bnd (bnd (sget s 0) fun x => bnd (sget s 3) fun y => dgetD x y) fun x => bnd (bnd (pur []) mkT) fun y => neD x y) asB) (seqS (dropS fun s => bnd (sget s 1) fun x => bnd (tyM "list" x) fun x => bnd (bnd (bnd (bnd (sget s 3) fun x => bnd (bnd (bnd (sget s 0) fun x => bnd (sget s 3) fun y => dgetD x y) fun x => bnd (pur []) fun r => pur (x :: r)) fun r => pur (x :: r)) (F__law_line cP)) fun x => bnd (pur []) fun r => pur (x :: r)) (appendD x)) skipS) skipS) skipS) [some (.ref n), some (.ref c), v2, some (.str kind), v4, v5] g') Q Pr Pb Pc := by
      intro kind l L Q Pr Pb Pc hk hl hL hc hget hQ
      have hn' := pre_get pg hn
      have pl0 : (dI l).pl 1 = true := by
        show plL 0 (l.map D.int) = true
        exact pl_nums l
      rw [v_seq]
      simp only [v_asg, v_if, v_ret, v_drop, v_for, v_skip, w_bnd, w_pur, x_get, w_tgN, w_subG, w_asB, w_asI, w_if, w_truB, List.getElem?_cons_zero, List.getElem?_cons_succ, List.set_cons_zero, List.set_cons_succ]
      rw [hget _ _ hn', w_mkT (by simp), w_ne (n := 1) (by decide) pl0 rfl]
      by_cases e : l = []
      · subst e
        rw [decide_eq_true (show dI [] = D.tup [] from rfl)]
        simp only [w_asB, Bool.not_true, Bool.false_eq_true, if_false, v_asg, v_if, v_ret, v_drop, v_for, v_skip, w_bnd, w_pur, x_get, w_tgN, w_subG, w_asB, w_asI, w_if, w_truB, List.getElem?_cons_zero, List.getElem?_cons_succ, List.set_cons_zero, List.set_cons_succ]
        refine hQ g' pg ?_
        rw [show endL kind [] = [] from rfl, List.append_nil]
        exact hc
      · rw [decide_eq_false (show ¬ dI l = D.tup [] from fun z => by
          cases l with
          | nil => exact e rfl
          | cons a r => simp [dI] at z)]
        simp only [w_asB, Bool.not_false, if_true]
        rw [v_seq]
        simp only [v_asg, v_if, v_ret, v_drop, v_for, v_skip, w_bnd, w_pur, x_get, w_tgN, w_subG, w_asB, w_asI, w_if, w_truB, List.getElem?_cons_zero, List.getElem?_cons_succ, List.set_cons_zero, List.set_cons_succ]
        rw [x_tyL hc, hget _ _ hn']
        try simp only [v_asg, v_if, v_ret, v_drop, v_for, v_skip, w_bnd, w_pur, x_get, w_tgN, w_subG, w_asB, w_asI, w_if, w_truB, List.getElem?_cons_zero, List.getElem?_cons_succ, List.set_cons_zero, List.set_cons_succ]
        refine more kind _ l L _ _ (nums_tup (ns := l)) hk hl hL pg hc fun g9 p9 hc9 => ?_
        refine hQ g9 p9 ?_
        rw [show endL kind l = [lineS kind l] from if_neg e]
        exact hc9
    rw [w_tgN]
    cases i with
    | zero =>
      cases hx
      exact one ("live" : Str) p.live L2 _ _ _ _ kk.2.2.2.2.2.2.1.1 hli (by omega) hc (fun g P h => dget_live h) fun g9 p9 hc9 => ⟨_, rfl, p9, hc9⟩
    | succ i =>
      cases i with
      | zero =>
        cases hx
        exact one ("skips" : Str) p.skips (L2 ++ endL ("live" : Str) p.live) _ _ _ _ kk.2.2.2.2.2.2.2.1 hsk (by rw [List.length_append]; omega) hc (fun g P h => dget_skips h) fun g9 p9 hc9 => ⟨_, rfl, p9, hc9⟩
      | succ i => cases hx
  · rintro s g' ⟨v3, rfl, pg, hc⟩
    rw [v_seq]
    simp only [v_asg, v_if, v_ret, v_drop, v_for, v_skip, w_bnd, w_pur, x_get, w_tgN, w_subG, w_asB, w_asI, w_if, w_truB, List.getElem?_cons_zero, List.getElem?_cons_succ, List.set_cons_zero, List.set_cons_succ]
    exact ⟨k g' c pg (by rw [eL]; exact hc) lc, decide_eq_false (by omega)⟩
theorem lawtext_wp {p : Prg} {m : Nat} {g : GS} {P : D → GS → Prop} (hp : OkPrg p) (hm : g[m]? = some (.lst (sD (lns p)))) (k : ∀ g', g <+: g' → P (.str (txt p)) g') : okM (F__law_text cP [.ref m] g) P := by
  have o := lns_ok hp
  refine fn_pre rfl ?_ k
  show okS (m__law_text cP [some (.ref m), none] g) _ _ _ _
  unfold m__law_text
  rw [v_seq]
  simp only [v_asg, v_if, v_ret, v_drop, v_for, v_skip, w_bnd, w_pur, x_get, w_tgN, w_subG, w_asB, w_asI, w_if, w_truB, List.getElem?_cons_zero, List.getElem?_cons_succ, List.set_cons_zero, List.set_cons_succ, x_tyS, compD, wipeD, x_seqR, hm]
  refine okM.of (comp_wpT (by show g[m]? = _; exact hm) D.str (fun s => D.str (nl s)) (lns p) fun x hx => ⟨_, rfl, rfl, okM.eq ?_⟩) ?_
  · simp only [v_asg, v_if, v_ret, v_drop, v_for, v_skip, w_bnd, w_pur, x_get, w_tgN, w_subG, w_asB, w_asI, w_if, w_truB, List.getElem?_cons_zero, List.getElem?_cons_succ, List.set_cons_zero, List.set_cons_succ]
    rw [x_addS (by have := (o.2 x hx).1; rw [show ("\n" : Str).length = 1 from by decide +kernel]; omega)]
    first | exact ⟨rfl, rfl⟩ | exact ⟨rfl, True.intro⟩ | exact rfl | exact True.intro | simp
  rw [if_pos (by rw [List.length_map]; exact Nat.le_trans o.1 (by decide)), w_pur, w_newL]
  rw [join_nl hp (by rw [List.getElem?_concat_length]; rfl)]
  first | exact ⟨rfl, List.prefix_append _ _⟩ | exact ⟨True.intro, List.prefix_append _ _⟩
end K14
namespace K14
open PySem PySem.Spec PyProof.Rows L2 DL
open Classical
noncomputable section
variable {cP : Addr} {kP : Ks}
/-- a line's words put together -/
def joinW (ws : List Str) : Str := Str.join (" " : Str) ws
structure OkWs (ws : List Str) : Prop where
  ne : ws ≠ []
  sp : ∀ s ∈ ws, 32 ∉ s.cps.toList
  len : (joinW ws).length ≤ 1000
  so : ∀ s ∈ ws, PyData.strOk s = true
def linD (tl : Str) (r t : Nat) : List D := [.str tl, .ref r, .int t]
structure Lns (kP : Ks) (n r t : Nat) (tl : Str) (L : List (List Str)) (g : GS) : Prop where
  ob : g[n]? = some (.obj (kP.a ("Lines" : Str)) ns_Lines (linD tl r t))
  rw_ : g[r]? = some (.lst (L.map fun ws => D.str (joinW ws)))
  ok : ∀ ws ∈ L, OkWs ws
  nr : n ≠ r
theorem l_taken {tl : Str} {r t : Nat} : (ns_Lines.zip (linD tl r t)).lookup ("taken" : Str) = some (.int t) := rfl
theorem l_rows {tl : Str} {r t : Nat} : (ns_Lines.zip (linD tl r t)).lookup ("rows" : Str) = some (.ref r) := rfl
theorem l_tail {tl : Str} {r t : Nat} : (ns_Lines.zip (linD tl r t)).lookup ("tail" : Str) = some (.str tl) := rfl
theorem ok_empty : OkWs [("" : Str)] := ⟨by simp, fun s hs => by rw [List.mem_singleton.mp hs]; decide +kernel, by decide +kernel, fun s hs => by rw [List.mem_singleton.mp hs]; decide +kernel⟩
def wordsL (L : List (List Str)) (t : Nat) : List Str := L.getD t [("" : Str)]
theorem words_wp {n r t : Nat} {tl : Str} {L : List (List Str)} {g : GS} {P : D → GS → Prop} (h : Lns kP n r t tl L g) (k : ∀ g2 m, g <+: g2 → g2[m]? = some (.lst ((wordsL L t).map D.str)) → g.length ≤ m → P (.ref m) g2) : okM (F_Lines_words cP kP [.ref n] g) P := by
  refine fn_ref rfl ?_
  show okS (m_Lines_words cP kP [some (.ref n), none] g) _ _ _ _
  have fin : ∀ ws, OkWs ws → wordsL L t = ws → okM (splitD (.str (joinW ws)) [.str (" " : Str)] g) fun d g' => P d g' ∧ d.und g.length = false := fun ws o e => by
    rw [w_split (by decide +kernel) (by have := o.len; omega), show Txt.split (joinW ws) (" " : Str) = ws from split_words o.ne o.sp]
    exact ⟨k _ _ (List.prefix_append _ _) (by rw [e]; exact List.getElem?_concat_length) (Nat.le_refl _), decide_eq_false (by omega)⟩
  unfold m_Lines_words
  rw [v_seq]
  simp only [v_asg, v_if, v_ret, v_drop, v_for, v_skip, w_bnd, w_pur, x_get, w_tgN, w_subG, w_asB, w_asI, w_if, w_truB, List.getElem?_cons_zero, List.getElem?_cons_succ, List.set_cons_zero, List.set_cons_succ, x_fldO h.ob l_taken, x_fldO h.ob l_rows, x_lenR, h.rw_, List.length_map]
  rw [w_lt, w_asB]
  by_cases hlt : t < L.length
  · rw [decide_eq_true (by omega)]
    simp only [if_true, v_asg, v_if, v_ret, v_drop, v_for, v_skip, w_bnd, w_pur, x_get, w_tgN, w_subG, w_asB, w_asI, w_if, w_truB, List.getElem?_cons_zero, List.getElem?_cons_succ, List.set_cons_zero, List.set_cons_succ, x_fldO h.ob l_taken, x_fldO h.ob l_rows]
    have e : L[t]? = some L[t] := List.getElem?_eq_getElem hlt
    have o := h.ok _ (List.mem_of_getElem? e)
    generalize L[t] = ws at e o
    rw [w_ixR (d := .str (joinW ws)) h.rw_ (DL.atI_nat (by rw [List.getElem?_map, e]; rfl))]
    rw [v_seq]
    simp only [v_asg, v_if, v_ret, v_drop, v_for, v_skip, w_bnd, w_pur, x_get, w_tgN, w_subG, w_asB, w_asI, w_if, w_truB, List.getElem?_cons_zero, List.getElem?_cons_succ, List.set_cons_zero, List.set_cons_succ]
    exact fin ws o (by unfold wordsL; rw [List.getD_eq_getElem?_getD, e]; rfl)
  · rw [decide_eq_false (by omega)]
    simp only [Bool.false_eq_true, if_false, v_asg, v_if, v_ret, v_drop, v_for, v_skip, w_bnd, w_pur, x_get, w_tgN, w_subG, w_asB, w_asI, w_if, w_truB, List.getElem?_cons_zero, List.getElem?_cons_succ, List.set_cons_zero, List.set_cons_succ]
    rw [v_seq]
    simp only [v_asg, v_if, v_ret, v_drop, v_for, v_skip, w_bnd, w_pur, x_get, w_tgN, w_subG, w_asB, w_asI, w_if, w_truB, List.getElem?_cons_zero, List.getElem?_cons_succ, List.set_cons_zero, List.set_cons_succ]
    exact fin [("" : Str)] ok_empty (by unfold wordsL; rw [List.getD_eq_getElem?_getD, List.getElem?_eq_none (by omega)]; rfl)
theorem wordsL_ok {L : List (List Str)} (h : ∀ ws ∈ L, OkWs ws) (t : Nat) : OkWs (wordsL L t) := by
  unfold wordsL
  rw [List.getD_eq_getElem?_getD]
  cases e : L[t]? with
  | none => exact ok_empty
  | some ws => exact h ws (List.mem_of_getElem? e)
theorem sees_wp {n r t : Nat} {tl kind : Str} {L : List (List Str)} {g : GS} {P : D → GS → Prop} (h : Lns kP n r t tl L g) (hk : PyData.strOk kind = true) (k : ∀ g2, g <+: g2 → P (.bl (decide ((wordsL L t).head? = some kind))) g2) : okM (F_Lines_sees cP kP [.ref n, .str kind] g) P := by
  refine fn_pre rfl ?_ k
  show okS (m_Lines_sees cP kP [some (.ref n), some (.str kind)] g) _ _ _ _
  unfold m_Lines_sees
  rw [v_seq]
  simp only [v_asg, v_if, v_ret, v_drop, v_for, v_skip, w_bnd, w_pur, x_get, w_tgN, w_subG, w_asB, w_asI, w_if, w_truB, List.getElem?_cons_zero, List.getElem?_cons_succ, List.set_cons_zero, List.set_cons_succ]
  rw [x_insO h.ob (by decide +kernel)]
  simp only [v_asg, v_if, v_ret, v_drop, v_for, v_skip, w_bnd, w_pur, x_get, w_tgN, w_subG, w_asB, w_asI, w_if, w_truB, List.getElem?_cons_zero, List.getElem?_cons_succ, List.set_cons_zero, List.set_cons_succ, w_methF]
  refine words_wp h fun g2 m p2 hm lm => ?_
  have o := wordsL_ok h.ok t
  generalize wordsL L t = ws at o hm ⊢
  cases ws with
  | nil => exact absurd rfl o.ne
  | cons w ws =>
    rw [w_ixR (d := .str w) hm (by rw [List.map_cons]; exact DL.atI0)]
    rw [w_eq (n := 0) (by decide) (by simpa [D.pl] using o.so w List.mem_cons_self) (by simpa [D.pl] using hk)]
    refine ⟨?_, p2⟩
    exact congrArg D.bl (decide_eq_decide.mpr ⟨fun e => by rw [D.str.inj e]; rfl, fun e => by rw [Option.some.inj (show some w = some kind from e)]⟩)
theorem fn_any {np k : Nat} {ms : MS} {ds : List D} {g : GS} {Inv : D → GS → Prop} {P : D → GS → Prop} (hn : ds.length = np) (cut : ∀ d g', Inv d g' → d.und g.length = true → belowG g.length (g'.take g.length) = true → Inv d (g'.take g.length)) (h : okS (ms (ds.map some ++ List.replicate (k - np) none) g) (fun _ _ => False) (fun d' g' => Inv d' g') (fun _ _ => False) fun _ _ => False) (hP : ∀ d g2, Inv d g2 → P d g2) : okM (fnM np k ms ds g) P := by
  unfold fnM
  rw [if_pos hn]
  generalize ms (ds.map some ++ List.replicate (k - np) none) g = r at h ⊢
  cases r with
  | rt d' g' =>
    have inv : Inv d' g' := h
    show okM (gcR g.length (.ok d' g')) P
    unfold gcR
    dsimp only
    split
    · rename_i b
      rw [Bool.and_eq_true] at b
      exact hP _ _ (cut _ _ inv b.1 b.2)
    · exact hP _ _ inv
  | nx _ _ => exact h.elim
  | bk _ _ => exact h.elim
  | ct _ _ => exact h.elim
  | bad => exact h.elim
  | ex _ _ _ => exact h.elim
theorem sl_lst {n : Nat} {g : GS} {ds : List D} {l u : Option Int} {P : D → GS → Prop} (hn : g[n]? = some (.lst ds)) : okM (slD (.ref n) l u g) P ↔ P (.ref g.length) (g ++ [.lst (DL.cutD ds l u)]) := by
  unfold slD
  dsimp only
  rw [hn]
  exact Iff.rfl
theorem num_get {x : Int} (h0 : 0 ≤ x) (h9 : x ≤ 9) : kvGet k_NUMBERS (dg x) = some (.int x) := by
  have : x = 0 ∨ x = 1 ∨ x = 2 ∨ x = 3 ∨ x = 4 ∨ x = 5 ∨ x = 6 ∨ x = 7 ∨ x = 8 ∨ x = 9 := by omega
  rcases this with rfl | rfl | rfl | rfl | rfl | rfl | rfl | rfl | rfl | rfl <;> rfl
theorem taken_set {tl : Str} {r t : Nat} : setAt ("taken" : Str) (D.int ((t : Int) + 1)) ns_Lines (linD tl r t) = linD tl r (t + 1) := by
  show setAt ("taken" : Str) (D.int ((t : Int) + 1)) [("tail" : Str), ("rows" : Str), ("taken" : Str)] [D.str tl, .ref r, .int t] = [D.str tl, .ref r, .int ((t + 1 : Nat) : Int)]
  simp only [setAt]
  rw [if_neg (by decide +kernel), if_neg (by decide +kernel), if_true]
  rfl
theorem take_wp {n r t : Nat} {tl kind : Str} {ns : List Int} {L : List (List Str)} {g : GS} {P : D → GS → Prop} (h : Lns kP n r t tl L g) (hk : PyData.strOk kind = true) (hw : wordsL L t = kind :: ns.map dg) (h9 : ∀ x ∈ ns, 0 ≤ x ∧ x ≤ 9) (few : ns.length ≤ 1000)
    (k : ∀ g2, Chg [n] g g2 → Lns kP n r (t + 1) tl L g2 → P (.tup (ns.map D.int)) g2) : okM (F_Lines_take cP kP [.ref n, .str kind] g) P := by
  have ln := (List.getElem?_eq_some_iff.mp h.ob).1
  have lr := (List.getElem?_eq_some_iff.mp h.rw_).1
  refine fn_any (Inv := fun d g2 => d = .tup (ns.map D.int) ∧ Chg [n] g g2 ∧ Lns kP n r (t + 1) tl L g2) rfl (fun d g' z hu b => ⟨z.1, z.2.1.take, ?_⟩) ?_ fun d g2 z => by rw [z.1]; exact k _ z.2.1 z.2.2
  · exact ⟨by rw [List.getElem?_take_of_lt ln]; exact z.2.2.ob, by rw [List.getElem?_take_of_lt lr]; exact z.2.2.rw_, h.ok, h.nr⟩
  show okS (m_Lines_take cP kP [some (.ref n), some (.str kind), none, none] g) _ _ _ _
  unfold m_Lines_take
  rw [v_seq]
  simp only [v_asg, v_if, v_ret, v_drop, v_for, v_skip, w_bnd, w_pur, x_get, w_tgN, w_subG, w_asB, w_asI, w_if, w_truB, List.getElem?_cons_zero, List.getElem?_cons_succ, List.set_cons_zero, List.set_cons_succ]
  rw [x_insO h.ob (by decide +kernel)]
  simp only [v_asg, v_if, v_ret, v_drop, v_for, v_skip, w_bnd, w_pur, x_get, w_tgN, w_subG, w_asB, w_asI, w_if, w_truB, List.getElem?_cons_zero, List.getElem?_cons_succ, List.set_cons_zero, List.set_cons_succ, w_methF]
  refine words_wp h fun g2 m p2 hm lm => ?_
  rw [hw] at hm
  have ob2 := pre_get p2 h.ob
  have rw2 := pre_get p2 h.rw_
  have l2 := p2.length_le
  rw [v_seq]
  rw [x_augO (n := n) (i := (t : Int)) (j := 1) rfl rfl ob2 l_taken, taken_set]
  have ob3 := gset_eq (c := .obj (kP.a ("Lines" : Str)) ns_Lines (linD tl r (t + 1))) ob2
  have rw3 := gset_ne (c := .obj (kP.a ("Lines" : Str)) ns_Lines (linD tl r (t + 1))) rw2 h.nr
  have hm3 := gset_ne (c := .obj (kP.a ("Lines" : Str)) ns_Lines (linD tl r (t + 1))) hm (show n ≠ m by omega)
  have ch3 : Chg [n] g (g2.set n (.obj (kP.a ("Lines" : Str)) ns_Lines (linD tl r (t + 1)))) := (Chg.pre p2).set (.inl (by simp))
  generalize g2.set n (.obj (kP.a ("Lines" : Str)) ns_Lines (linD tl r (t + 1))) = g3 at ob3 rw3 hm3 ch3 ⊢
  rw [List.map_cons, List.map_map] at hm3
  rw [v_seq]
  simp only [v_asg, v_if, v_ret, v_drop, v_for, v_skip, w_bnd, w_pur, x_get, w_tgN, w_subG, w_asB, w_asI, w_if, w_truB, List.getElem?_cons_zero, List.getElem?_cons_succ, List.set_cons_zero, List.set_cons_succ]
  rw [w_ixR (d := .str kind) hm3 DL.atI0, w_ne (n := 0) (by decide) (by simpa [D.pl] using hk) (by simpa [D.pl] using hk), decide_eq_true rfl]
  simp only [v_asg, v_if, v_ret, v_drop, v_for, v_skip, w_bnd, w_pur, x_get, w_tgN, w_subG, w_asB, w_asI, w_if, w_truB, List.getElem?_cons_zero, List.getElem?_cons_succ, List.set_cons_zero, List.set_cons_succ, w_asB, Bool.not_true, Bool.false_eq_true, if_false, genD, wipeD]
  rw [sl_lst hm3, cut_one]
  have hx3 : (g3 ++ [Cell.lst ((D.str kind :: ns.map (D.str ∘ dg)).drop 1)])[g3.length]? = some (.lst (ns.map (D.str ∘ dg))) := List.getElem?_concat_length
  have pp := List.prefix_append g3 [Cell.lst ((D.str kind :: ns.map (D.str ∘ dg)).drop 1)]
  have ob4 := pre_get pp ob3
  have rw4 := pre_get pp rw3
  have hm4 := pre_get pp hm3
  have ch4 := ch3.trans (Chg.pre pp)
  generalize g3 ++ [Cell.lst ((D.str kind :: ns.map (D.str ∘ dg)).drop 1)] = g4 at hx3 ob4 rw4 hm4 ch4 ⊢
  generalize g3.length = m4 at hx3 ⊢
  simp only [x_seqR, hx3]
  refine okM.of (gen_wpT (by show g4[m4]? = _; exact hx3) (D.str ∘ dg) (fun _ => false) ns fun x hx => ⟨_, rfl, okM.eq ?_⟩) ?_
  · simp only [v_asg, v_if, v_ret, v_drop, v_for, v_skip, w_bnd, w_pur, x_get, w_tgN, w_subG, w_asB, w_asI, w_if, w_truB, List.getElem?_cons_zero, List.getElem?_cons_succ, List.set_cons_zero, List.set_cons_succ, Function.comp_apply, inKD, num_get (h9 x hx).1 (h9 x hx).2]
    first | exact ⟨rfl, rfl⟩ | exact ⟨rfl, True.intro⟩ | exact rfl | exact True.intro | simp
  have na : (if ns.any (fun _ => false == true) then true else !true) = false := by simp
  rw [na, w_truB, if_neg (by decide)]
  rw [v_seq]
  simp only [v_asg, v_if, v_ret, v_drop, v_for, v_skip, w_bnd, w_pur, x_get, w_tgN, w_subG, w_asB, w_asI, w_if, w_truB, List.getElem?_cons_zero, List.getElem?_cons_succ, List.set_cons_zero, List.set_cons_succ, compD, wipeD]
  rw [sl_lst hm4, cut_one]
  have hx5 : (g4 ++ [Cell.lst ((D.str kind :: ns.map (D.str ∘ dg)).drop 1)])[g4.length]? = some (.lst (ns.map (D.str ∘ dg))) := List.getElem?_concat_length
  have pp := List.prefix_append g4 [Cell.lst ((D.str kind :: ns.map (D.str ∘ dg)).drop 1)]
  have ob5 := pre_get pp ob4
  have rw5 := pre_get pp rw4
  have ch5 := ch4.trans (Chg.pre pp)
  generalize g4 ++ [Cell.lst ((D.str kind :: ns.map (D.str ∘ dg)).drop 1)] = g5 at hx5 ob5 rw5 ch5 ⊢
  generalize g4.length = m5 at hx5 ⊢
  simp only [x_seqR, hx5]
  refine okM.of (comp_wpT (by show g5[m5]? = _; exact hx5) (D.str ∘ dg) D.int ns fun x hx => ⟨_, rfl, rfl, okM.eq ?_⟩) ?_
  · simp only [v_asg, v_if, v_ret, v_drop, v_for, v_skip, w_bnd, w_pur, x_get, w_tgN, w_subG, w_asB, w_asI, w_if, w_truB, List.getElem?_cons_zero, List.getElem?_cons_succ, List.set_cons_zero, List.set_cons_succ, Function.comp_apply, itemKD, num_get (h9 x hx).1 (h9 x hx).2]
    first | exact ⟨rfl, rfl⟩ | exact ⟨rfl, True.intro⟩ | exact rfl | exact True.intro | simp
  rw [if_pos (by rw [List.length_map]; exact Nat.le_trans few (by decide))]
  exact ⟨rfl, ch5, ob5, rw5, h.ok, h.nr⟩
theorem finish_wp {n r t : Nat} {L : List (List Str)} {g : GS} {P : D → GS → Prop} (h : Lns kP n r t ("" : Str) L g) (hle : L.length ≤ t) (hp : P .non g) : okM (F_Lines_finish cP kP [.ref n] g) P := by
  refine fn_wp rfl ?_
  show okS (m_Lines_finish cP kP [some (.ref n)] g) _ _ _ _
  unfold m_Lines_finish
  rw [v_seq]
  simp only [v_asg, v_if, v_ret, v_drop, v_for, v_skip, w_bnd, w_pur, x_get, w_tgN, w_subG, w_asB, w_asI, w_if, w_truB, List.getElem?_cons_zero, List.getElem?_cons_succ, List.set_cons_zero, List.set_cons_succ, x_fldO h.ob l_taken, x_fldO h.ob l_rows, x_lenR, h.rw_, List.length_map]
  rw [w_lt, w_asB, decide_eq_false (by omega), if_neg (by decide)]
  rw [x_fldO h.ob l_tail, w_ne (n := 0) (by decide) (by decide +kernel) (by decide +kernel), decide_eq_true rfl, w_asB, if_neg (by decide)]
  exact ⟨hp, by rw [List.take_length]; exact hp⟩
theorem x_pop {n : Nat} {ds : List D} {d : D} {g : GS} {P : D → GS → Prop} (h : g[n]? = some (.lst (ds ++ [d]))) : okM (popD (.ref n) [] g) P ↔ P d (g.set n (.lst ds)) := by
  unfold popD
  dsimp only
  rw [h]
  dsimp only
  have e : (ds ++ [d])[(ds ++ [d]).length - 1]? = some d := by simp
  rw [e]
  dsimp only
  rw [List.dropLast_concat]
  exact Iff.rfl
theorem new_wp {x : Str} {L : List (List Str)} {g : GS} {P : D → GS → Prop} (ok : ∀ ws ∈ L, OkWs ws) (nl : ∀ ws ∈ L, 10 ∉ (joinW ws).cps.toList) (hx : x = Str.join Str.empty ((L.map joinW).map fun s => s ++ ("\n" : Str))) (len : x.length + 2 ≤ 100000)
    (k : ∀ g2 n r, g <+: g2 → g.length ≤ n → g.length ≤ r → Lns kP n r 0 ("" : Str) L g2 → P (.ref n) g2) : okM (makeO (kP.a ("Lines" : Str)) ns_Lines (mf_Lines cP kP) 1 1 [.str x] g) P := by
  refine w_makeO rfl ?_
  unfold mf_Lines
  refine w_preO ?_
  have sp : Txt.split x ("\n" : Str) = L.map joinW ++ [Str.empty] := by
    rw [hx]
    exact split_lines _ fun s hs => by
      obtain ⟨ws, hw, rfl⟩ := List.mem_map.mp hs
      exact nl ws hw
  simp only [v_asg, v_if, v_ret, v_drop, v_for, v_skip, w_bnd, w_pur, x_get, w_tgN, w_subG, w_asB, w_asI, w_if, w_truB, List.getElem?_cons_zero, List.getElem?_cons_succ, List.set_cons_zero, List.set_cons_succ]
  show okM (tyM "str" (.str x) g) _
  rw [show okM (tyM "str" (.str x) g) = okM (pur (D.str x) g) from by unfold tyM; rfl, w_pur, w_split (by decide +kernel) len, sp]
  refine ⟨trivial, ?_⟩
  have e0 : (g ++ [Cell.lst ((L.map joinW ++ [Str.empty]).map D.str)])[g.length]? = some (.lst ((L.map fun ws => D.str (joinW ws)) ++ [D.str ("" : Str)])) := by
    rw [List.getElem?_concat_length, List.map_append, List.map_map]; rfl
  have pp := List.prefix_append g [Cell.lst ((L.map joinW ++ [Str.empty]).map D.str)]
  have ll : (g ++ [Cell.lst ((L.map joinW ++ [Str.empty]).map D.str)]).length = g.length + 1 := by simp
  generalize g ++ [Cell.lst ((L.map joinW ++ [Str.empty]).map D.str)] = g1 at e0 pp ll ⊢
  show okM (tyM "list" (.ref g.length) g1) _
  rw [x_tyL e0, x_pop e0]
  have e1 := gset_eq (c := .lst (L.map fun ws => D.str (joinW ws))) e0
  have p1 : g <+: g1.set g.length (.lst (L.map fun ws => D.str (joinW ws))) := pre_set pp (Nat.le_refl _)
  have l1 : (g1.set g.length (.lst (L.map fun ws => D.str (joinW ws)))).length = g.length + 1 := by rw [List.length_set, ll]
  generalize g1.set g.length (.lst (L.map fun ws => D.str (joinW ws))) = g2 at e1 p1 l1 ⊢
  refine ⟨rfl, k _ _ g.length (pre_app p1 _) (by omega) (Nat.le_refl _) ⟨List.getElem?_concat_length, pre_get (List.prefix_append _ _) e1, ok, by omega⟩⟩
theorem Lns.cut {n r t : Nat} {tl : Str} {L : List (List Str)} {g' : GS} {k : Nat} (h : Lns kP n r t tl L g') (a : n < k) (b : r < k) : Lns kP n r t tl L (g'.take k) :=
  ⟨by rw [List.getElem?_take_of_lt a]; exact h.ob, by rw [List.getElem?_take_of_lt b]; exact h.rw_, h.ok, h.nr⟩
theorem Lns.lt {n r t : Nat} {tl : Str} {L : List (List Str)} {g : GS} (h : Lns kP n r t tl L g) : n < g.length ∧ r < g.length := ⟨(List.getElem?_eq_some_iff.mp h.ob).1, (List.getElem?_eq_some_iff.mp h.rw_).1⟩
theorem sizes_wp {n r t : Nat} {tl : Str} {ns : List Int} {L : List (List Str)} {g : GS} {P : D → GS → Prop} (h : Lns kP n r t tl L g) (hw : wordsL L t = ("sizes" : Str) :: ns.map dg) (h9 : ∀ x ∈ ns, 0 ≤ x ∧ x ≤ 9) (few : ns.length ≤ 1000) (good : ∀ g, F_are_sizes cP [.tup (ns.map D.int)] g = .ok (.bl true) g)
    (k : ∀ g2, Chg [n] g g2 → Lns kP n r (t + 1) tl L g2 → P (.tup (ns.map D.int)) g2) : okM (F__take_sizes cP kP [.ref n] g) P := by
  refine fn_any (Inv := fun d g2 => d = .tup (ns.map D.int) ∧ Chg [n] g g2 ∧ Lns kP n r (t + 1) tl L g2) rfl (fun d g' z hu b => ⟨z.1, z.2.1.take, z.2.2.cut (Lns.lt h).1 (Lns.lt h).2⟩) ?_ fun d g2 z => by rw [z.1]; exact k _ z.2.1 z.2.2
  show okS (m__take_sizes cP kP [some (.ref n), none] g) _ _ _ _
  unfold m__take_sizes
  rw [v_seq]
  simp only [v_asg, v_if, v_ret, v_drop, v_for, v_skip, w_bnd, w_pur, x_get, w_tgN, w_subG, w_asB, w_asI, w_if, w_truB, List.getElem?_cons_zero, List.getElem?_cons_succ, List.set_cons_zero, List.set_cons_succ]
  rw [x_insO h.ob (by decide +kernel)]
  simp only [v_asg, v_if, v_ret, v_drop, v_for, v_skip, w_bnd, w_pur, x_get, w_tgN, w_subG, w_asB, w_asI, w_if, w_truB, List.getElem?_cons_zero, List.getElem?_cons_succ, List.set_cons_zero, List.set_cons_succ, w_methF]
  refine take_wp h (by decide +kernel) hw h9 few fun g2 c2 h2 => ?_
  rw [v_seq]
  simp only [v_asg, v_if, v_ret, v_drop, v_for, v_skip, w_bnd, w_pur, x_get, w_tgN, w_subG, w_asB, w_asI, w_if, w_truB, List.getElem?_cons_zero, List.getElem?_cons_succ, List.set_cons_zero, List.set_cons_succ]
  rw [good g2, ok_iff, w_truB]
  rw [if_neg (by decide), v_seq]
  simp only [v_asg, v_if, v_ret, v_drop, v_for, v_skip, w_bnd, w_pur, x_get, w_tgN, w_subG, w_asB, w_asI, w_if, w_truB, List.getElem?_cons_zero, List.getElem?_cons_succ, List.set_cons_zero, List.set_cons_succ]
  exact ⟨trivial, c2, h2⟩
theorem empty_idx {n r t : Nat} {tl kind : Str} {L : List (List Str)} {g : GS} {e : D} {P : D → GS → Prop} (h : Lns kP n r t tl L g) (hk : PyData.strOk kind = true) (hw : (wordsL L t).head? ≠ some kind) (k : ∀ g2, g <+: g2 → P (.tup []) g2) : okM (F__take_indexes cP kP [.ref n, .str kind, e] g) P := by
  refine fn_any (Inv := fun d g2 => d = .tup [] ∧ g <+: g2) rfl (fun d g' z hu b => ⟨z.1, ?_⟩) ?_ fun d g2 z => by rw [z.1]; exact k _ z.2
  · exact List.prefix_take_iff.mpr ⟨z.2, Nat.le_refl _⟩
  show okS (m__take_indexes cP kP [some (.ref n), some (.str kind), some e, none] g) _ _ _ _
  unfold m__take_indexes
  rw [v_seq]
  simp only [v_asg, v_if, v_ret, v_drop, v_for, v_skip, w_bnd, w_pur, x_get, w_tgN, w_subG, w_asB, w_asI, w_if, w_truB, List.getElem?_cons_zero, List.getElem?_cons_succ, List.set_cons_zero, List.set_cons_succ]
  rw [x_insO h.ob (by decide +kernel)]
  simp only [v_asg, v_if, v_ret, v_drop, v_for, v_skip, w_bnd, w_pur, x_get, w_tgN, w_subG, w_asB, w_asI, w_if, w_truB, List.getElem?_cons_zero, List.getElem?_cons_succ, List.set_cons_zero, List.set_cons_succ, w_methF]
  refine sees_wp h hk fun g2 p2 => ?_
  rw [w_truB, decide_eq_false hw, if_pos (by decide), v_seq]
  simp only [v_asg, v_if, v_ret, v_drop, v_for, v_skip, w_bnd, w_pur, x_get, w_tgN, w_subG, w_asB, w_asI, w_if, w_truB, List.getElem?_cons_zero, List.getElem?_cons_succ, List.set_cons_zero, List.set_cons_succ]
  rw [w_mkT (by decide)]
  exact ⟨rfl, p2⟩
theorem idx_wp {n r t : Nat} {tl kind : Str} {ns : List Int} {L : List (List Str)} {g : GS} {e : D} {P : D → GS → Prop} (h : Lns kP n r t tl L g) (hk : PyData.strOk kind = true) (hw : wordsL L t = kind :: ns.map dg) (h9 : ∀ x ∈ ns, 0 ≤ x ∧ x ≤ 9) (few : ns.length ≤ 1000) (hne : ns ≠ []) (good : ∀ g, F_are_indexes cP [e, .tup (ns.map D.int)] g = .ok (.bl true) g)
    (k : ∀ g2, Chg [n] g g2 → Lns kP n r (t + 1) tl L g2 → P (.tup (ns.map D.int)) g2) : okM (F__take_indexes cP kP [.ref n, .str kind, e] g) P := by
  refine fn_any (Inv := fun d g2 => d = .tup (ns.map D.int) ∧ Chg [n] g g2 ∧ Lns kP n r (t + 1) tl L g2) rfl (fun d g' z hu b => ⟨z.1, z.2.1.take, z.2.2.cut (Lns.lt h).1 (Lns.lt h).2⟩) ?_ fun d g2 z => by rw [z.1]; exact k _ z.2.1 z.2.2
  show okS (m__take_indexes cP kP [some (.ref n), some (.str kind), some e, none] g) _ _ _ _
  unfold m__take_indexes
  rw [v_seq]
  simp only [v_asg, v_if, v_ret, v_drop, v_for, v_skip, w_bnd, w_pur, x_get, w_tgN, w_subG, w_asB, w_asI, w_if, w_truB, List.getElem?_cons_zero, List.getElem?_cons_succ, List.set_cons_zero, List.set_cons_succ]
  rw [x_insO h.ob (by decide +kernel)]
  simp only [v_asg, v_if, v_ret, v_drop, v_for, v_skip, w_bnd, w_pur, x_get, w_tgN, w_subG, w_asB, w_asI, w_if, w_truB, List.getElem?_cons_zero, List.getElem?_cons_succ, List.set_cons_zero, List.set_cons_succ, w_methF]
  refine sees_wp h hk fun g1 p1 => ?_
  rw [w_truB, decide_eq_true (by rw [hw]; rfl), if_neg (by decide), v_seq]
  have h1 : Lns kP n r t tl L g1 := ⟨pre_get p1 h.ob, pre_get p1 h.rw_, h.ok, h.nr⟩
  simp only [v_asg, v_if, v_ret, v_drop, v_for, v_skip, w_bnd, w_pur, x_get, w_tgN, w_subG, w_asB, w_asI, w_if, w_truB, List.getElem?_cons_zero, List.getElem?_cons_succ, List.set_cons_zero, List.set_cons_succ]
  rw [x_insO h1.ob (by decide +kernel)]
  simp only [v_asg, v_if, v_ret, v_drop, v_for, v_skip, w_bnd, w_pur, x_get, w_tgN, w_subG, w_asB, w_asI, w_if, w_truB, List.getElem?_cons_zero, List.getElem?_cons_succ, List.set_cons_zero, List.set_cons_succ, w_methF]
  refine take_wp h1 hk hw h9 few fun g2 c2 h2 => ?_
  rw [v_seq]
  simp only [v_asg, v_if, v_ret, v_drop, v_for, v_skip, w_bnd, w_pur, x_get, w_tgN, w_subG, w_asB, w_asI, w_if, w_truB, List.getElem?_cons_zero, List.getElem?_cons_succ, List.set_cons_zero, List.set_cons_succ]
  rw [w_mkT (by decide)]
  have pl1 : (D.tup (ns.map D.int)).pl 1 = true := by
    simp only [D.pl]
    exact plL_int ns
  rw [w_eq (n := 1) (by decide) pl1 (by decide +kernel), decide_eq_false (fun e => hne (List.map_eq_nil_iff.mp (D.tup.inj e))), w_asB, if_neg (by decide)]
  rw [good g2, ok_iff, w_truB, if_neg (by decide), v_seq]
  simp only [v_asg, v_if, v_ret, v_drop, v_for, v_skip, w_bnd, w_pur, x_get, w_tgN, w_subG, w_asB, w_asI, w_if, w_truB, List.getElem?_cons_zero, List.getElem?_cons_succ, List.set_cons_zero, List.set_cons_succ]
  exact ⟨trivial, (Chg.pre p1).trans c2, h2⟩
theorem shownL_wp {n r t : Nat} {tl kind : Str} {x : Int} {xs : List Int} {L : List (List Str)} {g : GS} {e : D} {P : D → GS → Prop} (h : Lns kP n r t tl L g) (hk : PyData.strOk kind = true) (hw : wordsL L t = kind :: (x :: xs).map dg) (h9 : ∀ y ∈ x :: xs, 0 ≤ y ∧ y ≤ 9) (few : (x :: xs).length ≤ 1000) (good : ∀ g, F_is_shown cP [e, .tup [.int x, .tup (xs.map D.int)]] g = .ok (.bl true) g)
    (k : ∀ g2, Chg [n] g g2 → Lns kP n r (t + 1) tl L g2 → P (.tup [.int x, .tup (xs.map D.int)]) g2) : okM (F__take_shown cP kP [.ref n, .str kind, e] g) P := by
  refine fn_any (Inv := fun d g2 => d = .tup [.int x, .tup (xs.map D.int)] ∧ Chg [n] g g2 ∧ Lns kP n r (t + 1) tl L g2) rfl (fun d g' z hu b => ⟨z.1, z.2.1.take, z.2.2.cut (Lns.lt h).1 (Lns.lt h).2⟩) ?_ fun d g2 z => by rw [z.1]; exact k _ z.2.1 z.2.2
  show okS (m__take_shown cP kP [some (.ref n), some (.str kind), some e, none] g) _ _ _ _
  unfold m__take_shown
  rw [v_seq]
  simp only [v_asg, v_if, v_ret, v_drop, v_for, v_skip, w_bnd, w_pur, x_get, w_tgN, w_subG, w_asB, w_asI, w_if, w_truB, List.getElem?_cons_zero, List.getElem?_cons_succ, List.set_cons_zero, List.set_cons_succ]
  rw [x_insO h.ob (by decide +kernel)]
  simp only [v_asg, v_if, v_ret, v_drop, v_for, v_skip, w_bnd, w_pur, x_get, w_tgN, w_subG, w_asB, w_asI, w_if, w_truB, List.getElem?_cons_zero, List.getElem?_cons_succ, List.set_cons_zero, List.set_cons_succ, w_methF]
  refine take_wp h hk hw h9 few fun g2 c2 h2 => ?_
  rw [v_seq]
  simp only [v_asg, v_if, v_ret, v_drop, v_for, v_skip, w_bnd, w_pur, x_get, w_tgN, w_subG, w_asB, w_asI, w_if, w_truB, List.getElem?_cons_zero, List.getElem?_cons_succ, List.set_cons_zero, List.set_cons_succ]
  rw [w_mkT (by decide)]
  have pl1 : (D.tup ((x :: xs).map D.int)).pl 1 = true := by
    simp only [D.pl]
    exact plL_int _
  have ix : ∀ {Q : D → GS → Prop} {g2 : GS}, okM (ixD (.tup (D.int x :: xs.map D.int)) (.int 0) g2) Q ↔ Q (.int x) g2 := w_ixT DL.atI0
  have mk : ∀ {Q : D → GS → Prop} {g2 : GS}, okM (mkT [.int x, .tup (xs.map D.int)] g2) Q ↔ Q (.tup [.int x, .tup (xs.map D.int)]) g2 := w_mkT (show 2 ≤ 1000000 by decide)
  rw [w_eq (n := 1) (by decide) pl1 (by decide +kernel), decide_eq_false (fun e => by cases (D.tup.inj e)), w_asB, if_neg (by decide)]
  rw [List.map_cons, ix, w_slT, cut_one, List.drop_succ_cons, List.drop_zero, mk, good g2, ok_iff, w_truB, if_neg (by decide), v_seq]
  simp only [v_asg, v_if, v_ret, v_drop, v_for, v_skip, w_bnd, w_pur, x_get, w_tgN, w_subG, w_asB, w_asI, w_if, w_truB, List.getElem?_cons_zero, List.getElem?_cons_succ, List.set_cons_zero, List.set_cons_succ]
  rw [ix, w_slT, cut_one, List.drop_succ_cons, List.drop_zero, mk]
  exact ⟨rfl, c2, h2⟩
end
end K14
namespace K14
open PySem PySem.Spec PyProof.Rows L2 DL
open Classical
noncomputable section
variable {cP : Addr} {kP : Ks}
theorem flat_at : ∀ (c : Ch) (i : Nat) (m : Int × Int), c[i]? = some m → (flat c)[2 * i]? = some m.1 ∧ (flat c)[2 * i + 1]? = some m.2
  | [], i, m, h => by simp at h
  | x :: c, 0, m, h => by
    have e : x = m := by simpa using h
    subst e
    exact ⟨rfl, rfl⟩
  | x :: c, i + 1, m, h => by
    have ih := flat_at c i m (by simpa using h)
    have e : flat (x :: c) = x.1 :: x.2 :: flat c := rfl
    rw [e, show 2 * (i + 1) = 2 * i + 1 + 1 from by omega, List.getElem?_cons_succ, List.getElem?_cons_succ, List.getElem?_cons_succ, List.getElem?_cons_succ]
    exact ih
theorem rg2 {n : Nat} (h1 : 1 ≤ n) (h3 : n ≤ 3) : RgC 1 ((2 * n : Nat) : Int) 2 n := by
  have : n = 1 ∨ n = 2 ∨ n = 3 := by omega
  rcases this with rfl | rfl | rfl <;> exact ⟨by decide, by decide, by decide +kernel, by decide +kernel⟩
theorem pl_ch : ∀ c : Ch, plL 1 (c.map mD) = true
  | [] => rfl
  | m :: c => by rw [List.map_cons, plL, pl_ch c, Bool.and_true]; simp [mD, D.pl, plL]
theorem chL_wp {n r t : Nat} {tl kind : Str} {c : Ch} {sizes : List Int} {L : List (List Str)} {g : GS} {P : D → GS → Prop} (h : Lns kP n r t tl L g) (hk : PyData.strOk kind = true) (hw : wordsL L t = kind :: (flat c).map dg) (hs : OkSizes sizes) (hc : OkCh sizes c)
    (k : ∀ g2, Chg [n] g g2 → Lns kP n r (t + 1) tl L g2 → P (chD c) g2) : okM (F__take_changes cP kP [.ref n, .str kind, dI sizes] g) P := by
  have fo := flat_ok hs hc
  have fl := flat_len c
  refine fn_any (Inv := fun d g2 => d = chD c ∧ Chg [n] g g2 ∧ Lns kP n r (t + 1) tl L g2) rfl (fun d g' z hu b => ⟨z.1, z.2.1.take, z.2.2.cut (Lns.lt h).1 (Lns.lt h).2⟩) ?_ fun d g2 z => by rw [z.1]; exact k _ z.2.1 z.2.2
  show okS (m__take_changes cP kP [some (.ref n), some (.str kind), some (dI sizes), none, none, none] g) _ _ _ _
  unfold m__take_changes
  rw [v_seq]
  simp only [v_asg, v_if, v_ret, v_drop, v_for, v_skip, w_bnd, w_pur, x_get, w_tgN, w_subG, w_asB, w_asI, w_if, w_truB, List.getElem?_cons_zero, List.getElem?_cons_succ, List.set_cons_zero, List.set_cons_succ]
  rw [x_insO h.ob (by decide +kernel)]
  simp only [v_asg, v_if, v_ret, v_drop, v_for, v_skip, w_bnd, w_pur, x_get, w_tgN, w_subG, w_asB, w_asI, w_if, w_truB, List.getElem?_cons_zero, List.getElem?_cons_succ, List.set_cons_zero, List.set_cons_succ, w_methF]
  refine take_wp h hk hw (fun x hx => by have := fo.2 x hx; omega) (by omega) fun g2 c2 h2 => ?_
  rw [v_seq]
  simp only [v_asg, v_if, v_ret, v_drop, v_for, v_skip, w_bnd, w_pur, x_get, w_tgN, w_subG, w_asB, w_asI, w_if, w_truB, List.getElem?_cons_zero, List.getElem?_cons_succ, List.set_cons_zero, List.set_cons_succ, compD, wipeD, w_lenT, List.length_map]
  have h1 := hc.1
  have h3 := hc.2.1
  rw [fl, w_rng3 (rg2 h1 h3)]
  have er : rngItemsC 1 2 c.length = (List.range c.length).map fun i => D.int (1 + (i : Nat) * 2) := rfl
  rw [er]
  refine okM.of (comp_wpT (by exact True.intro) (fun i : Nat => D.int (1 + (i : Nat) * 2)) (fun i => match c[i]? with | some m => mD m | none => .non) (List.range c.length) fun i hi => ?_) ?_
  · have hl : i < c.length := List.mem_range.mp hi
    have e : c[i]? = some c[i] := List.getElem?_eq_getElem hl
    have f := flat_at c i _ e
    rw [e]
    refine ⟨_, rfl, rfl, okM.eq ?_⟩
    simp only [v_asg, v_if, v_ret, v_drop, v_for, v_skip, w_bnd, w_pur, x_get, w_tgN, w_subG, w_asB, w_asI, w_if, w_truB, List.getElem?_cons_zero, List.getElem?_cons_succ, List.set_cons_zero, List.set_cons_succ, w_sub]
    rw [w_ixT (d := .int (c[i]).1) (by
      have z : (1 + (i : Int) * 2 - 1) = ((2 * i : Nat) : Int) := by omega
      rw [z]
      exact DL.atI_nat (by rw [List.getElem?_map, f.1]; rfl))]
    try simp only [v_asg, v_if, v_ret, v_drop, v_for, v_skip, w_bnd, w_pur, x_get, w_tgN, w_subG, w_asB, w_asI, w_if, w_truB, List.getElem?_cons_zero, List.getElem?_cons_succ, List.set_cons_zero, List.set_cons_succ]
    rw [w_ixT (d := .int (c[i]).2) (by
      have z : (1 + (i : Int) * 2) = ((2 * i + 1 : Nat) : Int) := by omega
      rw [z]
      exact DL.atI_nat (by rw [List.getElem?_map, f.2]; rfl))]
    rw [w_mkT (by simp)]
    first | exact ⟨rfl, rfl⟩ | exact ⟨rfl, True.intro⟩ | exact rfl | exact True.intro | simp
  rw [if_pos (by rw [List.length_map, List.length_range]; exact Nat.le_trans h3 (by decide)), w_pur]
  have ec : ((List.range c.length).map fun i => match c[i]? with | some m => mD m | none => D.non) = c.map mD := range_get c mD _ fun i m e => by simp only [e]
  rw [ec, v_seq]
  simp only [v_asg, v_if, v_ret, v_drop, v_for, v_skip, w_bnd, w_pur, x_get, w_tgN, w_subG, w_asB, w_asI, w_if, w_truB, List.getElem?_cons_zero, List.getElem?_cons_succ, List.set_cons_zero, List.set_cons_succ, w_lenT, List.length_map]
  rw [w_mul (.inl (by decide)), w_neI, fl, decide_eq_true (show ((2 * c.length : Nat) : Int) = 2 * (c.length : Int) by omega), w_asB, if_neg (by decide)]
  have e := changes_eq (cP := cP) (g := g2) hc
  simp only [chD] at e
  rw [e, ok_iff, w_truB, if_neg (by decide), v_seq]
  simp only [v_asg, v_if, v_ret, v_drop, v_for, v_skip, w_bnd, w_pur, x_get, w_tgN, w_subG, w_asB, w_asI, w_if, w_truB, List.getElem?_cons_zero, List.getElem?_cons_succ, List.set_cons_zero, List.set_cons_succ]
  exact ⟨rfl, c2, h2⟩
def kW (kind : Str) (ns : List Int) : List Str := kind :: ns.map dg
def partW (pt : Part) : List (List Str) := kW ("part" : Str) [] :: kW ("look" : Str) (pt.look.1 :: pt.look.2) :: kW ("word" : Str) (pt.word.1 :: pt.word.2) :: (match pt.press with
  | none => []
  | some c => [kW ("press" : Str) (flat c)])
def endW (kind : Str) (l : List Int) : List (List Str) := if l = [] then [] else [kW kind l]
def tailW (p : Prg) : List (List Str) := endW ("live" : Str) p.live ++ endW ("skips" : Str) p.skips
def tickW (ts : List Ch) : List (List Str) := ts.map fun c => kW ("tick" : Str) (flat c)
def prgW (p : Prg) : List (List Str) := kW ("sizes" : Str) p.sizes :: (p.parts.flatMap partW ++ (tickW p.ticks ++ tailW p))
def notK (kind : Str) (R : List (List Str)) : Prop := (R.getD 0 [("" : Str)]).head? ≠ some kind
theorem wordsL_drop (L : List (List Str)) (t : Nat) : wordsL L t = (L.drop t).getD 0 [("" : Str)] := by
  unfold wordsL
  rw [List.getD_eq_getElem?_getD, List.getD_eq_getElem?_getD, List.getElem?_drop, Nat.add_zero]
theorem words_at {L : List (List Str)} {t : Nat} {ws : List Str} {R : List (List Str)} (h : L.drop t = ws :: R) : wordsL L t = ws ∧ L.drop (t + 1) = R := by
  refine ⟨by rw [wordsL_drop, h]; rfl, ?_⟩
  rw [← List.drop_drop, h]
  rfl
theorem drop_app {L : List (List Str)} {t : Nat} {A R : List (List Str)} (h : L.drop t = A ++ R) : L.drop (t + A.length) = R := by
  rw [← List.drop_drop, h, List.drop_left]
theorem notK_kW {kind k2 : Str} {ns : List Int} {R : List (List Str)} (h : k2 ≠ kind) : notK kind (kW k2 ns :: R) := fun e => h (Option.some.inj e)
theorem notK_nil {kind : Str} (h : ("" : Str) ≠ kind) : notK kind [] := fun e => h (Option.some.inj e)
theorem notK_end {kind k2 : Str} {l : List Int} {R : List (List Str)} (h : k2 ≠ kind) (hR : notK kind R) : notK kind (endW k2 l ++ R) := by
  unfold endW
  split
  · exact hR
  · exact notK_kW h
theorem notK_tail {kind : Str} {p : Prg} (h0 : ("" : Str) ≠ kind) (h1 : ("live" : Str) ≠ kind) (h2 : ("skips" : Str) ≠ kind) : notK kind (tailW p) := by
  unfold tailW
  refine notK_end h1 ?_
  have := notK_end (l := p.skips) (R := []) h2 (notK_nil h0)
  rwa [List.append_nil] at this
theorem notK_tick {kind : Str} {ts : List Ch} {R : List (List Str)} (h : ("tick" : Str) ≠ kind) (hR : notK kind R) : notK kind (tickW ts ++ R) := by
  cases ts with
  | nil => exact hR
  | cons c ts => exact notK_kW h
theorem notK_parts {kind : Str} {ps : List Part} {R : List (List Str)} (h : ("part" : Str) ≠ kind) (hR : notK kind R) : notK kind (ps.flatMap partW ++ R) := by
  cases ps with
  | nil => exact hR
  | cons pt ps =>
    rw [List.flatMap_cons, List.append_assoc]
    exact notK_kW h
theorem sees_head {L : List (List Str)} {t : Nat} {kind : Str} : ((wordsL L t).head? = some kind) ↔ ¬ notK kind (L.drop t) := by
  unfold notK
  rw [wordsL_drop]
  exact Decidable.not_not.symm
theorem kso : PyData.strOk ("sizes" : Str) = true ∧ PyData.strOk ("part" : Str) = true ∧ PyData.strOk ("look" : Str) = true ∧ PyData.strOk ("word" : Str) = true ∧ PyData.strOk ("press" : Str) = true ∧ PyData.strOk ("tick" : Str) = true ∧ PyData.strOk ("live" : Str) = true ∧ PyData.strOk ("skips" : Str) = true := by decide +kernel
theorem partR_wp {n r t : Nat} {tl : Str} {pt : Part} {sizes : List Int} {L R : List (List Str)} {g : GS} {P : D → GS → Prop} (h : Lns kP n r t tl L g) (hs : OkSizes sizes) (hp : OkPart sizes pt) (hd : L.drop t = partW pt ++ R) (hR : notK ("press" : Str) R)
    (k : ∀ g2, Chg [n] g g2 → Lns kP n r (t + (partW pt).length) tl L g2 → P (partD pt) g2) : okM (F__take_part cP kP [.ref n, dI sizes] g) P := by
  obtain ⟨h1, h2, h3⟩ := hp
  have o1 := pr_ok hs h1
  have o2 := pr_ok hs h2
  have kk := kso
  refine fn_any (Inv := fun d g2 => d = partD pt ∧ Chg [n] g g2 ∧ Lns kP n r (t + (partW pt).length) tl L g2) rfl (fun d g' z hu b => ⟨z.1, z.2.1.take, z.2.2.cut (Lns.lt h).1 (Lns.lt h).2⟩) ?_ fun d g2 z => by rw [z.1]; exact k _ z.2.1 z.2.2
  show okS (m__take_part cP kP [some (.ref n), some (dI sizes), none, none, none] g) _ _ _ _
  unfold partW at hd
  rw [List.cons_append, List.cons_append, List.cons_append] at hd
  obtain ⟨w0, d1⟩ := words_at hd
  obtain ⟨w1, d2⟩ := words_at d1
  obtain ⟨w2, d3⟩ := words_at d2
  unfold m__take_part
  rw [v_seq]
  simp only [v_asg, v_if, v_ret, v_drop, v_for, v_skip, w_bnd, w_pur, x_get, w_tgN, w_subG, w_asB, w_asI, w_if, w_truB, List.getElem?_cons_zero, List.getElem?_cons_succ, List.set_cons_zero, List.set_cons_succ]
  rw [x_insO h.ob (by decide +kernel)]
  simp only [v_asg, v_if, v_ret, v_drop, v_for, v_skip, w_bnd, w_pur, x_get, w_tgN, w_subG, w_asB, w_asI, w_if, w_truB, List.getElem?_cons_zero, List.getElem?_cons_succ, List.set_cons_zero, List.set_cons_succ, w_methF]
  refine take_wp (ns := []) h kk.2.1 w0 (fun x hx => by cases hx) (Nat.zero_le _) fun g1 c1 h1' => ?_
  rw [w_mkT (by decide), w_ne (n := 1) (by decide) (by decide +kernel) (by decide +kernel), decide_eq_true (show D.tup (List.map D.int []) = D.tup [] from rfl), w_asB, if_neg (by decide), v_seq]
  simp only [v_asg, v_if, v_ret, v_drop, v_for, v_skip, w_bnd, w_pur, x_get, w_tgN, w_subG, w_asB, w_asI, w_if, w_truB, List.getElem?_cons_zero, List.getElem?_cons_succ, List.set_cons_zero, List.set_cons_succ]
  refine shownL_wp h1' kk.2.2.1 w1 (fun x hx => by have := o1.2 x hx; omega) (by have := o1.1; omega) (fun g => shown_eq hs h1) fun g2 c2 h2' => ?_
  rw [v_seq]
  simp only [v_asg, v_if, v_ret, v_drop, v_for, v_skip, w_bnd, w_pur, x_get, w_tgN, w_subG, w_asB, w_asI, w_if, w_truB, List.getElem?_cons_zero, List.getElem?_cons_succ, List.set_cons_zero, List.set_cons_succ]
  refine shownL_wp h2' kk.2.2.2.1 w2 (fun x hx => by have := o2.2 x hx; omega) (by have := o2.1; omega) (fun g => shown_eq hs h2) fun g3 c3 h3' => ?_
  rw [v_seq]
  simp only [v_asg, v_if, v_ret, v_drop, v_for, v_skip, w_bnd, w_pur, x_get, w_tgN, w_subG, w_asB, w_asI, w_if, w_truB, List.getElem?_cons_zero, List.getElem?_cons_succ, List.set_cons_zero, List.set_cons_succ]
  rw [x_insO h3'.ob (by decide +kernel)]
  simp only [v_asg, v_if, v_ret, v_drop, v_for, v_skip, w_bnd, w_pur, x_get, w_tgN, w_subG, w_asB, w_asI, w_if, w_truB, List.getElem?_cons_zero, List.getElem?_cons_succ, List.set_cons_zero, List.set_cons_succ, w_methF]
  have c03 := (c1.trans c2).trans c3
  refine sees_wp h3' kk.2.2.2.2.1 fun g4 p4 => ?_
  have h4 : Lns kP n r (t + 1 + 1 + 1) tl L g4 := ⟨pre_get p4 h3'.ob, pre_get p4 h3'.rw_, h3'.ok, h3'.nr⟩
  have c04 := c03.trans (Chg.pre p4)
  rw [w_truB]
  cases hpp : pt.press with
  | none =>
    rw [hpp] at d3
    rw [decide_eq_false (fun z => (sees_head.mp z) (by rw [d3]; exact hR)), if_neg (by decide)]
    try simp only [v_asg, v_if, v_ret, v_drop, v_for, v_skip, w_bnd, w_pur, x_get, w_tgN, w_subG, w_asB, w_asI, w_if, w_truB, List.getElem?_cons_zero, List.getElem?_cons_succ, List.set_cons_zero, List.set_cons_succ]
    rw [v_seq]
    simp only [v_asg, v_if, v_ret, v_drop, v_for, v_skip, w_bnd, w_pur, x_get, w_tgN, w_subG, w_asB, w_asI, w_if, w_truB, List.getElem?_cons_zero, List.getElem?_cons_succ, List.set_cons_zero, List.set_cons_succ]
    rw [w_mkT (by simp)]
    have el : (partW pt).length = 3 := by unfold partW; rw [hpp]; rfl
    rw [el]
    have ed : partD pt = .tup [prD pt.look, prD pt.word, .non] := by unfold partD; rw [hpp]; rfl
    rw [ed]
    exact ⟨rfl, c04, h4⟩
  | some c =>
    rw [hpp] at d3
    obtain ⟨w3, d4⟩ := words_at d3
    rw [decide_eq_true (by rw [w3]; rfl), if_pos (by decide)]
    try simp only [v_asg, v_if, v_ret, v_drop, v_for, v_skip, w_bnd, w_pur, x_get, w_tgN, w_subG, w_asB, w_asI, w_if, w_truB, List.getElem?_cons_zero, List.getElem?_cons_succ, List.set_cons_zero, List.set_cons_succ]
    refine chL_wp h4 kk.2.2.2.2.1 w3 hs (h3 c hpp) fun g5 c5 h5 => ?_
    rw [v_seq]
    simp only [v_asg, v_if, v_ret, v_drop, v_for, v_skip, w_bnd, w_pur, x_get, w_tgN, w_subG, w_asB, w_asI, w_if, w_truB, List.getElem?_cons_zero, List.getElem?_cons_succ, List.set_cons_zero, List.set_cons_succ]
    rw [w_mkT (by simp)]
    have el : (partW pt).length = 4 := by unfold partW; rw [hpp]; rfl
    rw [el]
    have ed : partD pt = .tup [prD pt.look, prD pt.word, chD c] := by unfold partD; rw [hpp]; rfl
    rw [ed]
    exact ⟨rfl, c04.trans c5, h5⟩
end
end K14
namespace K14
open PySem PySem.Spec PyProof.Rows L2 DL
open Classical
noncomputable section
variable {cP : Addr} {kP : Ks}
def KOk (kind : Str) : Prop := kind.length ≤ 10 ∧ PyData.strOk kind = true ∧ 32 ∉ kind.cps.toList ∧ 10 ∉ kind.cps.toList
theorem kok : KOk ("sizes" : Str) ∧ KOk ("part" : Str) ∧ KOk ("look" : Str) ∧ KOk ("word" : Str) ∧ KOk ("press" : Str) ∧ KOk ("tick" : Str) ∧ KOk ("live" : Str) ∧ KOk ("skips" : Str) := by
  unfold KOk
  decide +kernel
theorem line_c {c : Nat} (h32 : c ≠ 32) (h48 : c < 48) : ∀ (ns : List Int) (kind : Str), c ∉ kind.cps.toList → c ∉ (lineS kind ns).cps.toList
  | [], kind, h => h
  | x :: ns, kind, h => by
    refine line_c h32 h48 ns (kind ++ (" " : Str) ++ dg x) ?_
    show c ∉ TL.tl (kind ++ (" " : Str) ++ dg x)
    rw [TL.tl_append, TL.tl_append]
    intro hm
    rcases List.mem_append.mp hm with hm | hm
    · rcases List.mem_append.mp hm with hm | hm
      · exact h hm
      · have : c = 32 := by simpa using (show c ∈ [32] from (by rw [sp_S] at hm; exact hm))
        exact h32 this
    · have : c = 48 + x.toNat := by simpa using (show c ∈ [48 + x.toNat] from hm)
      omega
theorem joinW_kW (kind : Str) (ns : List Int) : joinW (kW kind ns) = lineS kind ns := join_line kind ns
theorem dg_sp (x : Int) : 32 ∉ (dg x).cps.toList := fun hm => by
  have : 32 = 48 + x.toNat := by simpa using (show 32 ∈ [48 + x.toNat] from hm)
  omega
theorem kW_ok {kind : Str} {ns : List Int} (hk : KOk kind) (h : ns.length ≤ 6 ∧ ∀ x ∈ ns, 0 ≤ x ∧ x ≤ 7) : OkWs (kW kind ns) ∧ 10 ∉ (joinW (kW kind ns)).cps.toList := by
  refine ⟨⟨by unfold kW; simp, fun s hs => ?_, ?_, fun s hs => ?_⟩, ?_⟩
  · rcases List.mem_cons.mp hs with rfl | hs
    · exact hk.2.2.1
    · obtain ⟨x, _, rfl⟩ := List.mem_map.mp hs
      exact dg_sp x
  · rw [joinW_kW, line_len]
    have := hk.1
    omega
  · rcases List.mem_cons.mp hs with rfl | hs
    · exact hk.2.1
    · obtain ⟨x, hx, rfl⟩ := List.mem_map.mp hs
      exact dg_ok (h.2 x hx).1 (h.2 x hx).2
  · rw [joinW_kW]
    exact line_c (by decide) (by decide) ns kind hk.2.2.2
/-- what is good of the words of a line -/
def OkKW (ws : List Str) : Prop := ∃ kind ns, ws = kW kind ns ∧ KOk kind ∧ ns.length ≤ 6 ∧ ∀ x ∈ ns, 0 ≤ x ∧ x ≤ 7
theorem partW_mem {sizes : List Int} {pt : Part} (hs : OkSizes sizes) (hp : OkPart sizes pt) {ws : List Str} (h : ws ∈ partW pt) : OkKW ws := by
  obtain ⟨h1, h2, h3⟩ := hp
  have kk := kok
  have o1 := pr_ok hs h1
  have o2 := pr_ok hs h2
  unfold partW at h
  rcases List.mem_cons.mp h with rfl | h
  · exact ⟨_, _, rfl, kk.2.1, by simp, fun x hx => by cases hx⟩
  rcases List.mem_cons.mp h with rfl | h
  · exact ⟨_, _, rfl, kk.2.2.1, by omega, o1.2⟩
  rcases List.mem_cons.mp h with rfl | h
  · exact ⟨_, _, rfl, kk.2.2.2.1, by omega, o2.2⟩
  cases e : pt.press with
  | none => rw [e] at h; cases h
  | some c =>
    rw [e] at h
    have : ws = kW ("press" : Str) (flat c) := by simpa using h
    exact ⟨_, _, this, kk.2.2.2.2.1, flat_ok hs (h3 c e)⟩
theorem endW_mem {kind : Str} {l : List Int} (hk : KOk kind) (hl : l.length ≤ 6 ∧ ∀ x ∈ l, 0 ≤ x ∧ x ≤ 7) {ws : List Str} (h : ws ∈ endW kind l) : OkKW ws := by
  unfold endW at h
  split at h
  · cases h
  · have : ws = kW kind l := by simpa using h
    exact ⟨_, _, this, hk, hl⟩
theorem prgW_mem {p : Prg} (hp : OkPrg p) {ws : List Str} (h : ws ∈ prgW p) : OkKW ws := by
  have kk := kok
  unfold prgW at h
  rcases List.mem_cons.mp h with rfl | h
  · exact ⟨_, _, rfl, kk.1, sizes_ok hp.sizes⟩
  rcases List.mem_append.mp h with h | h
  · obtain ⟨pt, hpt, h⟩ := List.mem_flatMap.mp h
    exact partW_mem hp.sizes (hp.parts pt hpt) h
  rcases List.mem_append.mp h with h | h
  · obtain ⟨c, hc, rfl⟩ := List.mem_map.mp h
    exact ⟨_, _, rfl, kk.2.2.2.2.2.1, flat_ok hp.sizes (hp.ticks c hc)⟩
  unfold tailW at h
  rcases List.mem_append.mp h with h | h
  · exact endW_mem kk.2.2.2.2.2.2.1 (ix_ok hp.np.2 hp.live.1 hp.live.2) h
  · exact endW_mem kk.2.2.2.2.2.2.2 (ix_ok hp.np.2 hp.skips.1 hp.skips.2) h
theorem partW_lines (pt : Part) : (partW pt).map joinW = partL pt := by
  unfold partW partL
  cases pt.press with
  | none => simp [joinW_kW]
  | some c => simp [joinW_kW]
theorem endW_lines (kind : Str) (l : List Int) : (endW kind l).map joinW = endL kind l := by
  unfold endW endL
  split
  · rfl
  · simp [joinW_kW]
theorem prgW_lines (p : Prg) : (prgW p).map joinW = lns p := by
  unfold prgW lns tailW tickW
  rw [List.map_cons, List.map_append, List.map_append, List.map_append, endW_lines, endW_lines, joinW_kW, List.map_map, List.map_flatMap]
  have e : (fun a => (partW a).map joinW) = partL := funext partW_lines
  have e2 : (joinW ∘ fun c : Ch => kW ("tick" : Str) (flat c)) = fun c => lineS ("tick" : Str) (flat c) := funext fun c => joinW_kW _ _
  rw [e, e2]
  simp [List.append_assoc]
theorem join_len : ∀ L : List Str, (Str.join Str.empty L).length = (L.map (·.length)).sum
  | [] => rfl
  | [x] => by
    show x.length = x.length + 0
    rfl
  | x :: y :: r => by
    show (x ++ Str.empty ++ Str.join Str.empty (y :: r)).length = _
    rw [str_empty, str_len, join_len (y :: r)]
    rfl
theorem txt_len {p : Prg} (hp : OkPrg p) : (txt p).length ≤ 930 := by
  have o := lns_ok hp
  have s := sum_nl _ o.2
  unfold txt
  rw [join_len]
  omega
theorem idxR_wp {n r t : Nat} {tl kind : Str} {l : List Int} {m : Nat} {L R : List (List Str)} {g : GS} {P : D → GS → Prop} (h : Lns kP n r t tl L g) (hk : PyData.strOk kind = true) (hd : L.drop t = endW kind l ++ R) (hR : notK kind R) (hl : l.length ≤ 6 ∧ ∀ x ∈ l, 0 ≤ x ∧ x ≤ 7) (ha : l.Pairwise (· < ·)) (hb : ∀ x ∈ l, 0 ≤ x ∧ x < (m : Int))
    (k : ∀ g2, Chg [n] g g2 → Lns kP n r (t + (endW kind l).length) tl L g2 → P (dI l) g2) : okM (F__take_indexes cP kP [.ref n, .str kind, .int m] g) P := by
  unfold endW at hd k
  by_cases e : l = []
  · rw [if_pos e] at hd k
    refine empty_idx h hk (fun z => (sees_head.mp z) (by rw [hd]; exact hR)) fun g2 p2 => ?_
    have q := k g2 (Chg.pre p2) ⟨pre_get p2 h.ob, pre_get p2 h.rw_, h.ok, h.nr⟩
    rw [e] at q
    exact q
  · rw [if_neg e] at hd k
    exact idx_wp h hk (words_at hd).1 (fun x hx => by have := hl.2 x hx; omega) (by omega) e (fun g => indexes_eq ha hb) fun g2 c2 h2 => k g2 c2 h2
theorem parse_wp {p : Prg} {g : GS} {P : D → GS → Prop} (hp : OkPrg p) (k : ∀ g', g <+: g' → P (progD cP p) g') : okM (F_parse_program cP kP [.str (txt p)] g) P := by
  have kk := kso
  have hnp := hp.np
  have hnt := hp.nt
  refine fn_pre rfl ?_ k
  show okS (m_parse_program cP kP [some (.str (txt p)), none, none, none, none, none, none] g) _ _ _ _
  unfold m_parse_program
  rw [v_seq]
  simp only [v_asg, v_if, v_ret, v_drop, v_for, v_skip, w_bnd, w_pur, x_get, w_tgN, w_subG, w_asB, w_asI, w_if, w_truB, List.getElem?_cons_zero, List.getElem?_cons_succ, List.set_cons_zero, List.set_cons_succ]
  refine new_wp (L := prgW p) (fun ws hw => by obtain ⟨kind, ns, rfl, h1, h2⟩ := prgW_mem hp hw; exact (kW_ok h1 h2).1) (fun ws hw => by obtain ⟨kind, ns, rfl, h1, h2⟩ := prgW_mem hp hw; exact (kW_ok h1 h2).2) (by rw [prgW_lines]; rfl) (by have := txt_len hp; omega) fun g1 n r p1 ln lr h1 => ?_
  have hd0 : (prgW p).drop 0 = kW ("sizes" : Str) p.sizes :: (p.parts.flatMap partW ++ (tickW p.ticks ++ tailW p)) := rfl
  generalize prgW p = L at h1 hd0 ⊢
  generalize txt p = x at h1 ⊢
  obtain ⟨w0, hd1⟩ := words_at hd0
  have so := sizes_ok hp.sizes
  rw [v_seq]
  simp only [v_asg, v_if, v_ret, v_drop, v_for, v_skip, w_bnd, w_pur, x_get, w_tgN, w_subG, w_asB, w_asI, w_if, w_truB, List.getElem?_cons_zero, List.getElem?_cons_succ, List.set_cons_zero, List.set_cons_succ]
  refine sizes_wp h1 w0 (fun x hx => by have := so.2 x hx; omega) (by omega) (fun g => sizes_eq hp.sizes) fun g2 c2 h2 => ?_
  have nP : notK ("press" : Str) (tickW p.ticks ++ tailW p) := notK_tick (by decide +kernel) (notK_tail (by decide +kernel) (by decide +kernel) (by decide +kernel))
  have nT : notK ("part" : Str) (tickW p.ticks ++ tailW p) := notK_tick (by decide +kernel) (notK_tail (by decide +kernel) (by decide +kernel) (by decide +kernel))
  have far : ∀ i ∈ [n], g.length ≤ i := fun i hi => by rw [List.mem_singleton.mp hi]; exact ln
  have p2 : g <+: g2 := c2.to_pre p1 far
  rw [v_seq]
  simp only [v_asg, v_if, v_ret, v_drop, v_for, v_skip, w_bnd, w_pur, x_get, w_tgN, w_subG, w_asB, w_asI, w_if, w_truB, List.getElem?_cons_zero, List.getElem?_cons_succ, List.set_cons_zero, List.set_cons_succ]
  cases hps : p.parts with
  | nil => rw [hps] at hnp; exact absurd hnp.1 (by decide)
  | cons pt0 ps =>
  rw [hps, List.flatMap_cons, List.append_assoc] at hd1
  have hok : ∀ x ∈ pt0 :: ps, OkPart p.sizes x := fun x hx => hp.parts x (by rw [hps]; exact hx)
  have hlen : ps.length + 1 ≤ 4 := by rw [hps, List.length_cons] at hnp; exact hnp.2
  refine partR_wp h2 hp.sizes (hok pt0 List.mem_cons_self) hd1 (notK_parts (by decide +kernel) nP) fun g3 c3 h3 => ?_
  have hd2 := drop_app hd1
  have p3 : g <+: g3 := c3.to_pre p2 far
  have l3 := (Lns.lt h3)
  rw [w_mkL (by simp)]
  have hm3 : (g3 ++ [Cell.lst [partD pt0]])[g3.length]? = some (.lst [partD pt0]) := List.getElem?_concat_length
  have q3 := List.prefix_append g3 [Cell.lst [partD pt0]]
  have h4 : Lns kP n r _ _ L (g3 ++ [Cell.lst [partD pt0]]) := ⟨pre_get q3 h3.ob, pre_get q3 h3.rw_, h3.ok, h3.nr⟩
  have p4 : g <+: g3 ++ [Cell.lst [partD pt0]] := p3.trans q3
  have mn : g3.length ≠ n := by omega
  have mr : g3.length ≠ r := by omega
  have lm := p3.length_le
  generalize g3.length = m at hm3 mn mr lm ⊢
  generalize g3 ++ [Cell.lst [partD pt0]] = g4 at hm3 h4 p4 ⊢
  rw [v_seq]
  refine whl_wp (fun q s g' => ∃ i t, q = ps.length - i ∧ i ≤ ps.length ∧ s = [some (.str x), some (.ref n), some (dI p.sizes), some (.ref m), none, none, none] ∧ g <+: g' ∧ Lns kP n r t ("" : Str) L g' ∧ L.drop t = (ps.drop i).flatMap partW ++ (tickW p.ticks ++ tailW p) ∧ g'[m]? = some (.lst ((pt0 :: ps.take i).map partD))) ps.length ⟨0, _, rfl, Nat.zero_le _, rfl, p4, h4, by rw [List.drop_zero]; exact hd2, hm3⟩ ?_
  rintro q s g5 ⟨i, t, rfl, hi, rfl, p5, h5, hd5, hm5⟩
  by_cases hlt : i < ps.length
  · simp only [v_asg, v_if, v_ret, v_drop, v_for, v_skip, w_bnd, w_pur, x_get, w_tgN, w_subG, w_asB, w_asI, w_if, w_truB, List.getElem?_cons_zero, List.getElem?_cons_succ, List.set_cons_zero, List.set_cons_succ]
    rw [w_lenR hm5, w_lt, w_asB, List.length_map, List.length_cons, List.length_take, Nat.min_eq_left hi, if_pos (by exact decide_eq_true (by omega))]
    try simp only [v_asg, v_if, v_ret, v_drop, v_for, v_skip, w_bnd, w_pur, x_get, w_tgN, w_subG, w_asB, w_asI, w_if, w_truB, List.getElem?_cons_zero, List.getElem?_cons_succ, List.set_cons_zero, List.set_cons_succ]
    rw [x_insO h5.ob (by decide +kernel)]
    simp only [v_asg, v_if, v_ret, v_drop, v_for, v_skip, w_bnd, w_pur, x_get, w_tgN, w_subG, w_asB, w_asI, w_if, w_truB, List.getElem?_cons_zero, List.getElem?_cons_succ, List.set_cons_zero, List.set_cons_succ, w_methF]
    refine sees_wp h5 kk.2.1 fun g6 q6 => ?_
    have hdr : ps.drop i = ps[i] :: ps.drop (i + 1) := List.drop_eq_getElem_cons hlt
    rw [hdr, List.flatMap_cons, List.append_assoc] at hd5
    rw [decide_eq_true (show (wordsL L t).head? = some ("part" : Str) from by
      rw [wordsL_drop, hd5]; rfl), w_truB, if_pos rfl]
    have h6 : Lns kP n r t ("" : Str) L g6 := ⟨pre_get q6 h5.ob, pre_get q6 h5.rw_, h5.ok, h5.nr⟩
    have hm6 := pre_get q6 hm5
    rw [v_seq]
    simp only [v_asg, v_if, v_ret, v_drop, v_for, v_skip, w_bnd, w_pur, x_get, w_tgN, w_subG, w_asB, w_asI, w_if, w_truB, List.getElem?_cons_zero, List.getElem?_cons_succ, List.set_cons_zero, List.set_cons_succ]
    rw [x_tyL hm6]
    refine partR_wp h6 hp.sizes (hok _ (List.mem_cons_of_mem _ (List.getElem_mem hlt))) hd5 (notK_parts (by decide +kernel) nP) fun g7 c7 h7 => ?_
    have hm7 := c7.get (by rw [List.mem_singleton]; exact mn) hm6
    have hd7 := drop_app hd5
    rw [x_app hm7 (by rw [List.length_map, List.length_cons, List.length_take]; omega)]
    have p7 : g <+: g7 := c7.to_pre (p5.trans q6) far
    refine ⟨ps.length - (i + 1), by omega, i + 1, _, by trivial, by omega, by trivial, pre_set p7 lm, ⟨gset_ne h7.ob mn, gset_ne h7.rw_ mr, h7.ok, h7.nr⟩, hd7, ?_⟩
    rw [gset_eq hm7, List.take_succ_eq_append_getElem hlt]
    simp only [List.map_cons, List.map_append, List.cons_append, List.map_nil]
  have hie : i = ps.length := by omega
  subst hie
  rw [List.drop_length, List.flatMap_nil, List.nil_append] at hd5
  rw [List.take_length] at hm5
  refine okM.mono (?_ : okM _ fun b g6 => b = false ∧ g5 <+: g6) ?_
  · simp only [v_asg, v_if, v_ret, v_drop, v_for, v_skip, w_bnd, w_pur, x_get, w_tgN, w_subG, w_asB, w_asI, w_if, w_truB, List.getElem?_cons_zero, List.getElem?_cons_succ, List.set_cons_zero, List.set_cons_succ]
    rw [w_lenR hm5, w_lt, w_asB, List.length_map, List.length_cons]
    by_cases h4 : ps.length + 1 < 4
    · rw [if_pos (by exact decide_eq_true (by omega))]
      try simp only [v_asg, v_if, v_ret, v_drop, v_for, v_skip, w_bnd, w_pur, x_get, w_tgN, w_subG, w_asB, w_asI, w_if, w_truB, List.getElem?_cons_zero, List.getElem?_cons_succ, List.set_cons_zero, List.set_cons_succ]
      rw [x_insO h5.ob (by decide +kernel)]
      simp only [v_asg, v_if, v_ret, v_drop, v_for, v_skip, w_bnd, w_pur, x_get, w_tgN, w_subG, w_asB, w_asI, w_if, w_truB, List.getElem?_cons_zero, List.getElem?_cons_succ, List.set_cons_zero, List.set_cons_succ, w_methF]
      refine sees_wp h5 kk.2.1 fun g6 q6 => ?_
      rw [decide_eq_false (fun z => (sees_head.mp z) (by rw [hd5]; exact nT)), w_truB]
      exact ⟨rfl, q6⟩
    · rw [if_neg (by rw [decide_eq_false (by omega)]; decide)]
      exact ⟨by trivial, List.prefix_refl _⟩
  rintro b g6 ⟨rfl, q6⟩
  rw [if_neg (by decide)]
  have h6 : Lns kP n r t ("" : Str) L g6 := ⟨pre_get q6 h5.ob, pre_get q6 h5.rw_, h5.ok, h5.nr⟩
  have hm6 := pre_get q6 hm5
  have p6 := p5.trans q6
  rw [v_seq]
  simp only [v_asg, v_if, v_ret, v_drop, v_for, v_skip, w_bnd, w_pur, x_get, w_tgN, w_subG, w_asB, w_asI, w_if, w_truB, List.getElem?_cons_zero, List.getElem?_cons_succ, List.set_cons_zero, List.set_cons_succ]
  rw [w_mkL (by simp)]
  have hu0 : (g6 ++ [Cell.lst []])[g6.length]? = some (.lst []) := List.getElem?_concat_length
  have qq := List.prefix_append g6 [Cell.lst []]
  have h7 : Lns kP n r t ("" : Str) L (g6 ++ [Cell.lst []]) := ⟨pre_get qq h6.ob, pre_get qq h6.rw_, h6.ok, h6.nr⟩
  have hm7 := pre_get qq hm6
  have p7 : g <+: g6 ++ [Cell.lst []] := p6.trans qq
  have l6 := Lns.lt h6
  have l6m := (List.getElem?_eq_some_iff.mp hm6).1
  have un : g6.length ≠ n := by omega
  have ur : g6.length ≠ r := by omega
  have um : g6.length ≠ m := by omega
  have lu := p6.length_le
  generalize g6.length = u at hu0 un ur um lu ⊢
  generalize g6 ++ [Cell.lst []] = g7 at hu0 h7 hm7 p7 ⊢
  rw [v_seq]
  have nL : notK ("tick" : Str) (tailW p) := notK_tail (by decide +kernel) (by decide +kernel) (by decide +kernel)
  refine whl_wp (fun q s g' => ∃ i t, q = p.ticks.length - i ∧ i ≤ p.ticks.length ∧ s = [some (.str x), some (.ref n), some (dI p.sizes), some (.ref m), some (.ref u), none, none] ∧ g <+: g' ∧ Lns kP n r t ("" : Str) L g' ∧ L.drop t = tickW (p.ticks.drop i) ++ tailW p ∧ g'[m]? = some (.lst ((pt0 :: ps).map partD)) ∧ g'[u]? = some (.lst ((p.ticks.take i).map chD))) p.ticks.length ⟨0, t, rfl, Nat.zero_le _, rfl, p7, h7, by rw [List.drop_zero]; exact hd5, hm7, hu0⟩ ?_
  rintro q s g8 ⟨i, t, rfl, hi, rfl, p8, h8, hd8, hm8, hu8⟩
  by_cases hlt : i < p.ticks.length
  · simp only [v_asg, v_if, v_ret, v_drop, v_for, v_skip, w_bnd, w_pur, x_get, w_tgN, w_subG, w_asB, w_asI, w_if, w_truB, List.getElem?_cons_zero, List.getElem?_cons_succ, List.set_cons_zero, List.set_cons_succ]
    rw [w_lenR hu8, w_lt, w_asB, List.length_map, List.length_take, Nat.min_eq_left hi, if_pos (by exact decide_eq_true (by omega))]
    try simp only [v_asg, v_if, v_ret, v_drop, v_for, v_skip, w_bnd, w_pur, x_get, w_tgN, w_subG, w_asB, w_asI, w_if, w_truB, List.getElem?_cons_zero, List.getElem?_cons_succ, List.set_cons_zero, List.set_cons_succ]
    rw [x_insO h8.ob (by decide +kernel)]
    simp only [v_asg, v_if, v_ret, v_drop, v_for, v_skip, w_bnd, w_pur, x_get, w_tgN, w_subG, w_asB, w_asI, w_if, w_truB, List.getElem?_cons_zero, List.getElem?_cons_succ, List.set_cons_zero, List.set_cons_succ, w_methF]
    refine sees_wp h8 kk.2.2.2.2.2.1 fun g9 q9 => ?_
    have hdr : p.ticks.drop i = p.ticks[i] :: p.ticks.drop (i + 1) := List.drop_eq_getElem_cons hlt
    have hd9 : L.drop t = kW ("tick" : Str) (flat p.ticks[i]) :: (tickW (p.ticks.drop (i + 1)) ++ tailW p) := by rw [hd8, hdr]; rfl
    obtain ⟨w9, hd10⟩ := words_at hd9
    rw [decide_eq_true (show (wordsL L t).head? = some ("tick" : Str) from by rw [w9]; rfl), w_truB, if_pos rfl]
    have h9 : Lns kP n r t ("" : Str) L g9 := ⟨pre_get q9 h8.ob, pre_get q9 h8.rw_, h8.ok, h8.nr⟩
    have hm9 := pre_get q9 hm8
    have hu9 := pre_get q9 hu8
    rw [v_seq]
    simp only [v_asg, v_if, v_ret, v_drop, v_for, v_skip, w_bnd, w_pur, x_get, w_tgN, w_subG, w_asB, w_asI, w_if, w_truB, List.getElem?_cons_zero, List.getElem?_cons_succ, List.set_cons_zero, List.set_cons_succ]
    rw [x_tyL hu9]
    refine chL_wp h9 kk.2.2.2.2.2.1 w9 hp.sizes (hp.ticks _ (List.getElem_mem hlt)) fun g10 c10 h10 => ?_
    have hm10 := c10.get (by rw [List.mem_singleton]; exact mn) hm9
    have hu10 := c10.get (by rw [List.mem_singleton]; exact un) hu9
    rw [x_app hu10 (by rw [List.length_map, List.length_take]; omega)]
    have p10 : g <+: g10 := c10.to_pre (p8.trans q9) far
    refine ⟨p.ticks.length - (i + 1), by omega, i + 1, _, by trivial, by omega, by trivial, pre_set p10 lu, ⟨gset_ne h10.ob un, gset_ne h10.rw_ ur, h10.ok, h10.nr⟩, hd10, gset_ne hm10 um, ?_⟩
    rw [gset_eq hu10, List.take_succ_eq_append_getElem hlt]
    simp only [List.map_append, List.map_cons, List.map_nil]
  have hie : i = p.ticks.length := by omega
  subst hie
  rw [List.drop_length, show tickW [] = [] from rfl, List.nil_append] at hd8
  rw [List.take_length] at hu8
  refine okM.mono (?_ : okM _ fun b g9 => b = false ∧ g8 <+: g9) ?_
  · simp only [v_asg, v_if, v_ret, v_drop, v_for, v_skip, w_bnd, w_pur, x_get, w_tgN, w_subG, w_asB, w_asI, w_if, w_truB, List.getElem?_cons_zero, List.getElem?_cons_succ, List.set_cons_zero, List.set_cons_succ]
    rw [w_lenR hu8, w_lt, w_asB, List.length_map]
    by_cases h4 : p.ticks.length < 2
    · rw [if_pos (by exact decide_eq_true (by omega))]
      try simp only [v_asg, v_if, v_ret, v_drop, v_for, v_skip, w_bnd, w_pur, x_get, w_tgN, w_subG, w_asB, w_asI, w_if, w_truB, List.getElem?_cons_zero, List.getElem?_cons_succ, List.set_cons_zero, List.set_cons_succ]
      rw [x_insO h8.ob (by decide +kernel)]
      simp only [v_asg, v_if, v_ret, v_drop, v_for, v_skip, w_bnd, w_pur, x_get, w_tgN, w_subG, w_asB, w_asI, w_if, w_truB, List.getElem?_cons_zero, List.getElem?_cons_succ, List.set_cons_zero, List.set_cons_succ, w_methF]
      refine sees_wp h8 kk.2.2.2.2.2.1 fun g9 q9 => ?_
      rw [decide_eq_false (fun z => (sees_head.mp z) (by rw [hd8]; exact nL)), w_truB]
      exact ⟨rfl, q9⟩
    · rw [if_neg (by rw [decide_eq_false (by omega)]; decide)]
      exact ⟨by trivial, List.prefix_refl _⟩
  rintro b g9 ⟨rfl, q9⟩
  rw [if_neg (by decide)]
  have h9 : Lns kP n r t ("" : Str) L g9 := ⟨pre_get q9 h8.ob, pre_get q9 h8.rw_, h8.ok, h8.nr⟩
  have hm9 := pre_get q9 hm8
  have hu9 := pre_get q9 hu8
  have p9 := p8.trans q9
  have elen : (pt0 :: ps).length = p.parts.length := by rw [hps]
  rw [v_seq]
  simp only [v_asg, v_if, v_ret, v_drop, v_for, v_skip, w_bnd, w_pur, x_get, w_tgN, w_subG, w_asB, w_asI, w_if, w_truB, List.getElem?_cons_zero, List.getElem?_cons_succ, List.set_cons_zero, List.set_cons_succ]
  rw [w_lenR hm9, List.length_map, elen]
  have hli := ix_ok hp.np.2 hp.live.1 hp.live.2
  have hsk := ix_ok hp.np.2 hp.skips.1 hp.skips.2
  have nS : notK ("live" : Str) (endW ("skips" : Str) p.skips) := by
    have := notK_end (kind := ("live" : Str)) (k2 := ("skips" : Str)) (l := p.skips) (R := []) (by decide +kernel) (notK_nil (by decide +kernel))
    rwa [List.append_nil] at this
  refine idxR_wp h9 kk.2.2.2.2.2.2.1 hd8 nS hli hp.live.1 hp.live.2 fun g10 c10 h10 => ?_
  have hm10 := c10.get (by rw [List.mem_singleton]; exact mn) hm9
  have hu10 := c10.get (by rw [List.mem_singleton]; exact un) hu9
  have p10 : g <+: g10 := c10.to_pre p9 far
  have hd10 := drop_app hd8
  rw [v_seq]
  simp only [v_asg, v_if, v_ret, v_drop, v_for, v_skip, w_bnd, w_pur, x_get, w_tgN, w_subG, w_asB, w_asI, w_if, w_truB, List.getElem?_cons_zero, List.getElem?_cons_succ, List.set_cons_zero, List.set_cons_succ]
  rw [w_lenR hm10, List.length_map, elen]
  refine idxR_wp (R := []) h10 kk.2.2.2.2.2.2.2 (by rw [List.append_nil]; exact hd10) (notK_nil (by decide +kernel)) hsk hp.skips.1 hp.skips.2 fun g11 c11 h11 => ?_
  have hm11 := c11.get (by rw [List.mem_singleton]; exact mn) hm10
  have hu11 := c11.get (by rw [List.mem_singleton]; exact un) hu10
  have p11 : g <+: g11 := c11.to_pre p10 far
  have hd11 := drop_app (R := []) (show L.drop _ = endW ("skips" : Str) p.skips ++ [] from by rw [List.append_nil]; exact hd10)
  rw [v_seq]
  simp only [v_asg, v_if, v_ret, v_drop, v_for, v_skip, w_bnd, w_pur, x_get, w_tgN, w_subG, w_asB, w_asI, w_if, w_truB, List.getElem?_cons_zero, List.getElem?_cons_succ, List.set_cons_zero, List.set_cons_succ]
  rw [x_insO h11.ob (by decide +kernel)]
  simp only [v_asg, v_if, v_ret, v_drop, v_for, v_skip, w_bnd, w_pur, x_get, w_tgN, w_subG, w_asB, w_asI, w_if, w_truB, List.getElem?_cons_zero, List.getElem?_cons_succ, List.set_cons_zero, List.set_cons_succ, w_methF]
  refine finish_wp h11 (List.drop_eq_nil_iff.mp hd11) ?_
  rw [v_seq]
  simp only [v_asg, v_if, v_ret, v_drop, v_for, v_skip, w_bnd, w_pur, x_get, w_tgN, w_subG, w_asB, w_asI, w_if, w_truB, List.getElem?_cons_zero, List.getElem?_cons_succ, List.set_cons_zero, List.set_cons_succ, x_tupR, hm11, hu11]
  have ev : [dI p.sizes, D.tup ((pt0 :: ps).map partD), D.tup (p.ticks.map chD), dI p.live, dI p.skips] = prgV p := by unfold prgV; rw [hps]
  rw [ev]
  unfold makeD
  rw [if_pos (show (prgV p).length = nsP.length from rfl), init_eq hp]
  exact ⟨rfl, p11⟩
end
end K14
namespace K14
open PySem PySem.Spec PyProof.Rows L2 DL
open Classical
noncomputable section
variable {cP : Addr} {kP : Ks}
theorem dict_eq {n : Nat} {g : GS} {X : List (Key × D)} (hn : g[n]? = some (.dic X)) : dictD [.ref n] g = .ok (.ref g.length) (g ++ [.dic X]) := by
  unfold dictD
  dsimp only
  rw [hn]
theorem w_sDG {mo mi : Sl → M D} {d : D} {s : Sl} {g : GS} {Ps : Sl → GS → Prop} : okM (subDG mo mi d s g) Ps ↔ okM (mo s g) fun x g1 => okM (mi s g1) fun i g2 => okM (dputD x i d g2) fun _ g3 => Ps s g3 := by
  unfold subDG
  simp only [w_bnd, w_pur]
theorem put_go {n : Nat} {k : Str} {d : D} {g : GS} {p q : Prg} {Q : Unit → GS → Prop} (hn : g[n]? = some (.dic (prgK p))) (e : putD (prgK p) (.inr k) d = prgK q) : okM (dputD (.ref n) (.str k) d g) Q ↔ Q () (g.set n (.dic (prgK q))) := by
  unfold dputD keyD
  dsimp only
  rw [hn]
  dsimp only
  rw [if_pos (show (prgK p).length < LIM from (show 5 < LIM by decide)), e]
  exact Iff.rfl
theorem eq_bl {a : Bool} {g : GS} {P : D → GS → Prop} : okM (eqD (.bl a) (.bl a) g) P ↔ P (.bl true) g := by
  have e : eqM (.bl a) (.bl a) g = some true := by
    have q : pyG g (.bl a) = some (.bool a) := by
      unfold pyG pyG1
      simp only [pyD]
    unfold eqM
    rw [q]
    dsimp only
    rw [if_pos (by simp [SeqAt.shaped, PyData.canLay0, PyData.depth])]
    cases a <;> simp [PyData.eqv]
  unfold eqD
  rw [e]
  exact Iff.rfl
theorem rev_tup {ds : List D} {g : GS} {P : D → GS → Prop} : okM (revT (.tup ds) g) P ↔ P (.tup ds.reverse) g := Iff.rfl
theorem other_wp {p : Prg} {i j n : Nat} {g : GS} {P : D → GS → Prop} (h0 : Drw i j g) (hp : OkPrg p) (hn : g[n]? = some (.dic (prgK p))) (ni : n ≠ i) (nj : n ≠ j) (k : ∀ p' g' m, OkPrg p' → Go i j g g' → g'[m]? = some (.dic (prgK p')) → P (.ref m) g') : okM (F__law_other cP [.ref j, .ref n] g) P := by
  refine fn_any (Inv := fun d g' => ∃ p' m, d = .ref m ∧ OkPrg p' ∧ Go i j g g' ∧ g'[m]? = some (.dic (prgK p'))) rfl ?_ ?_ ?_
  · rintro d g' ⟨p', m, rfl, h1, h2, h3⟩ hu _
    have hm : m < g.length := of_decide_eq_true hu
    exact ⟨p', m, rfl, h1, h2.take h0, by rw [List.getElem?_take_of_lt hm]; exact h3⟩
  rotate_left
  · rintro d g' ⟨p', m, rfl, h1, h2, h3⟩
    exact k p' g' m h1 h2 h3
  show okS (m__law_other cP [some (.ref j), some (.ref n), none, none, none, none, none] g) _ _ _ _
  unfold m__law_other
  rw [v_seq]
  simp only [v_asg, v_if, v_ret, v_drop, v_for, v_skip, w_bnd, w_pur, x_get, w_tgN, w_subG, w_asB, w_asI, w_if, w_truB, List.getElem?_cons_zero, List.getElem?_cons_succ, List.set_cons_zero, List.set_cons_succ]
  rw [dict_eq hn, ok_iff, v_seq]
  have h0' := h0.app [Cell.dic (prgK p)]
  simp only [v_asg, v_if, v_ret, v_drop, v_for, v_skip, w_bnd, w_pur, x_get, w_tgN, w_subG, w_asB, w_asI, w_if, w_truB, List.getElem?_cons_zero, List.getElem?_cons_succ, List.set_cons_zero, List.set_cons_succ]
  refine next_go h0' (by decide) (by decide) fun r g2 r0 r1 go2 => ?_
  have ln := (List.getElem?_eq_some_iff.mp hn).1
  obtain ⟨li, lj⟩ := h0.lt
  have mi : g.length ≠ i := by omega
  have mj : g.length ≠ j := by omega
  have mn : g.length ≠ n := by omega
  have hm1 : (g ++ [Cell.dic (prgK p)])[g.length]? = some (.dic (prgK p)) := List.getElem?_concat_length
  have hn1 : (g ++ [Cell.dic (prgK p)])[n]? = some (.dic (prgK p)) := by rw [List.getElem?_append_left ln]; exact hn
  have hm2 : g2[g.length]? = some (.dic (prgK p)) := by rw [go2.k.get g.length (List.getElem?_eq_some_iff.mp hm1).1 mi mj]; exact hm1
  have hn2 : g2[n]? = some (.dic (prgK p)) := by rw [go2.k.get n (List.getElem?_eq_some_iff.mp hn1).1 ni nj]; exact hn1
  have go : Go i j g g2 := ((Go.refl h0).app _).trans go2
  have gs : ∀ {g3 : GS} {c : Cell}, Go i j g g3 → Go i j g (g3.set g.length c) := fun h => by
    rcases h.set (n := g.length) (Nat.le_refl _) with z | z | z
    · exact z
    · exact absurd z mi
    · exact absurd z mj
  generalize g.length = m at hm2 mn gs mi mj ⊢
  have e : ∀ (a b : Int), a ≠ b → decide (a = b) = false := fun a b h => decide_eq_false h
  have hnp := hp.np
  have hr : r = 0 ∨ r = 1 ∨ r = 2 ∨ r = 3 ∨ r = 4 := by omega
  rcases hr with rfl | rfl | rfl | rfl | rfl
  · rw [v_seq]
    simp only [v_asg, v_if, v_ret, v_drop, v_for, v_skip, w_bnd, w_pur, x_get, w_tgN, w_subG, w_asB, w_asI, w_if, w_truB, List.getElem?_cons_zero, List.getElem?_cons_succ, List.set_cons_zero, List.set_cons_succ, w_eqI, decide_true, if_true, v_seq, w_sDG, dget_skips hn2]
    rw [put_go hm2 (q := ⟨p.sizes, p.parts, p.ticks, p.skips, p.skips⟩) rfl]
    have hm3 := gset_eq (c := .dic (prgK ⟨p.sizes, p.parts, p.ticks, p.skips, p.skips⟩)) hm2
    have hn3 := gset_ne (c := .dic (prgK ⟨p.sizes, p.parts, p.ticks, p.skips, p.skips⟩)) hn2 mn
    simp only [dget_live hn3]
    rw [put_go hm3 (q := ⟨p.sizes, p.parts, p.ticks, p.skips, p.live⟩) rfl]
    simp only [v_asg, v_if, v_ret, v_drop, v_for, v_skip, w_bnd, w_pur, x_get, w_tgN, w_subG, w_asB, w_asI, w_if, w_truB, List.getElem?_cons_zero, List.getElem?_cons_succ, List.set_cons_zero, List.set_cons_succ, w_eqI, e 0 1 (by decide), e 0 2 (by decide), e 0 3 (by decide), Bool.false_eq_true, if_false]
    exact ⟨⟨p.sizes, p.parts, p.ticks, p.skips, p.live⟩, m, rfl, ⟨hp.sizes, hp.np, hp.parts, hp.nt, hp.ticks, hp.skips, hp.live⟩, gs (gs go), gset_eq hm3⟩
  · rw [v_seq]
    simp only [v_asg, v_if, v_ret, v_drop, v_for, v_skip, w_bnd, w_pur, x_get, w_tgN, w_subG, w_asB, w_asI, w_if, w_truB, List.getElem?_cons_zero, List.getElem?_cons_succ, List.set_cons_zero, List.set_cons_succ, w_eqI, decide_true, if_true, v_seq, w_sDG, dget_ticks hn2, e 1 0 (by decide), Bool.false_eq_true, if_false, rev_tup]
    rw [put_go hm2 (q := ⟨p.sizes, p.parts, p.ticks.reverse, p.live, p.skips⟩) (by rw [← List.map_reverse]; rfl)]
    simp only [v_asg, v_if, v_ret, v_drop, v_for, v_skip, w_bnd, w_pur, x_get, w_tgN, w_subG, w_asB, w_asI, w_if, w_truB, List.getElem?_cons_zero, List.getElem?_cons_succ, List.set_cons_zero, List.set_cons_succ, w_eqI, e 1 2 (by decide), e 1 3 (by decide), Bool.false_eq_true, if_false]
    exact ⟨⟨p.sizes, p.parts, p.ticks.reverse, p.live, p.skips⟩, m, rfl, ⟨hp.sizes, hp.np, hp.parts, by rw [List.length_reverse]; exact hp.nt, fun c hc => hp.ticks c (List.mem_reverse.mp hc), hp.live, hp.skips⟩, gs go, gset_eq hm2⟩
  · cases hps : p.parts with
    | nil => rw [hps] at hnp; exact absurd hnp.1 (by decide)
    | cons pt ps =>
      have hpt := hp.parts pt (by rw [hps]; exact List.mem_cons_self)
      rw [v_seq]
      simp only [v_asg, v_if, v_ret, v_drop, v_for, v_skip, w_bnd, w_pur, x_get, w_tgN, w_subG, w_asB, w_asI, w_if, w_truB, List.getElem?_cons_zero, List.getElem?_cons_succ, List.set_cons_zero, List.set_cons_succ, w_eqI, decide_true, if_true, v_seq, w_sDG, dget_parts hn2, e 2 0 (by decide), e 2 1 (by decide), Bool.false_eq_true, if_false, hps, List.map_cons, x_ixT, DL.atI0, partD, tgT3]
      rw [w_mkT (by simp)]
      try simp only [v_asg, v_if, v_ret, v_drop, v_for, v_skip, w_bnd, w_pur, x_get, w_tgN, w_subG, w_asB, w_asI, w_if, w_truB, List.getElem?_cons_zero, List.getElem?_cons_succ, List.set_cons_zero, List.set_cons_succ]
      rw [w_mkT (by simp)]
      simp only [v_asg, v_if, v_ret, v_drop, v_for, v_skip, w_bnd, w_pur, x_get, w_tgN, w_subG, w_asB, w_asI, w_if, w_truB, List.getElem?_cons_zero, List.getElem?_cons_succ, List.set_cons_zero, List.set_cons_succ, dget_parts hn2, hps, List.map_cons, w_slT, cut_one, List.drop_succ_cons, List.drop_zero]
      rw [x_addT (by have := hnp.2; rw [hps, List.length_cons] at this; rw [List.length_map, List.length_singleton]; omega)]
      try simp only [v_asg, v_if, v_ret, v_drop, v_for, v_skip, w_bnd, w_pur, x_get, w_tgN, w_subG, w_asB, w_asI, w_if, w_truB, List.getElem?_cons_zero, List.getElem?_cons_succ, List.set_cons_zero, List.set_cons_succ, w_sDG]
      rw [put_go hm2 (q := ⟨p.sizes, ⟨pt.word, pt.look, pt.press⟩ :: ps, p.ticks, p.live, p.skips⟩) rfl]
      simp only [v_asg, v_if, v_ret, v_drop, v_for, v_skip, w_bnd, w_pur, x_get, w_tgN, w_subG, w_asB, w_asI, w_if, w_truB, List.getElem?_cons_zero, List.getElem?_cons_succ, List.set_cons_zero, List.set_cons_succ, w_eqI, e 2 3 (by decide), Bool.false_eq_true, if_false]
      refine ⟨⟨p.sizes, ⟨pt.word, pt.look, pt.press⟩ :: ps, p.ticks, p.live, p.skips⟩, m, rfl, ⟨hp.sizes, by rw [hps] at hnp; exact hnp, fun x hx => ?_, hp.nt, hp.ticks, ?_, ?_⟩, gs go, gset_eq hm2⟩
      · rcases List.mem_cons.mp hx with rfl | hx
        · exact ⟨hpt.2.1, hpt.1, hpt.2.2⟩
        · exact hp.parts x (by rw [hps]; exact List.mem_cons_of_mem _ hx)
      · have := hp.live
        rw [hps] at this
        exact this
      · have := hp.skips
        rw [hps] at this
        exact this
  · rw [v_seq]
    simp only [v_asg, v_if, v_ret, v_drop, v_for, v_skip, w_bnd, w_pur, x_get, w_tgN, w_subG, w_asB, w_asI, w_if, w_truB, List.getElem?_cons_zero, List.getElem?_cons_succ, List.set_cons_zero, List.set_cons_succ, w_eqI, decide_true, if_true, v_seq, e 3 0 (by decide), e 3 1 (by decide), e 3 2 (by decide), Bool.false_eq_true, if_false]
    refine data_go go.d fun p' g3 n' hp' go3 hn' => ?_
    exact ⟨p', n', rfl, hp', go.trans go3, hn'⟩
  · rw [v_seq]
    simp only [v_asg, v_if, v_ret, v_drop, v_for, v_skip, w_bnd, w_pur, x_get, w_tgN, w_subG, w_asB, w_asI, w_if, w_truB, List.getElem?_cons_zero, List.getElem?_cons_succ, List.set_cons_zero, List.set_cons_succ, w_eqI, v_seq, e 4 0 (by decide), e 4 1 (by decide), e 4 2 (by decide), e 4 3 (by decide), Bool.false_eq_true, if_false]
    exact ⟨p, m, rfl, hp, go, hm2⟩
theorem pl_upD : ∀ (n : Nat) (d : D), d.pl n = true → d.pl (n + 1) = true := by
  intro n
  induction n with
  | zero =>
    intro d h
    cases d with
    | tup ds => simp [D.pl] at h
    | _ => simpa [D.pl] using h
  | succ n ih =>
    intro d h
    cases d with
    | tup ds =>
      simp only [D.pl] at h ⊢
      have key : ∀ l : List D, plL n l = true → plL (n + 1) l = true := fun l => by
        induction l with
        | nil => intro _; rfl
        | cons x l ihl =>
          intro hx
          rw [plL, Bool.and_eq_true] at hx ⊢
          exact ⟨ih x hx.1, ihl hx.2⟩
      exact key ds h
    | _ => simpa [D.pl] using h
theorem pl_upN {n : Nat} {d : D} (h : d.pl n = true) : ∀ k, d.pl (n + k) = true
  | 0 => h
  | k + 1 => pl_upD _ _ (pl_upN h k)
theorem plL_allD (n : Nat) : ∀ l : List D, (∀ d ∈ l, d.pl n = true) → plL n l = true
  | [], _ => rfl
  | d :: l, h => by rw [plL, h d List.mem_cons_self, plL_allD n l fun x hx => h x (List.mem_cons_of_mem _ hx)]; rfl
theorem pl_dI0 (l : List Int) : (dI l).pl 1 = true := plL_allD 0 _ fun d hd => by
  obtain ⟨x, _, rfl⟩ := List.mem_map.mp hd
  rfl
theorem pl_chD (c : Ch) : (chD c).pl 2 = true := pl_ch c
theorem pl_prD (p : Pr) : (prD p).pl 2 = true := by
  have h := pl_dI0 p.2
  simp [prD, D.pl, plL, h]
theorem pl_partD (p : Part) : (partD p).pl 3 = true := by
  have h1 := pl_prD p.look
  have h2 := pl_prD p.word
  have h3 : (poD p.press).pl 2 = true := by
    cases p.press with
    | none => rfl
    | some c => exact pl_chD c
  simp [partD, D.pl, plL, h1, h2, h3]
theorem plL_prg (p : Prg) : plL 4 (prgV p) = true := by
  have h1 : (dI p.sizes).pl 4 = true := pl_upN (pl_dI0 _) 3
  have h2 : (D.tup (p.parts.map partD)).pl 4 = true := plL_allD 3 _ fun d hd => by
    obtain ⟨x, _, rfl⟩ := List.mem_map.mp hd
    exact pl_partD x
  have h3 : (D.tup (p.ticks.map chD)).pl 4 = true := plL_allD 3 _ fun d hd => by
    obtain ⟨x, _, rfl⟩ := List.mem_map.mp hd
    exact pl_upN (pl_chD x) 1
  have h4 : (dI p.live).pl 4 = true := pl_upN (pl_dI0 _) 3
  have h5 : (dI p.skips).pl 4 = true := pl_upN (pl_dI0 _) 3
  simp [prgV, plL, h1, h2, h3, h4, h5]
theorem eq_prg {a b : Nat} {p q : Prg} {g : GS} {P : D → GS → Prop} (ha : g[a]? = some (.dic (prgK p))) (hb : g[b]? = some (.dic (prgK q))) : okM (eqKD (.ref a) (.ref b) g) P ↔ P (.bl (decide (prgV p = prgV q))) g := by
  have va : ∀ r : Prg, (prgK r).map (·.2) = prgV r := fun r => rfl
  have ka : ∀ r : Prg, (prgK r).map (·.1) = nsP.map Sum.inr := fun r => rfl
  have sh : ∀ r : Prg, PyData.plainAll (toPyL (prgV r)) = true ∧ PyData.depthAll (toPyL (prgV r)) ≤ 4 := fun r => by
    have q := shpL_pl 4 (prgV r) (plL_prg r)
    exact ⟨PyData.plainAll_of_canLay0 _ q.1, q.2⟩
  have dep : ∀ (l : List PyData) (n : Nat), PyData.depthAll l ≤ n → ∀ x ∈ l, x.depth ≤ n := fun l n => by
    induction l with
    | nil => intro _ x hx; cases hx
    | cons y l ih =>
      intro h x hx
      rw [PyData.depthAll] at h
      rcases List.mem_cons.mp hx with rfl | hx
      · omega
      · exact ih (by omega) x hx
  unfold eqKD
  dsimp only
  rw [ha, hb]
  dsimp only
  rw [va, va, pyL_pl 4 _ (plL_prg p), pyL_pl 4 _ (plL_prg q)]
  dsimp only
  rw [ka, ka, if_pos ⟨rfl, by decide +kernel, (sh p).1, (sh q).1, fun x hx => Nat.le_trans (dep _ 4 (sh p).2 x hx) (by decide)⟩]
  rw [show PyData.eqvAll (toPyL (prgV p)) (toPyL (prgV q)) = decide (prgV p = prgV q) from by
    rw [Bool.eq_iff_iff, eqvL_pl 4 _ _ (plL_prg p) (plL_prg q), decide_eq_true_eq]]
  exact Iff.rfl
theorem all_eq {p : Prg} {g : GS} : F__law_all cP [progD cP p] g = .ok (.tup (prgV p)) g := by
  refine fn_eq rfl ?_
  show okS (m__law_all cP [some (progD cP p)] g) _ _ _ _
  simp only [m__law_all, v_seq, v_asg, v_if, v_ret, v_drop, v_for, v_skip, w_bnd, w_pur, x_get, w_tgN, w_subG, w_asB, w_asI, w_if, w_truB, List.getElem?_cons_zero, List.getElem?_cons_succ, List.set_cons_zero, List.set_cons_succ, f_sizes, f_parts, f_ticks, f_live, f_skips]
  rw [w_mkT (by simp)]
  exact ⟨rfl, by trivial⟩
/-- a text tells its program -/
theorem txt_inj (kP : Ks) {p q : Prg} (hp : OkPrg p) (hq : OkPrg q) : txt p = txt q ↔ prgV p = prgV q := by
  constructor
  · intro e
    obtain ⟨d, g', e1, h1⟩ := (parse_wp (cP := 0) (kP := kP) (g := []) (P := fun d _ => d = progD 0 p) hp fun _ _ => rfl).out
    obtain ⟨d2, g2, e2, h2⟩ := (parse_wp (cP := 0) (kP := kP) (g := []) (P := fun d _ => d = progD 0 q) hq fun _ _ => rfl).out
    rw [e, e2] at e1
    injection e1 with e3 e4
    rw [h1, h2] at e3
    exact (D.ins.inj e3).2.2.symm
  · intro e
    have ep : progD 0 p = progD 0 q := by unfold progD; rw [e]
    obtain ⟨d, g', e1, h1⟩ := (write_wp (cP := 0) (kP := kP) (g := []) (P := fun d _ => d = .str (txt p)) hp fun _ _ => rfl).out
    obtain ⟨d2, g2, e2, h2⟩ := (write_wp (cP := 0) (kP := kP) (g := []) (P := fun d _ => d = .str (txt q)) hq fun _ _ => rfl).out
    rw [ep, e2] at e1
    injection e1 with e3 e4
    rw [h1, h2] at e3
    exact (D.str.inj e3).symm
theorem law_core {scr : D} {G0 : GS} {ns : List Int} (hL : ∀ Pd, okM (listD [scr] G0) Pd ↔ Pd (.ref G0.length) (G0 ++ [.lst (ns.map D.int)])) : okM (F_law cP kP [scr] G0) (fun d _ => d = .bl true) := by
  refine okM.mono (fn_wp (P := fun d _ => d = .bl true) rfl ?_) fun _ _ h => h
  show okS (m_law cP kP [some scr, none, none, none, none, none, none] G0) _ _ _ _
  unfold m_law
  rw [v_seq]
  simp only [v_asg, v_if, v_ret, v_drop, v_for, v_skip, w_bnd, w_pur, x_get, w_tgN, w_subG, w_asB, w_asI, w_if, w_truB, List.getElem?_cons_zero, List.getElem?_cons_succ, List.set_cons_zero, List.set_cons_succ, hL]
  rw [w_mkL (by simp), v_seq]
  simp only [v_asg, v_if, v_ret, v_drop, v_for, v_skip, w_bnd, w_pur, x_get, w_tgN, w_subG, w_asB, w_asI, w_if, w_truB, List.getElem?_cons_zero, List.getElem?_cons_succ, List.set_cons_zero, List.set_cons_succ]
  have d0 : Drw G0.length (G0.length + 1) ((G0 ++ [Cell.lst (ns.map D.int)]) ++ [.lst [.ref G0.length, .int 0, .int 1]]) := ⟨ns, 0, 1, by simp, by rw [List.getElem?_append_right (by simp)]; simp, by omega, by decide, by decide⟩
  have el : (G0 ++ [Cell.lst (ns.map D.int)]).length = G0.length + 1 := by simp
  rw [el]
  generalize G0.length = i at d0 ⊢
  generalize hj : i + 1 = j at d0 ⊢
  refine data_go d0 fun p g1 n hp go1 hn => ?_
  have ni : n ≠ i := fun z => by
    obtain ⟨_, _, _, d⟩ := go1.d
    rw [z, d.hi] at hn; cases hn
  have nj : n ≠ j := fun z => by
    obtain ⟨_, _, _, d⟩ := go1.d
    rw [z, d.hj] at hn; cases hn
  have dup : ∀ {g g' : GS}, Drw i j g → g <+: g' → Drw i j g' := fun h p => by
    obtain ⟨ex, rfl⟩ := p
    exact h.app ex
  have plt : ∀ q, OkPrg q → (D.str (txt q)).pl 0 = true := fun q hq => by simpa [D.pl] using txt_ok hq
  rw [v_seq]
  simp only [v_asg, v_if, v_ret, v_drop, v_for, v_skip, w_bnd, w_pur, x_get, w_tgN, w_subG, w_asB, w_asI, w_if, w_truB, List.getElem?_cons_zero, List.getElem?_cons_succ, List.set_cons_zero, List.set_cons_succ, made_eq hp hn, ok_iff]
  rw [v_seq]
  simp only [v_asg, v_if, v_ret, v_drop, v_for, v_skip, w_bnd, w_pur, x_get, w_tgN, w_subG, w_asB, w_asI, w_if, w_truB, List.getElem?_cons_zero, List.getElem?_cons_succ, List.set_cons_zero, List.set_cons_succ]
  refine lawlines_wp hp hn fun g2 m p2 hm _ => ?_
  refine lawtext_wp hp hm fun g3 p3 => ?_
  rw [v_seq]
  simp only [v_asg, v_if, v_ret, v_drop, v_for, v_skip, w_bnd, w_pur, x_get, w_tgN, w_subG, w_asB, w_asI, w_if, w_truB, List.getElem?_cons_zero, List.getElem?_cons_succ, List.set_cons_zero, List.set_cons_succ]
  refine parse_wp hp fun g4 p4 => ?_
  refine write_wp hp fun g5 p5 => ?_
  refine parse_wp hp fun g6 p6 => ?_
  rw [w_mkL (by simp)]
  have hc0 : (g6 ++ [Cell.lst [progD cP p, progD cP p]])[g6.length]? = some (.lst [progD cP p, progD cP p]) := List.getElem?_concat_length
  have p7 : g1 <+: g6 ++ [Cell.lst [progD cP p, progD cP p]] := ((((p2.trans p3).trans p4).trans p5).trans p6).trans (List.prefix_append _ _)
  have hd7 := dup go1.d p7
  have hn7 := pre_get p7 hn
  generalize g6.length = c at hc0 ⊢
  generalize g6 ++ [Cell.lst [progD cP p, progD cP p]] = g7 at hc0 hd7 hn7 ⊢
  simp only [x_seqR, hc0]
  refine loop_wp (fun _ s g => ∃ v5, s = [some scr, some (.ref j), some (.ref n), some (progD cP p), some (.str (txt p)), v5, none] ∧ Drw i j g ∧ g[n]? = some (.dic (prgK p)) ∧ g[c]? = some (.lst [progD cP p, progD cP p])) _ ⟨none, rfl, hd7, hn7, hc0⟩ (fun _ _ g _ z => by obtain ⟨_, _, _, _, h⟩ := z; exact h) ?_ ?_
  · rintro q x s g hx ⟨v5, rfl, hd, hn, hc⟩
    have ex : x = progD cP p := by
      match q, hx with
      | 0, hx => exact (Option.some.inj hx).symm
      | 1, hx => exact (Option.some.inj hx).symm
      | q + 2, hx => simp at hx
    subst ex
    rw [w_tgN, v_seq]
    have isn : ∀ {g : GS} {P : D → GS → Prop}, okM (isND cP [progD cP p, .cls cP] g) P ↔ P (.bl true) g := w_isND
    simp only [v_asg, v_if, v_ret, v_drop, v_for, v_skip, w_bnd, w_pur, x_get, w_tgN, w_subG, w_asB, w_asI, w_if, w_truB, List.getElem?_cons_zero, List.getElem?_cons_succ, List.set_cons_zero, List.set_cons_succ, isn, Bool.not_true, Bool.false_eq_true, if_false, all_eq, ok_iff]
    rw [w_ne (n := 5) (by decide) (show (D.tup (prgV p)).pl 5 = true from plL_prg p) (show (D.tup (prgV p)).pl 5 = true from plL_prg p), decide_eq_true rfl, w_asB, if_neg (by decide)]
    try simp only [v_asg, v_if, v_ret, v_drop, v_for, v_skip, w_bnd, w_pur, x_get, w_tgN, w_subG, w_asB, w_asI, w_if, w_truB, List.getElem?_cons_zero, List.getElem?_cons_succ, List.set_cons_zero, List.set_cons_succ]
    refine write_wp hp fun g8 p8 => ?_
    rw [w_ne (n := 0) (by decide) (plt p hp) (plt p hp), decide_eq_true rfl, w_asB, if_neg (by decide)]
    try simp only [v_asg, v_if, v_ret, v_drop, v_for, v_skip, w_bnd, w_pur, x_get, w_tgN, w_subG, w_asB, w_asI, w_if, w_truB, List.getElem?_cons_zero, List.getElem?_cons_succ, List.set_cons_zero, List.set_cons_succ]
    exact ⟨_, rfl, dup hd p8, pre_get p8 hn, pre_get p8 hc⟩
  · rintro s g ⟨v5, rfl, hd, hn, hc⟩
    rw [v_seq]
    simp only [v_asg, v_if, v_ret, v_drop, v_for, v_skip, w_bnd, w_pur, x_get, w_tgN, w_subG, w_asB, w_asI, w_if, w_truB, List.getElem?_cons_zero, List.getElem?_cons_succ, List.set_cons_zero, List.set_cons_succ]
    refine other_wp hd hp hn ni nj fun q g8 m hq go8 hm => ?_
    have hn8 : g8[n]? = some (.dic (prgK p)) := by rw [go8.k.get n (List.getElem?_eq_some_iff.mp hn).1 ni nj]; exact hn
    rw [v_seq]
    simp only [v_asg, v_if, v_ret, v_drop, v_for, v_skip, w_bnd, w_pur, x_get, w_tgN, w_subG, w_asB, w_asI, w_if, w_truB, List.getElem?_cons_zero, List.getElem?_cons_succ, List.set_cons_zero, List.set_cons_succ, made_eq hq hm, ok_iff]
    refine write_wp hq fun g9 p9 => ?_
    refine write_wp hp fun g10 p10 => ?_
    rw [w_eq (n := 0) (by decide) (plt q hq) (plt p hp)]
    rw [eq_prg (pre_get (p9.trans p10) hm) (pre_get (p9.trans p10) hn8)]
    have e : decide (D.str (txt q) = D.str (txt p)) = decide (prgV q = prgV p) := decide_eq_decide.mpr ⟨fun h => (txt_inj kP hq hp).mp (D.str.inj h), fun h => by rw [(txt_inj kP hq hp).mpr h]⟩
    rw [e, eq_bl]
    exact ⟨rfl, rfl⟩
end
end K14
namespace K14
open PySem PySem.Spec PyProof.Rows L2 DL
def d__line : He.DefD := ⟨(("_line" : Str), none), ("_line" : Str), ("_line" : Str), defArgs s__line, defBody s__line, defScope s__line, [], []⟩
def d__changes_line : He.DefD := ⟨(("_changes_line" : Str), none), ("_changes_line" : Str), ("_changes_line" : Str), defArgs s__changes_line, defBody s__changes_line, defScope s__changes_line, [], []⟩
def d__shown_line : He.DefD := ⟨(("_shown_line" : Str), none), ("_shown_line" : Str), ("_shown_line" : Str), defArgs s__shown_line, defBody s__shown_line, defScope s__shown_line, [], []⟩
def d__part_lines : He.DefD := ⟨(("_part_lines" : Str), none), ("_part_lines" : Str), ("_part_lines" : Str), defArgs s__part_lines, defBody s__part_lines, defScope s__part_lines, [], []⟩
def d_write_program : He.DefD := ⟨(("write_program" : Str), none), ("write_program" : Str), ("write_program" : Str), defArgs s_write_program, defBody s_write_program, defScope s_write_program, [], []⟩
def d__is_number : He.DefD := ⟨(("_is_number" : Str), none), ("_is_number" : Str), ("_is_number" : Str), defArgs s__is_number, defBody s__is_number, defScope s__is_number, [], []⟩
def d_are_indexes : He.DefD := ⟨(("are_indexes" : Str), none), ("are_indexes" : Str), ("are_indexes" : Str), defArgs s_are_indexes, defBody s_are_indexes, defScope s_are_indexes, [], []⟩
def d__is_change : He.DefD := ⟨(("_is_change" : Str), none), ("_is_change" : Str), ("_is_change" : Str), defArgs s__is_change, defBody s__is_change, defScope s__is_change, [], []⟩
def d_are_changes : He.DefD := ⟨(("are_changes" : Str), none), ("are_changes" : Str), ("are_changes" : Str), defArgs s_are_changes, defBody s_are_changes, defScope s_are_changes, [], []⟩
def d__are_ticks : He.DefD := ⟨(("_are_ticks" : Str), none), ("_are_ticks" : Str), ("_are_ticks" : Str), defArgs s__are_ticks, defBody s__are_ticks, defScope s__are_ticks, [], []⟩
def d_is_shown : He.DefD := ⟨(("is_shown" : Str), none), ("is_shown" : Str), ("is_shown" : Str), defArgs s_is_shown, defBody s_is_shown, defScope s_is_shown, [], []⟩
def d__is_part : He.DefD := ⟨(("_is_part" : Str), none), ("_is_part" : Str), ("_is_part" : Str), defArgs s__is_part, defBody s__is_part, defScope s__is_part, [], []⟩
def d__are_parts : He.DefD := ⟨(("_are_parts" : Str), none), ("_are_parts" : Str), ("_are_parts" : Str), defArgs s__are_parts, defBody s__are_parts, defScope s__are_parts, [], []⟩
def d_are_sizes : He.DefD := ⟨(("are_sizes" : Str), none), ("are_sizes" : Str), ("are_sizes" : Str), defArgs s_are_sizes, defBody s_are_sizes, defScope s_are_sizes, [], []⟩
def d_init : He.DefD := ⟨(("Program" : Str), some "__init__"), "__init__", ("Program.__init__" : Str), defArgs s_init, defBody s_init, defScope s_init, [], []⟩
def d__law_made : He.DefD := ⟨(("_law_made" : Str), none), ("_law_made" : Str), ("_law_made" : Str), defArgs s__law_made, defBody s__law_made, defScope s__law_made, [], []⟩
def d__law_next : He.DefD := ⟨(("_law_next" : Str), none), ("_law_next" : Str), ("_law_next" : Str), defArgs s__law_next, defBody s__law_next, defScope s__law_next, [], []⟩
def d__law_changes : He.DefD := ⟨(("_law_changes" : Str), none), ("_law_changes" : Str), ("_law_changes" : Str), defArgs s__law_changes, defBody s__law_changes, defScope s__law_changes, [], []⟩
def d__law_pair : He.DefD := ⟨(("_law_pair" : Str), none), ("_law_pair" : Str), ("_law_pair" : Str), defArgs s__law_pair, defBody s__law_pair, defScope s__law_pair, [], []⟩
def d__law_data : He.DefD := ⟨(("_law_data" : Str), none), ("_law_data" : Str), ("_law_data" : Str), defArgs s__law_data, defBody s__law_data, defScope s__law_data, [], []⟩
def d__law_other : He.DefD := ⟨(("_law_other" : Str), none), ("_law_other" : Str), ("_law_other" : Str), defArgs s__law_other, defBody s__law_other, defScope s__law_other, [], []⟩
def d_Lines_finish : He.DefD := ⟨(("Lines" : Str), some ("finish" : Str)), ("finish" : Str), (("Lines.finish" : Str)), defArgs s_Lines_finish, defBody s_Lines_finish, defScope s_Lines_finish, [], []⟩
def d_Lines_words : He.DefD := ⟨(("Lines" : Str), some ("words" : Str)), ("words" : Str), (("Lines.words" : Str)), defArgs s_Lines_words, defBody s_Lines_words, defScope s_Lines_words, [], []⟩
def d_Lines_take : He.DefD := ⟨(("Lines" : Str), some ("take" : Str)), ("take" : Str), (("Lines.take" : Str)), defArgs s_Lines_take, defBody s_Lines_take, defScope s_Lines_take, [], []⟩
def d_Lines_sees : He.DefD := ⟨(("Lines" : Str), some ("sees" : Str)), ("sees" : Str), (("Lines.sees" : Str)), defArgs s_Lines_sees, defBody s_Lines_sees, defScope s_Lines_sees, [], []⟩
def d__take_indexes : He.DefD := ⟨(("_take_indexes" : Str), none), ("_take_indexes" : Str), ("_take_indexes" : Str), defArgs s__take_indexes, defBody s__take_indexes, defScope s__take_indexes, [], []⟩
def d__take_changes : He.DefD := ⟨(("_take_changes" : Str), none), ("_take_changes" : Str), ("_take_changes" : Str), defArgs s__take_changes, defBody s__take_changes, defScope s__take_changes, [], []⟩
def d__take_shown : He.DefD := ⟨(("_take_shown" : Str), none), ("_take_shown" : Str), ("_take_shown" : Str), defArgs s__take_shown, defBody s__take_shown, defScope s__take_shown, [], []⟩
def d__take_part : He.DefD := ⟨(("_take_part" : Str), none), ("_take_part" : Str), ("_take_part" : Str), defArgs s__take_part, defBody s__take_part, defScope s__take_part, [], []⟩
def d__take_sizes : He.DefD := ⟨(("_take_sizes" : Str), none), ("_take_sizes" : Str), ("_take_sizes" : Str), defArgs s__take_sizes, defBody s__take_sizes, defScope s__take_sizes, [], []⟩
def d_Lines_init : He.DefD := ⟨(("Lines" : Str), some ("__init__" : Str)), ("__init__" : Str), (("Lines.__init__" : Str)), defArgs s_Lines_init, defBody s_Lines_init, defScope s_Lines_init, [], []⟩
def d_parse_program : He.DefD := ⟨(("parse_program" : Str), none), ("parse_program" : Str), ("parse_program" : Str), defArgs s_parse_program, defBody s_parse_program, defScope s_parse_program, [], []⟩
def d__law_all : He.DefD := ⟨(("_law_all" : Str), none), ("_law_all" : Str), ("_law_all" : Str), defArgs s__law_all, defBody s__law_all, defScope s__law_all, [], []⟩
def d__law_text : He.DefD := ⟨(("_law_text" : Str), none), ("_law_text" : Str), ("_law_text" : Str), defArgs s__law_text, defBody s__law_text, defScope s__law_text, [], []⟩
def d__law_line : He.DefD := ⟨(("_law_line" : Str), none), ("_law_line" : Str), ("_law_line" : Str), defArgs s__law_line, defBody s__law_line, defScope s__law_line, [], []⟩
def d__law_flat : He.DefD := ⟨(("_law_flat" : Str), none), ("_law_flat" : Str), ("_law_flat" : Str), defArgs s__law_flat, defBody s__law_flat, defScope s__law_flat, [], []⟩
def d__law_lines : He.DefD := ⟨(("_law_lines" : Str), none), ("_law_lines" : Str), ("_law_lines" : Str), defArgs s__law_lines, defBody s__law_lines, defScope s__law_lines, [], []⟩
def d_law : He.DefD := ⟨(("law" : Str), none), ("law" : Str), ("law" : Str), defArgs s_law, defBody s_law, defScope s_law, [], []⟩
def fns : List He.DefD := [d__line, d__changes_line, d__shown_line, d__part_lines, d_write_program, d__is_number, d_are_indexes, d__is_change, d_are_changes, d__are_ticks, d_is_shown, d__is_part, d__are_parts, d_are_sizes, d_init, d__law_made, d__law_next, d__law_changes, d__law_pair, d__law_data, d__law_other, d_Lines_finish, d_Lines_words, d_Lines_take, d_Lines_sees, d__take_indexes, d__take_changes, d__take_shown, d__take_part, d__take_sizes, d_Lines_init, d_parse_program, d__law_all, d__law_text, d__law_line, d__law_flat, d__law_lines, d_law]
def fas0 : List He.Fa := [.glo ("_line" : Str), .glo ("_changes_line" : Str), .glo ("_shown_line" : Str), .glo ("_part_lines" : Str), .glo ("write_program" : Str), .glo ("_is_number" : Str), .glo ("are_indexes" : Str), .glo ("_is_change" : Str), .glo ("are_changes" : Str), .glo ("_are_ticks" : Str), .glo ("is_shown" : Str), .glo ("_is_part" : Str), .glo ("_are_parts" : Str), .glo ("are_sizes" : Str), .glo ("_law_made" : Str), .glo ("_law_next" : Str), .glo ("_law_changes" : Str), .glo ("_law_pair" : Str), .glo ("_law_data" : Str), .glo ("_law_other" : Str)]
def fas1 : List He.Fa := [.glo ("_take_indexes" : Str), .glo ("_take_changes" : Str), .glo ("_take_shown" : Str), .glo ("_take_part" : Str), .glo ("_take_sizes" : Str), .glo ("parse_program" : Str), .glo ("_law_all" : Str), .glo ("_law_text" : Str), .glo ("_law_line" : Str), .glo ("_law_flat" : Str), .glo ("_law_lines" : Str), .glo ("law" : Str), .free ("all" : Str), .free ("any" : Str), .free ("bool" : Str), .free ("dict" : Str), .free ("int" : Str), .free ("isinstance" : Str), .free ("len" : Str), .free ("list" : Str)]
def fas2 : List He.Fa := [.free ("range" : Str), .free ("str" : Str), .free ("tuple" : Str), .glo ("NUMBERS" : Str), .int ("MOST_PARTS" : Str) 4, .int ("MOST_TICKS" : Str) 2, .glo ("Program" : Str), .cls ("Program" : Str), .mkr ("Program" : Str), .noat ("Program" : Str) ("live" : Str), .noat ("Program" : Str) ("parts" : Str), .noat ("Program" : Str) ("sizes" : Str), .noat ("Program" : Str) ("skips" : Str), .noat ("Program" : Str) ("ticks" : Str), .glo ("Lines" : Str), .cls ("Lines" : Str), .mkr ("Lines" : Str), .noat ("Lines" : Str) ("rows" : Str), .noat ("Lines" : Str) ("tail" : Str), .noat ("Lines" : Str) ("taken" : Str)]
def fas3 : List He.Fa := [.meth ("Lines" : Str) ("finish" : Str), .meth ("Lines" : Str) ("words" : Str), .meth ("Lines" : Str) ("take" : Str), .meth ("Lines" : Str) ("sees" : Str)]
def fas : List He.Fa := fas0 ++ fas1 ++ fas2 ++ fas3
def tds : List He.Tab := [(fun K => He.ga K ("NUMBERS" : Str), [("0" : Str), ("1" : Str), ("2" : Str), ("3" : Str), ("4" : Str), ("5" : Str), ("6" : Str), ("7" : Str), ("8" : Str), ("9" : Str)])]
def tfs : List He.Defn := [(("are_changes" : Str), none), (("_are_ticks" : Str), none), (("is_shown" : Str), none), (("_are_parts" : Str), none), (("are_sizes" : Str), none), (("Lines" : Str), some ("take" : Str))]
def exB (K : PySem.W.Frag) : Bool := dictKB K (He.ga K ("NUMBERS" : Str)) ([(("0" : Str), .int 0), (("1" : Str), .int 1), (("2" : Str), .int 2), (("3" : Str), .int 3), (("4" : Str), .int 4), (("5" : Str), .int 5), (("6" : Str), .int 6), (("7" : Str), .int 7), (("8" : Str), .int 8), (("9" : Str), .int 9)] : List (Str × D)) && (insFB K (He.ga K ("Program" : Str)))
abbrev R : PySem.W.OpenRow := PySem.W.OpenLaw.row PySem.Challenge.rw_twoknowers_k14_whole_texts_come_back
def cells : List Nat := [3, 6, 4, 31, 44, 56, 79, 90, 97, 104, 111, 118, 125, 132, 139, 146, 147, 152, 157, 164, 171, 176, 219, 230, 237, 244, 251, 256, 263, 270, 275, 280, 285, 292, 299, 306, 313, 318, 325, 332, 339, 0, 30, 43, 55, 78, 89, 96, 103, 110, 117, 124, 131, 138, 145, 151, 156, 163, 170, 175, 218, 229, 236, 243, 250, 255, 262, 269, 274, 279, 284, 291, 298, 305, 312, 317, 324, 331, 338, 28, 29, 32, 42, 54, 76, 77, 80, 81, 84, 85, 86, 87, 88, 91, 92, 93, 94, 95, 98, 99, 100, 101, 102, 105, 106, 107, 108, 109, 112, 113, 114, 115, 116, 119, 120, 121, 122, 123, 126, 127, 128, 129, 130, 133, 134, 135, 136, 137, 140, 141, 142, 143, 144, 148, 149, 150, 153, 154, 155, 158, 159, 160, 161, 162, 165, 166, 167, 168, 169, 172, 173, 174, 190, 197, 204, 209, 216, 217, 220, 221, 224, 225, 226, 227, 228, 231, 232, 233, 234, 235, 238, 239, 240, 241, 242, 245, 246, 247, 248, 249, 252, 253, 254, 257, 258, 259, 260, 261, 264, 265, 266, 267, 268, 271, 272, 273, 276, 277, 278, 281, 282, 283, 286, 287, 288, 289, 290, 293, 294, 295, 296, 297, 300, 301, 302, 303, 304, 307, 308, 309, 310, 311, 314, 315, 316, 319, 320, 321, 322, 323, 326, 327, 328, 329, 330, 333, 334, 335, 336, 337, 27, 75, 69, 189, 196, 203, 208, 215]
abbrev hk : PySem.W.Hook := DL.hookA cells fas fns tds tfs exB
def ob (s : PySem.W.SharedT) : He.AlX := DL.obsA cells fas fns tds tfs exB (HandSHeadRun.getT s)
theorem ob_eq (s : PySem.W.SharedT) : ob s = hk.obs s.abs := DL.obsA_eq cells fas fns tds tfs exB (HandSHeadRun.getT_eq s)
def nms0 : List Str := [("KnowError" : Str), ("BadProgram" : Str), ("BadLine" : Str), ("MOST_PARTS" : Str), ("MOST_TICKS" : Str), ("Program" : Str), ("_is_number" : Str), ("are_sizes" : Str), ("_are_parts" : Str), ("_is_part" : Str), ("is_shown" : Str), ("are_changes" : Str), ("_is_change" : Str), ("_are_ticks" : Str), ("are_indexes" : Str), ("NUMBERS" : Str), ("write_program" : Str), ("_line" : Str), ("_part_lines" : Str), ("_shown_line" : Str)]
def nms1 : List Str := [("_changes_line" : Str), ("Lines" : Str), ("parse_program" : Str), ("_take_sizes" : Str), ("_take_part" : Str), ("_take_shown" : Str), ("_take_changes" : Str), ("_take_indexes" : Str), ("_law_next" : Str), ("_law_changes" : Str), ("_law_pair" : Str), ("_law_data" : Str), ("_law_made" : Str), ("_law_line" : Str), ("_law_flat" : Str), ("_law_lines" : Str), ("_law_text" : Str), ("_law_all" : Str), ("_law_other" : Str)]
abbrev nms : List Str := nms0 ++ nms1
noncomputable abbrev rEnd (w : World) (os : OsState) := HandSHeadRun.endF (HandSHeadRun.stepQ (HandSHeadRun.denQ HandSHeadRun.tabQ) R.prog w) 9000 R.prog w os
theorem map3 {α β γ δ : Type} {f : α → β} {g : α → γ} {h : α → δ} {x : Option α} {b : β} {c : γ} {d : δ} (h1 : Option.map (fun s => (f s, g s)) x = some (b, c)) (h2 : Option.map (fun s => h s) x = some d) : Option.map (fun s => (f s, g s, h s)) x = some (b, c, d) := by
  cases x with
  | none => cases h1
  | some s =>
    simp only [Option.map_some, Option.some.injEq, Prod.mk.injEq] at h1 h2 ⊢
    exact ⟨h1.1, h1.2, h2⟩
theorem runG0 (w : World) : ∀ os : OsState, Option.map (fun s => (HandSHeadRun.looksF R.prog (PySem.W.boot_heap (w.withFollow "special-get-raises" false).params) s.abs, HandSHeadRun.seenQ (PySem.W.view R.prog [43]) nms (importedModules R.prog.main.body) (fun s => PySem.W.xlAt (PySem.W.view R.prog [43]) [] s && PySem.W.recOk R.records s) s.abs)) (rEnd (w.withFollow "special-get-raises" false) os) = some (true, PySem.W.openGood (PySem.W.view R.prog [43]) nms) := by
  intro os
  kernel_rfl
theorem runO0 (w : World) : ∀ os : OsState, Option.map (fun s => ob s) (rEnd (w.withFollow "special-get-raises" false) os) = some (hk.val (w.withFollow "special-get-raises" false)) := by
  intro os
  kernel_rfl
theorem run0 (w : World) : HandSHeadRun.RunEq R (PySem.W.view R.prog [43]) hk ob 9000 nms (w.withFollow "special-get-raises" false) := fun os => map3 (runG0 w os) (runO0 w os)
theorem runG1 (w : World) : ∀ os : OsState, Option.map (fun s => (HandSHeadRun.looksF R.prog (PySem.W.boot_heap (w.withFollow "special-get-raises" true).params) s.abs, HandSHeadRun.seenQ (PySem.W.view R.prog [43]) nms (importedModules R.prog.main.body) (fun s => PySem.W.xlAt (PySem.W.view R.prog [43]) [] s && PySem.W.recOk R.records s) s.abs)) (rEnd (w.withFollow "special-get-raises" true) os) = some (true, PySem.W.openGood (PySem.W.view R.prog [43]) nms) := by
  intro os
  kernel_rfl
theorem runO1 (w : World) : ∀ os : OsState, Option.map (fun s => ob s) (rEnd (w.withFollow "special-get-raises" true) os) = some (hk.val (w.withFollow "special-get-raises" true)) := by
  intro os
  kernel_rfl
theorem run1 (w : World) : HandSHeadRun.RunEq R (PySem.W.view R.prog [43]) hk ob 9000 nms (w.withFollow "special-get-raises" true) := fun os => map3 (runG1 w os) (runO1 w os)
theorem run (w : World) : HandSHeadRun.RunEq R (PySem.W.view R.prog [43]) hk ob 9000 nms w := PySem.W.byRow2 "special-get-raises" (P := fun w => HandSHeadRun.RunEq R (PySem.W.view R.prog [43]) hk ob 9000 nms w) run0 run1 w
theorem facts {P : Program} {w : World} {K : PySem.W.Frag} {h base : Heap} {mg : Str → Option Value} (X : K.In h) (G : h.Ns mainGlobals mg) (c : He.SaysX fas fns tds tfs exB w h K) (tb : ∀ p ∈ tfs, GxR.TabB base mg (He.cT K p).1 (He.cT K p).2) : Fx P w K mg base where
  c_MOST_PARTS := He.int_ok X G (c.t.d.fact 44 (f := .int ("MOST_PARTS" : Str) 4) rfl)
  c_MOST_TICKS := He.int_ok X G (c.t.d.fact 45 (f := .int ("MOST_TICKS" : Str) 2) rfl)
  g_all := He.free_ok X G (c.t.d.fact 32 (f := .free ("all" : Str)) rfl)
  g_any := He.free_ok X G (c.t.d.fact 33 (f := .free ("any" : Str)) rfl)
  g_bool := He.free_ok X G (c.t.d.fact 34 (f := .free ("bool" : Str)) rfl)
  g_dict := He.free_ok X G (c.t.d.fact 35 (f := .free ("dict" : Str)) rfl)
  g_int := He.free_ok X G (c.t.d.fact 36 (f := .free ("int" : Str)) rfl)
  g_isinstance := He.free_ok X G (c.t.d.fact 37 (f := .free ("isinstance" : Str)) rfl)
  g_len := He.free_ok X G (c.t.d.fact 38 (f := .free ("len" : Str)) rfl)
  g_list := He.free_ok X G (c.t.d.fact 39 (f := .free ("list" : Str)) rfl)
  g_range := He.free_ok X G (c.t.d.fact 40 (f := .free ("range" : Str)) rfl)
  g_str := He.free_ok X G (c.t.d.fact 41 (f := .free ("str" : Str)) rfl)
  g_tuple := He.free_ok X G (c.t.d.fact 42 (f := .free ("tuple" : Str)) rfl)
  cls := He.cls_ok (c.t.d.fact 47 (f := .cls ("Program" : Str)) rfl)
  g_Program := He.glo_ok X G (c.t.d.fact 46 (f := .glo ("Program" : Str)) rfl)
  mkC := He.mkr_ok (c.t.d.fact 48 (f := .mkr ("Program" : Str)) rfl)
  no_live := He.noat_ok (c.t.d.fact 49 (f := .noat ("Program" : Str) ("live" : Str)) rfl)
  no_parts := He.noat_ok (c.t.d.fact 50 (f := .noat ("Program" : Str) ("parts" : Str)) rfl)
  no_sizes := He.noat_ok (c.t.d.fact 51 (f := .noat ("Program" : Str) ("sizes" : Str)) rfl)
  no_skips := He.noat_ok (c.t.d.fact 52 (f := .noat ("Program" : Str) ("skips" : Str)) rfl)
  no_ticks := He.noat_ok (c.t.d.fact 53 (f := .noat ("Program" : Str) ("ticks" : Str)) rfl)
  no_all := by
    intro f hf
    simp only [List.mem_cons, List.not_mem_nil, or_false] at hf
    rcases hf with rfl | rfl | rfl | rfl | rfl
    · exact He.noat_ok (c.t.d.fact 51 (f := .noat ("Program" : Str) ("sizes" : Str)) rfl)
    · exact He.noat_ok (c.t.d.fact 50 (f := .noat ("Program" : Str) ("parts" : Str)) rfl)
    · exact He.noat_ok (c.t.d.fact 53 (f := .noat ("Program" : Str) ("ticks" : Str)) rfl)
    · exact He.noat_ok (c.t.d.fact 49 (f := .noat ("Program" : Str) ("live" : Str)) rfl)
    · exact He.noat_ok (c.t.d.fact 52 (f := .noat ("Program" : Str) ("skips" : Str)) rfl)
  g_NUMBERS := He.glo_ok X G (c.t.d.fact 43 (f := .glo ("NUMBERS" : Str)) rfl)
  kd_NUMBERS := c.t.tab 0 rfl
  kb_NUMBERS := (Bool.and_eq_true_iff.mp c.more).1
  isI_C := (Bool.and_eq_true_iff.mp c.more).2
  g_Lines := He.glo_ok X G (c.t.d.fact 54 (f := .glo ("Lines" : Str)) rfl)
  cls_Lines := He.cls_ok (c.t.d.fact 55 (f := .cls ("Lines" : Str)) rfl)
  mk_Lines := He.mkr_ok (c.t.d.fact 56 (f := .mkr ("Lines" : Str)) rfl)
  no_Lines_rows := He.noat_ok (c.t.d.fact 57 (f := .noat ("Lines" : Str) ("rows" : Str)) rfl)
  no_Lines_tail := He.noat_ok (c.t.d.fact 58 (f := .noat ("Lines" : Str) ("tail" : Str)) rfl)
  no_Lines_taken := He.noat_ok (c.t.d.fact 59 (f := .noat ("Lines" : Str) ("taken" : Str)) rfl)
  me_Lines_finish := He.meth_ok (c.t.d.fact 60 (f := .meth ("Lines" : Str) ("finish" : Str)) rfl)
  me_Lines_words := He.meth_ok (c.t.d.fact 61 (f := .meth ("Lines" : Str) ("words" : Str)) rfl)
  me_Lines_take := He.meth_ok (c.t.d.fact 62 (f := .meth ("Lines" : Str) ("take" : Str)) rfl)
  me_Lines_sees := He.meth_ok (c.t.d.fact 63 (f := .meth ("Lines" : Str) ("sees" : Str)) rfl)
  g__line := He.glo_ok X G (c.t.d.fact 0 (f := .glo ("_line" : Str)) rfl)
  f__line := c.t.d.def_ 0 (d := d__line) rfl
  g__changes_line := He.glo_ok X G (c.t.d.fact 1 (f := .glo ("_changes_line" : Str)) rfl)
  f__changes_line := c.t.d.def_ 1 (d := d__changes_line) rfl
  g__shown_line := He.glo_ok X G (c.t.d.fact 2 (f := .glo ("_shown_line" : Str)) rfl)
  f__shown_line := c.t.d.def_ 2 (d := d__shown_line) rfl
  g__part_lines := He.glo_ok X G (c.t.d.fact 3 (f := .glo ("_part_lines" : Str)) rfl)
  f__part_lines := c.t.d.def_ 3 (d := d__part_lines) rfl
  g_write_program := He.glo_ok X G (c.t.d.fact 4 (f := .glo ("write_program" : Str)) rfl)
  f_write_program := c.t.d.def_ 4 (d := d_write_program) rfl
  g__is_number := He.glo_ok X G (c.t.d.fact 5 (f := .glo ("_is_number" : Str)) rfl)
  f__is_number := c.t.d.def_ 5 (d := d__is_number) rfl
  g_are_indexes := He.glo_ok X G (c.t.d.fact 6 (f := .glo ("are_indexes" : Str)) rfl)
  f_are_indexes := c.t.d.def_ 6 (d := d_are_indexes) rfl
  g__is_change := He.glo_ok X G (c.t.d.fact 7 (f := .glo ("_is_change" : Str)) rfl)
  f__is_change := c.t.d.def_ 7 (d := d__is_change) rfl
  g_are_changes := He.glo_ok X G (c.t.d.fact 8 (f := .glo ("are_changes" : Str)) rfl)
  f_are_changes := c.t.d.def_ 8 (d := d_are_changes) rfl
  g__are_ticks := He.glo_ok X G (c.t.d.fact 9 (f := .glo ("_are_ticks" : Str)) rfl)
  f__are_ticks := c.t.d.def_ 9 (d := d__are_ticks) rfl
  g_is_shown := He.glo_ok X G (c.t.d.fact 10 (f := .glo ("is_shown" : Str)) rfl)
  f_is_shown := c.t.d.def_ 10 (d := d_is_shown) rfl
  g__is_part := He.glo_ok X G (c.t.d.fact 11 (f := .glo ("_is_part" : Str)) rfl)
  f__is_part := c.t.d.def_ 11 (d := d__is_part) rfl
  g__are_parts := He.glo_ok X G (c.t.d.fact 12 (f := .glo ("_are_parts" : Str)) rfl)
  f__are_parts := c.t.d.def_ 12 (d := d__are_parts) rfl
  g_are_sizes := He.glo_ok X G (c.t.d.fact 13 (f := .glo ("are_sizes" : Str)) rfl)
  f_are_sizes := c.t.d.def_ 13 (d := d_are_sizes) rfl
  f_init := c.t.d.def_ 14 (d := d_init) rfl
  g__law_made := He.glo_ok X G (c.t.d.fact 14 (f := .glo ("_law_made" : Str)) rfl)
  f__law_made := c.t.d.def_ 15 (d := d__law_made) rfl
  g__law_next := He.glo_ok X G (c.t.d.fact 15 (f := .glo ("_law_next" : Str)) rfl)
  f__law_next := c.t.d.def_ 16 (d := d__law_next) rfl
  g__law_changes := He.glo_ok X G (c.t.d.fact 16 (f := .glo ("_law_changes" : Str)) rfl)
  f__law_changes := c.t.d.def_ 17 (d := d__law_changes) rfl
  g__law_pair := He.glo_ok X G (c.t.d.fact 17 (f := .glo ("_law_pair" : Str)) rfl)
  f__law_pair := c.t.d.def_ 18 (d := d__law_pair) rfl
  g__law_data := He.glo_ok X G (c.t.d.fact 18 (f := .glo ("_law_data" : Str)) rfl)
  f__law_data := c.t.d.def_ 19 (d := d__law_data) rfl
  g__law_other := He.glo_ok X G (c.t.d.fact 19 (f := .glo ("_law_other" : Str)) rfl)
  f__law_other := c.t.d.def_ 20 (d := d__law_other) rfl
  f_Lines_finish := c.t.d.def_ 21 (d := d_Lines_finish) rfl
  f_Lines_words := c.t.d.def_ 22 (d := d_Lines_words) rfl
  f_Lines_take := c.t.d.def_ 23 (d := d_Lines_take) rfl
  f_Lines_sees := c.t.d.def_ 24 (d := d_Lines_sees) rfl
  g__take_indexes := He.glo_ok X G (c.t.d.fact 20 (f := .glo ("_take_indexes" : Str)) rfl)
  f__take_indexes := c.t.d.def_ 25 (d := d__take_indexes) rfl
  g__take_changes := He.glo_ok X G (c.t.d.fact 21 (f := .glo ("_take_changes" : Str)) rfl)
  f__take_changes := c.t.d.def_ 26 (d := d__take_changes) rfl
  g__take_shown := He.glo_ok X G (c.t.d.fact 22 (f := .glo ("_take_shown" : Str)) rfl)
  f__take_shown := c.t.d.def_ 27 (d := d__take_shown) rfl
  g__take_part := He.glo_ok X G (c.t.d.fact 23 (f := .glo ("_take_part" : Str)) rfl)
  f__take_part := c.t.d.def_ 28 (d := d__take_part) rfl
  g__take_sizes := He.glo_ok X G (c.t.d.fact 24 (f := .glo ("_take_sizes" : Str)) rfl)
  f__take_sizes := c.t.d.def_ 29 (d := d__take_sizes) rfl
  f_Lines_init := c.t.d.def_ 30 (d := d_Lines_init) rfl
  g_parse_program := He.glo_ok X G (c.t.d.fact 25 (f := .glo ("parse_program" : Str)) rfl)
  f_parse_program := c.t.d.def_ 31 (d := d_parse_program) rfl
  g__law_all := He.glo_ok X G (c.t.d.fact 26 (f := .glo ("_law_all" : Str)) rfl)
  f__law_all := c.t.d.def_ 32 (d := d__law_all) rfl
  g__law_text := He.glo_ok X G (c.t.d.fact 27 (f := .glo ("_law_text" : Str)) rfl)
  f__law_text := c.t.d.def_ 33 (d := d__law_text) rfl
  g__law_line := He.glo_ok X G (c.t.d.fact 28 (f := .glo ("_law_line" : Str)) rfl)
  f__law_line := c.t.d.def_ 34 (d := d__law_line) rfl
  g__law_flat := He.glo_ok X G (c.t.d.fact 29 (f := .glo ("_law_flat" : Str)) rfl)
  f__law_flat := c.t.d.def_ 35 (d := d__law_flat) rfl
  g__law_lines := He.glo_ok X G (c.t.d.fact 30 (f := .glo ("_law_lines" : Str)) rfl)
  f__law_lines := c.t.d.def_ 36 (d := d__law_lines) rfl
  g_law := He.glo_ok X G (c.t.d.fact 31 (f := .glo ("law" : Str)) rfl)
  f_law := c.t.d.def_ 37 (d := d_law) rfl
  tb_are_changes := tb _ (by unfold tfs; simp)
  ts_are_changes := by unfold tabs; simp
  tb__are_ticks := tb _ (by unfold tfs; simp)
  ts__are_ticks := by unfold tabs; simp
  tb_is_shown := tb _ (by unfold tfs; simp)
  ts_is_shown := by unfold tabs; simp
  tb__are_parts := tb _ (by unfold tfs; simp)
  ts__are_parts := by unfold tabs; simp
  tb_are_sizes := tb _ (by unfold tfs; simp)
  ts_are_sizes := by unfold tabs; simp
  tb_Lines_take := tb _ (by unfold tfs; simp)
  ts_Lines_take := by unfold tabs; simp
end K14
namespace K14
open PySem PySem.Spec PyProof.Rows L2 DL
theorem end1 (cP : Addr) (kP : Ks) (ns : List Int) (hl : ns.length ≤ 63) (hb : ∀ z ∈ ns, Builtin.Int.intBits z ≤ 1048576) : ∃ g, F_law cP kP [.scr ns] [] = .ok (.bl true) g := by
  obtain ⟨d, g, e, rfl⟩ := (law_core (cP := cP) (kP := kP) (scr := .scr ns) (G0 := []) (ns := ns) fun _ => Iff.rfl).out
  exact ⟨g, e⟩
theorem end2 (cP : Addr) (kP : Ks) (ns : List Int) (hl : ns.length ≤ 63) (hb : ∀ z ∈ ns, Builtin.Int.intBits z ≤ 1048576) : ∃ g, F_law cP kP [.ref 0] [.lst (ns.map D.int)] = .ok (.bl true) g := by
  obtain ⟨d, g, e, rfl⟩ := (law_core (cP := cP) (kP := kP) (scr := .ref 0) (G0 := [.lst (ns.map D.int)]) (ns := ns) fun _ => w_listR rfl).out
  exact ⟨g, e⟩
end K14
namespace K14
open PySem PySem.Spec PyProof.Rows L2 DL
theorem tabs_mem {K : PySem.W.Frag} {P : Addr} (h : P ∈ tabs K) : ∃ p ∈ tfs, P = (He.cT K p).2 := by
  unfold tabs at h
  unfold tfs
  simpa using h
end K14
open PySem PySem.W PySem.Calls PyProof.Rows
theorem PySem.Challenge.cw_twoknowers_k14_whole_texts_come_back_holds : PySem.Challenge.rw_twoknowers_k14_whole_texts_come_back.Holds := by
  w_on; o_law
  refine HandSHeadRun.head_any (r := OpenLaw.row PySem.Challenge.rw_twoknowers_k14_whole_texts_come_back) (q := view (OpenLaw.row PySem.Challenge.rw_twoknowers_k14_whole_texts_come_back).prog [43]) (H := K14.hk) (ob := K14.ob) (M := 9000) (loose := K14.nms) (d := HandSHeadRun.topDef (OpenLaw.row PySem.Challenge.rw_twoknowers_k14_whole_texts_come_back).prog 43) (kwd := []) K14.ob_eq
    (by kernel_rfl) (fun s => by kernel_rfl) K14.run (by kernel_rfl) (by kernel_rfl) (by kernel_rfl) (by rfl) (by first | assumption | decide +kernel) (by decide +kernel) ⟨rfl, rfl, rfl, rfl, rfl, by decide +kernel⟩ ?hw ?hc
  case hw => w_witness2
  case hc =>
    refine LamX.walk_ofTsE (l := PySem.Challenge.rw_twoknowers_k14_whole_texts_come_back) (n := 63) (k := 15) (x := "script") (CX := fun w => L2.CX (PySem.Challenge.rw_twoknowers_k14_whole_texts_come_back).prog w) rfl (by decide) (by kernel_rfl) ⟨rfl, by decide, by decide⟩ ?F (fun w H s e s' z => by
      obtain ⟨_, _, _, _, _, _, _, _, _, _, _, _, z⟩ := z
      exact z)
    intro w mg fa h Y G hmg0
    obtain ⟨K, KX, c⟩ := Y
    have hmg : mg ("law" : PySem.Str) = some (.ref fa) := by
      have e : (HandSHeadRun.topDef (OpenLaw.row PySem.Challenge.rw_twoknowers_k14_whole_texts_come_back).prog 43).name = ("law" : PySem.Str) := by kernel_rfl
      rw [← e]
      exact hmg0
    have efa : He.fAd K (("law" : PySem.Str), none) = fa := by
      have z := He.glo_ok KX G (c.t.d.fact 31 (f := .glo ("law" : PySem.Str)) rfl)
      rw [hmg] at z
      exact (PySem.Value.ref.inj (Option.some.inj z)).symm
    subst efa
    obtain ⟨fd, hF⟩ := c.t.d.def_ 37 (d := K14.d_law) rfl
    refine ⟨K, KX, fd, K14.tfs.map (He.cT K), DL.spD ⟨K, K14.tabs K, DL.fw w⟩ (K14.F_law (He.ga K ("Program" : PySem.Str)) (DL.ks K w)), fun p hp => ?_, fun p hp => ?_, fun p hp => ?_, fun s u => L2.FunD.bindsA (ps := ["script"]) hF (fun _ _ _ _ _ _ us hl => match us, hl with | [_], _ => rfl) s [u] rfl, fun H a ns hl hb hT hS => ?_, fun base hK hN hTB => ?_⟩
    · obtain ⟨q, hq, rfl⟩ := List.mem_map.mp hp
      exact c.empty q hq
    · obtain ⟨q, hq, rfl⟩ := List.mem_map.mp hp
      exact c.out q hq
    · obtain ⟨q, hq, rfl⟩ := List.mem_map.mp hp
      exact PySem.W.codeHd_of_K KX (c.hd q hq)
    · refine DL.law_in (fun P hP => ?_) hS (K14.end1 (He.ga K ("Program" : PySem.Str)) (DL.ks K w) ns hl hb) (K14.end2 (He.ga K ("Program" : PySem.Str)) (DL.ks K w) ns hl hb)
      obtain ⟨q, hq, rfl⟩ := K14.tabs_mem hP
      exact ⟨#[], hT _ (List.mem_map_of_mem hq), True.intro⟩
    · exact K14.ok_law (K14.facts KX G c fun p hp => let z := hTB _ (List.mem_map_of_mem hp); ⟨z.code, z.bm, z.gP⟩) hF
