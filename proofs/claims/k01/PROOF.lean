import PyProof.Rows.All
import Wide.All
import OpenK.AllK
import Wide.FinOn
import HandS.GenList
import HandS.AnyAll
import HandS.Lambda
import HandS.Comp
import HandS.ForMost
import HandS.TupAny
import HandS.Star
import HandS.Wide
import HandS.Walk
import HandS.Zip
import HandS.Defaults
import KE.SortData
import KE.LtData
import HandS.IsInst
import HandS.Conv
import HandS.More
import HandS.Style
import HandS.Strs
import KE.GoesMore
import KE.GoesEnum
import PyProof.SumAny
import HandS.HeadHook4
import HandS.HeadWalk
import HandS.Head0
import HandS.Head1
import HandS.Head2
import HandS.HeadEnd
import KE.DataMinMax
import HandS.Deep
import HandS.Iter
import KE.KStateDown
import Lean
import PySem.Challenge.RW_nestdolls_k01_standings_known_and_all_to
set_option Elab.async false
set_option linter.all false
set_option maxRecDepth 100000
set_option maxHeartbeats 2000000
namespace NG
open PySem PySem.Spec PyProof.Rows L2 GenW

/-- the context of a generator expression's own frame, running at A -/
abbrev gcx (X : Cx) (A : Around) (s : Shared) (H : Hp) (cenv : Env) (fp : List Addr) (pn : List (Addr × Obj)) : Cx :=
  { X with A := A, s_0 := s, H_0 := H, env := cenv, outer := X.stack, stack := cenv :: X.stack, ex := fp, fn := fun _ => false, pn := pn, xe := fun _ _ => False }

section
variable {X : Cx} {pins : List (Addr × Obj)} {σ : L2.St} {H : Hp} {s : Shared}

theorem gen_start {scope : Scope} {own : List (Str × Nat)} {fp : List Addr} {code : Value} {A' : Around} {s5 : Shared} {pn : List (Addr × Obj)} {mm : Str → Option Value}
    (I : Inv X pins σ H s) (ok : BlkOk X.N X.env.scope scope own) (hcell : ∀ y ∈ scope.names, y.2 ≠ .cell) (hN : X.N.Nodup) (hfp : ∀ b ∈ fp, FpOk X pins H b ∧ b < s.heap.objs.size)
    (hA1 : A'.frames = some (genEnv scope (cloFrom X.env.cells scope.names []) s.heap.objs.size code builtinsNs X.env :: X.stack)) (hA2 : A'.handled = none)
    (hns : s5.heap.Ns s.heap.objs.size mm) (kp : ∀ b o, s.heap.get? b = some o → s5.heap.get? b = some o) (hos : s5.os = s.os) (hb : AllBare s5.gens)
    (hpn : ∀ p ∈ pn, s5.heap.get? p.1 = some p.2 ∧ s.heap.objs.size < p.1 ∧ ∀ v, p.2.data ≠ .cell v) :
    Inv (gcx X A' s H (genEnv scope (cloFrom X.env.cells scope.names []) s.heap.objs.size code builtinsNs X.env) fp pn) [] (wipe σ (own.map (·.2))) H s5 := by
  have hfree : ∀ y ∈ scope.names, y.2 = .free → ∃ c, X.env.cells.lookup y.1 = some c := fun y hy e => by
    rcases ok.free y hy e with k | k
    · exact I.ok.has _ (.inl k)
    · exact I.ok.has _ (.inr k)
  generalize hcenv : genEnv scope (cloFrom X.env.cells scope.names []) s.heap.objs.size code builtinsNs X.env = cenv at hA1 ⊢
  have hL : cenv.locals = s.heap.objs.size := by rw [← hcenv]; rfl
  have hcl : cenv.cells = cloFrom X.env.cells scope.names [] := by rw [← hcenv]; rfl
  have hsc : cenv.scope = scope := by rw [← hcenv]; rfl
  have cm : ∀ {y c}, (y, c) ∈ cloFrom X.env.cells scope.names [] → X.env.cells.lookup y = some c ∧ c < s.heap.objs.size := fun {y c} hm => by
    rcases cloFrom_mem hm with hm | ⟨h1, rfl⟩
    · cases hm
    · obtain ⟨c, hc⟩ := hfree _ h1 rfl
      rw [hc]
      obtain ⟨w, z⟩ := I.cell _ _ hc
      exact ⟨rfl, z.lt⟩
  have mem : ∀ {y c}, cenv.cells.lookup y = some c → X.env.cells.lookup y = some c ∧ c < s.heap.objs.size := fun {y c} e => by
    rw [hcl] at e
    exact cm (PySem.mem_of_lookup e)
  have look : ∀ {y}, scope.names.lookup y = some .free → ∃ c, cenv.cells.lookup y = some c ∧ X.env.cells.lookup y = some c := fun {y} hl => by
    have hy : (y, NameKind.free) ∈ scope.names := PySem.mem_of_lookup hl
    obtain ⟨c', e'⟩ := mem_lookup (cloFrom_has (cells := X.env.cells) (acc := []) hy)
    rw [← hcl] at e'
    exact ⟨c', e', (mem e').1⟩
  have okB : (gcx X A' s H cenv fp pn).Ok := by
    refine ⟨I.ok.mod, by show cenv.scope.kind = _; rw [hsc]; exact ok.kind, by show cenv.globals = _; rw [← hcenv]; exact I.ok.glob, by show cenv.builtins = _; rw [← hcenv]; rfl, by show s.heap.objs.size ≤ cenv.locals; rw [hL]; exact Nat.le_refl _,
      fun y z c e1 e2 => ?_, fun y hy => ?_, fun y c z e => ?_, fun _ => hA2, hA1, .inr ⟨rfl, ?_⟩, fun b hb => ⟨?_, fun y c e z => ?_⟩, I.bs, Nat.le_trans I.ok.bsz I.sz, fun b o e hb => ?_, fun b hb z => ?_, I.stack, I.stkFree⟩
    · exact I.ok.inj y z c (mem e1).1 (mem e2).1
    · show ∃ c, cenv.cells.lookup y = some c
      have key : ∀ k, cenv.scope.names.lookup y = some k → (k = .cell ∨ k = .free) → ∃ c, cenv.cells.lookup y = some c := fun k hk hk' => by
        rw [hsc] at hk
        rcases hk' with rfl | rfl
        · exact absurd rfl (hcell _ (PySem.mem_of_lookup hk))
        · obtain ⟨c, h1, _⟩ := look hk
          exact ⟨c, h1⟩
      rcases hy with hy | hy
      · exact key _ hy (.inl rfl)
      · exact key _ hy (.inr rfl)
    · cases (show false = true from z)
    · show cenv.frame = some cenv.locals
      rw [← hcenv]
      rfl
    · show b ≠ cenv.locals
      rw [hL]; exact Nat.ne_of_lt (hfp b hb).2
    · exact (hfp b hb).1.2.2.2.2.1 y c (mem e).1 z
    · rcases (hfp b hb).1.2.2.2.1 with z | z
      · exact I.ok.noex b o e z
      · exact absurd (Nat.lt_of_lt_of_le (Heap.lt_size e) (Nat.le_trans I.ok.bsz z)) (Nat.lt_irrefl _)
    · rcases List.mem_cons.mp (I.stkSub b z) with z | z
      · exact (hfp b hb).1.2.1 z
      · exact (hfp b hb).1.2.2.1 z
  refine ⟨okB, hos, hb, Un.kept kp, ⟨mm, by show Heap.Ns _ cenv.locals _; rw [hL]; exact hns, fun i y av e1 e2 e3 => ?_⟩, fun y c e => ?_, ?_, fun y c e => ?_, fun p hp => ?_, I.hok.kept kp, by rw [wipe_length]; exact I.len⟩
  · obtain ⟨e2, hne⟩ := wipe_some e2
    have hfr : scope.names.lookup y = some .free := by
      have key : ∀ k, cenv.scope.names.lookup y = some k → k = .local ∨ k = .cell ∨ k = .free → scope.names.lookup y = some .free := fun k hk hk' => by
        rw [hsc] at hk
        have no : ¬ (k = .local ∨ k = .cell) := fun hh => by
          rcases ok.own _ (PySem.mem_of_lookup hk) hh with e' | e'
          · obtain ⟨p, hp, hpy⟩ := List.mem_map.mp e'
            have e3 := ok.ix p hp
            have : p.1 = y := hpy
            rw [this] at e3
            exact hne (List.mem_map.mpr ⟨p, hp, nodup_ix hN e3 e1⟩)
          · exact e' (List.mem_of_getElem? e1)
        rcases hk' with rfl | rfl | rfl
        · exact absurd (.inl rfl) no
        · exact absurd (.inr rfl) no
        · exact hk
      have e3 : Vis cenv.scope y := e3
      rcases e3 with e3 | e3 | e3
      · exact key _ e3 (.inl rfl)
      · exact key _ e3 (.inr (.inl rfl))
      · exact key _ e3 (.inr (.inr rfl))
    obtain ⟨m, hn, hl⟩ := I.loc
    have hvis : Vis X.env.scope y := (ok.free _ (PySem.mem_of_lookup hfr) rfl).elim (fun k => .inr (.inl k)) (fun k => .inr (.inr k))
    obtain ⟨w, r, q⟩ := hl i y av e1 e2 hvis
    have hk2 : cenv.kindOf y = some .free := by
      show cenv.scope.names.lookup y = _
      rw [hsc]
      exact hfr
    refine ⟨w, r, .inr ⟨.inr hk2, ?_⟩⟩
    obtain ⟨c, h1, h2⟩ := look hfr
    rcases q with ⟨k, _⟩ | ⟨_, c', e', z⟩
    · have k : X.env.scope.names.lookup y = some .local := k
      rcases ok.free _ (PySem.mem_of_lookup hfr) rfl with k' | k' <;> rw [show X.env.scope.names.lookup y = _ from k'] at k <;> cases k
    · rw [h2] at e'; cases e'
      exact ⟨c, h1, z.keeps kp⟩
  · have e : cenv.cells.lookup y = some c := e
    obtain ⟨w, z⟩ := I.cell y c (mem e).1
    exact ⟨w, z.keeps kp⟩
  · show H cenv.locals = none
    rw [hL]; exact I.hok.fresh (Nat.le_refl _)
  · exact I.freeC y c (mem e).1
  · have hp' : p ∈ pn := by
      have z : p ∈ pn ++ [] := hp
      rw [List.append_nil] at z
      exact z
    obtain ⟨q1, q2, q3⟩ := hpn p hp'
    refine ⟨q1, I.hok.fresh (Nat.le_of_lt q2), ?_, fun z => ?_, q3⟩
    · show p.1 ≠ cenv.locals
      rw [hL]; exact Nat.ne_of_gt q2
    · rcases List.mem_cons.mp (I.stkSub p.1 z) with z | z
      · have h1 := I.lt
        rw [← z] at h1
        exact absurd (Nat.lt_trans q2 h1) (Nat.lt_irrefl _)
      · exact I.nofs (Nat.le_of_lt q2) z
end
end NG

set_option maxHeartbeats 2000000
namespace NG
open PySem PySem.Spec PyProof.Rows L2 GenW
open GxR (TabG Tabbed)

/-- all(elt for target in iter): W by the turn and a measure -/
def tAllG (P : Addr) (wi : TI) (g : TG) (te : TE) (vs : List Nat) : TE := fun σ H Q => wi σ H fun J H1 => TabG H1 P ∧ ∀ H2, Tabbed P H1 H2 → ∃ W : Nat → Nat → Hp → Prop, (∃ m, W 0 m H2) ∧ ∀ i m H, W i m H →
  (J.stop i H ∧ Q (.bl true) H) ∨ (J.go i H ∧ ∃ Nx : Hp → Prop, (∀ H', Nx H' → ∃ m', m' < m ∧ W (i + 1) m' H') ∧ ∀ x H', J.yld i H x H' → g x (wipe σ vs) H' fun σ2 H2 => wipe σ2 vs = wipe σ vs ∧ te σ2 H2 fun y H4 =>
    ∃ b, y = .bl b ∧ if b = true then Nx H4 else Q (.bl false) H4)

section
variable {X : Cx} {pins : List (Addr × Obj)} {σ : L2.St} {s : Shared}

/-- the end of the generator's run, and what is known when it hands out b -/
def AEnd (X : Cx) (pins : List (Addr × Obj)) (σ : L2.St) (Q : VK) : GenEnd := fun _ _ r s1 =>
  ((r = .ok (.ret .none) ∨ r = .ok .next) ∧ ∃ H', Inv X pins σ H' s1 ∧ Q (.bl true) H') ∨ ∃ e, r = .error e ∧ False
def AItem (X : Cx) (pins : List (Addr × Obj)) (σ : L2.St) (Q : VK) (a : Addr) (gn : Nat) : Protocol := fun _ _ v s1 kap =>
  ∃ b H', v = .bool b ∧ Inv X pins σ H' s1 ∧ s1.heap.IsGen a gn ∧ (if b = true then ∀ s' : Shared, s'.heap = s1.heap → s'.os = s1.os → AllBare s'.gens → kap (.send .none) s' else Q (.bl false) H')

theorem over_gen {A : Around} {elt : Expr} {gs : List Comprehension} {scope : Scope} {pos : Pos} {it : Value} {cenv : Env} :
    A.over (.compLoop (.GeneratorExp elt gs scope pos) 0 it .none cenv) [] = A.deeper cenv := by
  first
    | rfl
    | (obtain ⟨hd, d, fr, gs, u⟩ := A; simp [Around.over, Around.deeper, marksOver, frameCount, unitsOf, envsOf, guardsOf, pushEnvs, pushGuards, Code.envs, Code.env?, Code.isFrame, Code.guards, Code.isGuard, Code.weight, Code.frames, Code.isCreation, Code.isCaller, Code.cUnits])

/-- only the table of generators has changed -/
theorem inv_gens {H : Hp} {s' : Shared} (I : Inv X pins σ H s) (hh : s'.heap = s.heap) (ho : s'.os = s.os) (hb : AllBare s'.gens) : Inv X pins σ H s' :=
  I.call' (ch := []) ho (by rw [hh]; exact Un.refl) (by rw [hh]; exact I.hok) hb fun b z => by simp at z

theorem seg_allLoop {Ag : Around} {elt tg iter : Expr} {scope : Scope} {own : List (Str × Nat)} {pos : Pos} {g : TG} {te : TE} {Q : VK} {cenv : Env} {fp : List Addr} {it a : Addr} {gn : Nat} {go : Obj} {tn : Nat → Heap → Prop} {J : It} {H3 : Hp} {s3 : Shared} {W : Nat → Nat → Hp → Prop}
    (hc : X.calm = true) (I3 : Inv X pins σ H3 s3) (f3 : ∀ b ∈ fp, FpOk X pins H3 b ∧ b < s3.heap.objs.size) (hco : cenv.scope.isCoroutine = false)
    (hgo : ∀ h : Heap, h.get? a = some go → h.IsGen a gn) (ha : ∀ b ∈ fp, a ≠ b) (T : Turn X.prog X.w X.K tg J fp it tn)
    (pg : PG (gcx X (Ag.deeper cenv) s3 H3 cenv fp [(a, go)]) tg g) (pe : PE (gcx X (Ag.deeper cenv) s3 H3 cenv fp [(a, go)]) elt te)
    (turn : ∀ i m H, W i m H → (J.stop i H ∧ Q (.bl true) H) ∨ (J.go i H ∧ ∃ Nx : Hp → Prop, (∀ H', Nx H' → ∃ m', m' < m ∧ W (i + 1) m' H') ∧ ∀ x H', J.yld i H x H' → g x (wipe σ (own.map (·.2))) H' fun σ2 H2 => wipe σ2 (own.map (·.2)) = wipe σ (own.map (·.2)) ∧ te σ2 H2 fun y H4 =>
      ∃ b, y = .bl b ∧ if b = true then Nx H4 else Q (.bl false) H4)) :
    ∀ (m n i : Nat) (s₀ s : Shared) (H' : Hp), m < n → W i m H' → Inv (gcx X (Ag.deeper cenv) s3 H3 cenv fp [(a, go)]) [] (wipe σ (own.map (·.2))) H' s → tn i s.heap → (∀ b ∈ fp, H' b = none) →
      Seg (model X.prog X.w) Ag (AEnd X pins σ Q) (AItem X pins σ Q a gn) n s₀ (.compLoop (.GeneratorExp elt [⟨tg, iter, [], 0⟩] scope pos) 0 (.ref it) .none cenv)
        ((model X.prog X.w).den (.compLoop (.GeneratorExp elt [⟨tg, iter, [], 0⟩] scope pos) 0 (.ref it) .none cenv)) [] s := by
  have stat : ∀ {σ' : L2.St} {H' : Hp} {s' : Shared}, Inv (gcx X (Ag.deeper cenv) s3 H3 cenv fp [(a, go)]) [] σ' H' s' → (∀ b ∈ fp, H' b = none) → ∀ b ∈ fp, FpOk (gcx X (Ag.deeper cenv) s3 H3 cenv fp [(a, go)]) [] H' b := fun {σ' H' s'} I' hn b hb =>
    ⟨hn b hb, (I'.ok.exf b hb).1, I'.ok.exfs b hb, .inl hb, fun x c e => (I'.ok.exf b hb).2 x c e, fun p hp => by
      have z : p ∈ [(a, go)] := by
        have z : p ∈ [(a, go)] ++ [] := hp
        rw [List.append_nil] at z
        exact z
      rw [List.mem_singleton.mp z]
      exact ha b hb⟩
  have back : ∀ {σ' : L2.St} {H' : Hp} {pl : List (Addr × Obj)} {s' : Shared}, Inv (gcx X (Ag.deeper cenv) s3 H3 cenv fp [(a, go)]) pl σ' H' s' → Inv X pins σ H' s' := fun {σ' H' pl s'} I6 =>
    I3.call' (ch := fp) I6.os I6.base I6.hok I6.bare fun b hb => ⟨(f3 b hb).1.2.2.2.1, (f3 b hb).1.2.1, (f3 b hb).1.2.2.2.2.1, (f3 b hb).1.2.2.2.2.2⟩
  have gen : ∀ {σ' : L2.St} {H' : Hp} {pl : List (Addr × Obj)} {s' : Shared}, Inv (gcx X (Ag.deeper cenv) s3 H3 cenv fp [(a, go)]) pl σ' H' s' → s'.heap.IsGen a gn := fun {σ' H' pl s'} I6 =>
    hgo _ (I6.pin (a, go) (List.mem_append_left _ (List.mem_singleton.mpr rfl))).1
  intro m
  induction m using Nat.strongRecOn with
  | ind m ih =>
    intro n i s₀ s H' hmn w I5 st5 n5
    show Seg _ Ag _ _ _ s₀ _ ((compTurn (.GeneratorExp elt [⟨tg, iter, [], 0⟩] scope pos) 0 (.ref it) .none cenv).onRaise (leaving cenv)) [] s
    rw [compTurn_gen, Sem.onRaise_eq_wrap]
    refine seg_bind_wrap (wpAny_standAt ?_)
    refine seg_bind_wrap ?_
    rw [over_gen]
    rcases turn i m H' w with ⟨stop, qq⟩ | ⟨gg, Nx, hNx, step⟩
    · have td := T.done (gcx X (Ag.deeper cenv) s3 H3 cenv fp [(a, go)]) rfl rfl rfl hc i [] s _ H' (fun _ _ => False) I5 (stat I5 n5) st5 stop
      refine thnF td fun r s6 ⟨hr, I6⟩ => ?_
      subst hr
      exact seg_end (.ok .next) (.inl ⟨.inr rfl, H', back I6, qq⟩)
    · have ti := T.item (gcx X (Ag.deeper cenv) s3 H3 cenv fp [(a, go)]) rfl rfl rfl hc i [] s _ H' (fun _ _ => False) I5 (stat I5 n5) st5 gg
      refine thnF ti fun r s6 ⟨u, hr, h6⟩ => ?_
      subst hr
      refine seg_bind_wrap ?_
      rw [over_gen]
      refine thnF h6 fun _ s7 ⟨x, H7, I7, r7, y7, st7, n7⟩ => ?_
      have I7' := I7.pinned (stat I7 n7) (T.obj _ _ st7)
      refine seg_bind_wrap ?_
      rw [over_gen]
      refine thnF (pg.run _ s7 _ H7 x u _ I7' r7 (step x H7 y7)) fun _ s8 ⟨σ8, H8, I8, hw8, q8⟩ => ?_
      refine seg_bind_wrap (wpAny_tests_nil ?_)
      simp only [if_true]
      have hy : ∀ v, yieldOut cenv v = yieldValue v := fun v => by simp only [yieldOut, hco, Bool.false_eq_true, if_false]
      simp only [hy]
      obtain ⟨n', rfl⟩ : ∃ n', n = n' + 1 := ⟨n - 1, by omega⟩
      rw [Sem.bind_eq_wrap', Sem.bind_eq_wrap', Sem.wrap_wrap, Sem.wrap_wrap]
      refine seg_wrap ?_
      rw [over_gen]
      refine thnF (pe.run _ s8 σ8 H8 _ I8 q8) fun z s10 ⟨yv, H10, I10, r10, b, eb, nx⟩ => ?_
      subst eb
      have ez : z = Value.bool b := r10
      subst ez
      refine seg_at (seg_yield rfl rfl rfl ⟨b, H10, rfl, back I10, gen I10, ?_⟩)
      cases b with
      | false =>
        simp only [Bool.false_eq_true, if_false] at nx ⊢
        exact nx
      | true =>
        simp only [if_true] at nx ⊢
        intro s' hh ho hb
        obtain ⟨m', hm, w'⟩ := hNx H10 nx
        have I11 := inv_gens I10 hh ho hb
        have pin' : ∀ b ∈ fp, ∀ o, s7.heap.get? b = some o → s'.heap.get? b = some o ∧ H10 b = none := fun b hb o e =>
          let z := I11.pin (b, o) (List.mem_append_right _ (List.mem_append_right _ (mem_pinsAt hb e)))
          ⟨z.1, z.2.1⟩
        have hl : (wipe σ (own.map (·.2))).length = σ8.length := by rw [← hw8, wipe_length]
        refine seg_again rfl (ih m' hm n' (i + 1) s' s' H10 (by omega) w' ((I11.unpinned (pins := [])).weak hl (fun j v e => ?_)) (T.keep _ _ _ st7 fun b hb o e => (pin' b hb o e).1) fun b hb => ?_)
        · rw [← hw8] at e
          exact (wipe_some e).1
        · obtain ⟨o, e, _⟩ := T.obj _ _ st7 b hb
          exact (pin' b hb o e).2
end
end NG

set_option maxHeartbeats 2000000
namespace NG
open PySem PySem.Spec PyProof.Rows L2 GenW
open GxR (TabG Tabbed)
section
variable {X : Cx} {pins : List (Addr × Obj)} {σ : L2.St} {s : Shared}

theorem over_genS {A : Around} {elt : Expr} {gs : List Comprehension} {scope : Scope} {pos : Pos} {it : Value} {cenv : Env} :
    A.over (.compStart (.GeneratorExp elt gs scope pos) 0 it .none cenv) [] = A.deeper cenv := by
  first
    | rfl
    | (obtain ⟨hd, d, fr, gs, u⟩ := A; simp [Around.over, Around.deeper, marksOver, frameCount, unitsOf, envsOf, guardsOf, pushEnvs, pushGuards, Code.envs, Code.env?, Code.isFrame, Code.guards, Code.isGuard, Code.weight, Code.frames, Code.isCreation, Code.isCaller, Code.cUnits])

theorem seg_start {Ag : Around} {R : GenEnd} {Y : Protocol} {n : Nat} {s₀ s : Shared} {elt tg iter : Expr} {scope : Scope} {pos : Pos} {it : Addr} {cenv : Env} {J : It} {fp : List Addr} {tn : Nat → Heap → Prop}
    (T : Turn X.prog X.w X.K tg J fp it tn) (st : tn 0 s.heap)
    (loop : Seg (model X.prog X.w) Ag R Y n s₀ (.compLoop (.GeneratorExp elt [⟨tg, iter, [], 0⟩] scope pos) 0 (.ref it) .none cenv) ((model X.prog X.w).den (.compLoop (.GeneratorExp elt [⟨tg, iter, [], 0⟩] scope pos) 0 (.ref it) .none cenv)) [] s) :
    Seg (model X.prog X.w) Ag R Y n s₀ (.compStart (.GeneratorExp elt [⟨tg, iter, [], 0⟩] scope pos) 0 (.ref it) .none cenv) ((model X.prog X.w).den (.compStart (.GeneratorExp elt [⟨tg, iter, [], 0⟩] scope pos) 0 (.ref it) .none cenv)) [] s := by
  show Seg _ Ag _ _ _ s₀ _ ((compStart (.GeneratorExp elt [⟨tg, iter, [], 0⟩] scope pos) 0 (.ref it) .none cenv).onRaise (leaving cenv)) [] s
  unfold compStart
  rw [Sem.onRaise_eq_wrap]
  show Seg _ Ag _ _ _ s₀ _ ((ask >>= _).wrap _ _ _ _) [] s
  refine seg_bind_wrap (wpAny_askSetting ?_)
  split
  · exact seg_again rfl loop
  · first
      | exact seg_bind_wrap (wpAny_rule (seg_bind_wrap (wpAny_standAt (seg_bind_wrap (T.self _ 0 s _ _ st (seg_again rfl loop))))))
      | (refine seg_bind_wrap (wpAny_rule ?_); show Seg _ Ag _ _ _ s₀ _ ((standAt iter.pos >>= _).wrap _ _ _ _) [] s; exact seg_bind_wrap (wpAny_standAt (seg_bind_wrap (T.self _ 0 s _ _ st (seg_again rfl loop)))))

/-- the consumer: all's loop -/
theorem all_drain {A : Around} {R : Result → Shared → Prop} {Q : VK} {a : Addr} {gn : Nat} (hh : A.handled = none) (hd : A.depth < recursionLimit)
    (hend : ∀ b s' H', Inv X pins σ H' s' → Q (.bl b) H' → R (.ok (.ret (.bool b))) s') :
    ∀ (n : Nat) (s : Shared), s.heap.IsGen a gn → s.heap.NoLimit →
      (∃ gs, s.gens[gn]? = some gs ∧ gs.Goes (model X.prog X.w) A.in1.in1 (AEnd X pins σ Q) (AItem X pins σ Q a gn) n (.send .none) (s.setGen gn .running)) →
      codeAny (model X.prog X.w) A (.builtin "all.loop" ⟨[.ref a], []⟩) R s := by
  have goes : ∀ {gs : GenState} {B : Around} {n : Nat} {r : Resume} {s : Shared}, gs.Goes (model X.prog X.w) B (AEnd X pins σ Q) (AItem X pins σ Q a gn) n r s →
      gs.Goes (model X.prog X.w) B (fun n s₀ r s1 => ((r = .ok (.ret .none) ∨ r = .ok .next) ∧ (fun (_ : Nat) (_ : Shared) (s1 : Shared) => ∃ H', Inv X pins σ H' s1 ∧ Q (.bl true) H') n s₀ s1) ∨ ∃ e, r = .error e ∧ (fun (_ : Value) (_ : Shared) => False) e s1) (AItem X pins σ Q a gn) n r s := fun h => h
  intro n
  induction n with
  | zero =>
    intro s hg hl ⟨gs, hgs, hgo⟩
    refine codeAny_builtin F.entry_all_loop ?_
    rw [Around.under_plainId F.plain_all_loop _]
    show wpAny _ A.in1 (pyNext (.ref a) >>= _) _ _ s
    refine wpAny_bind (next_genG (A := A.in1) hh hl hd hg hgs (goes hgo) (fun v s₁ gs' hbare hv => ?_) (fun s₁ hp h' hk => ?_) fun e s₁ he => he.elim)
    · obtain ⟨b, H', rfl, I', _, hk⟩ := hv
      refine wpAny_bind (wpAny_holding (wpAny_truthy_bool ?_))
      refine wpAny_bind (wpAny_letGo ?_)
      have I'' := inv_gens (s' := s₁.setGen gn gs') I' rfl rfl (allBare_setGen I'.bare hbare)
      cases b with
      | false =>
        simp only [Bool.false_eq_true, if_false] at hk
        have q := hend false _ H' I'' hk
        rw [if_neg Bool.false_ne_true]
        refine wpAny_bind (wpAny_rule (wpAny_pure ?_))
        exact q
      | true =>
        simp only [if_true] at hk
        exact False.elim (hk s₁ rfl rfl I'.bare)
    · obtain ⟨H', I', hQ⟩ := hp
      refine wpAny_bind (wpAny_rule (wpAny_pure ?_))
      exact hend true _ H' (I'.call' (ch := []) rfl (Un.kept hk) (I'.hok.kept hk) (allBare_setGen I'.bare rfl) fun b z => by simp at z) hQ
  | succ n ih =>
    intro s hg hl ⟨gs, hgs, hgo⟩
    have hgl : gn < s.gens.size := (Array.getElem?_eq_some_iff.mp hgs).1
    refine codeAny_builtin F.entry_all_loop ?_
    rw [Around.under_plainId F.plain_all_loop _]
    show wpAny _ A.in1 (pyNext (.ref a) >>= _) _ _ s
    refine wpAny_bind (wpAny_gsz (n := gn + 1) hgl (next_genG (A := A.in1) hh hl hd hg hgs (goes hgo) (fun v s₁ gs' hbare hv => ?_) (fun s₁ hp h' hk => ?_) fun e s₁ he => he.elim))
    · intro hsz
      obtain ⟨b, H', rfl, I', hg', hk⟩ := hv
      refine wpAny_bind (wpAny_holding (wpAny_truthy_bool ?_))
      refine wpAny_bind (wpAny_letGo ?_)
      have I'' := inv_gens (s' := s₁.setGen gn gs') I' rfl rfl (allBare_setGen I'.bare hbare)
      cases b with
      | false =>
        simp only [Bool.false_eq_true, if_false] at hk
        have q := hend false _ H' I'' hk
        rw [if_neg Bool.false_ne_true]
        refine wpAny_bind (wpAny_rule (wpAny_pure ?_))
        exact q
      | true =>
        simp only [if_true] at hk ⊢
        have hsz1 : gn < s₁.gens.size := by
          have q : (s₁.setGen gn gs').gens.size = s₁.gens.size := setGen_size _ _ _
          have hsz' : gn + 1 ≤ (s₁.setGen gn gs').gens.size := hsz
          omega
        refine wpAny_pure ⟨plainId_quiet F.plain_all_loop _, ih (s₁.setGen gn gs') hg' I'.nolimit ⟨gs', setGen_at hsz1, ?_⟩⟩
        exact hk _ rfl rfl (allBare_setGen (s := s₁.setGen gn gs') (allBare_setGen I'.bare hbare) rfl)
    · intro hsz
      obtain ⟨H', I', hQ⟩ := hp
      refine wpAny_bind (wpAny_rule (wpAny_pure ?_))
      exact hend true _ H' (I'.call' (ch := []) rfl (Un.kept hk) (I'.hok.kept hk) (allBare_setGen I'.bare rfl) fun b z => by simp at z) hQ

theorem pe_allG {c P : Addr} {elt tg iter : Expr} {p pos gpos : Pos} {scope : Scope} {own : List (Str × Nat)} {wi : TI} {g : TG} {te : TE} {k : Nat}
    (hr : Room (k + 1) X.A) (hg : Gl X "all") (hm : X.mg "all" = none) (hb : bootBuiltins "all" = some (.builtin "all")) (TB : LamX.TabB X.base X.mg c P) (hcode : X.env.code = .ref c) (hc : X.calm = true) (hN : X.N.Nodup)
    (ok : BlkOk X.N X.env.scope scope own) (hco : scope.isCoroutine = false) (hcell : ∀ y ∈ scope.names, y.2 ≠ .cell) (hdot : scope.names.lookup (".0" : Str) = some NameKind.local) (hi : PI X tg iter wi)
    (hG : ∀ (A : Around) (s : Shared) (H : Hp) (C : Addr) (code : Value) (fp : List Addr) (pn : List (Addr × Obj)), PG (gcx X A s H (genEnv scope (cloFrom X.env.cells scope.names []) C code builtinsNs X.env) fp pn) tg g)
    (hE : ∀ (A : Around) (s : Shared) (H : Hp) (C : Addr) (code : Value) (fp : List Addr) (pn : List (Addr × Obj)), Room k A → PE (gcx X A s H (genEnv scope (cloFrom X.env.cells scope.names []) C code builtinsNs X.env) fp pn) elt te)
    (hs : ∀ v, genFold iter X.env v = pure v := by intro _; rfl)
    (he : starEach [.GeneratorExp elt [⟨tg, iter, [], 0⟩] scope gpos] X.env = (false, eval (.GeneratorExp elt [⟨tg, iter, [], 0⟩] scope gpos) X.env) :: starEach [] X.env := by rfl) :
    PE X (.Call (.Name "all" p) [.GeneratorExp elt [⟨tg, iter, [], 0⟩] scope gpos] [] pos) (tAllG P wi g te (own.map (·.2))) := by
  refine ⟨fun pins s σ H Q I h => ?_⟩
  have hfree : ∀ y ∈ scope.names, y.2 = .free → ∃ c, X.env.cells.lookup y.1 = some c := fun y hy e => by
    rcases ok.free y hy e with k | k
    · exact I.ok.has _ (.inl k)
    · exact I.ok.has _ (.inr k)
  refine wpAny_Call_Name_kw (ld_blt I hg hm hb ?_)
  refine PyProof.Rows.callWith_builtin1 ?_ he (by rfl)
  rw [he]
  show wpAny _ _ (spliced ((false, eval (.GeneratorExp elt [⟨tg, iter, [], 0⟩] scope gpos) X.env) :: backTo pos (starEach [] X.env))) _ _ s
  refine Calls.spliced_cons ?_
  refine wpAny_GeneratorExp_make hco (closure_ok hfree) hcell hdot ok.kind (by have := hr.dp; omega) (thn (hi.run pins s σ H _ I h) fun xv s1 hx => thn hx fun itv s2 h2 => ?_) hs
  obtain ⟨it, fp, tn, J, H2, e, I2, T, st2, f2, ⟨ps, hP, ht⟩, q⟩ := h2
  subst e
  refine ⟨I2.nolimit, ?_⟩
  have hPs : s2.heap.get? P = some { cls := .none, data := .fields ps } := I2.hok P _ hP
  have hPlt : P < s2.heap.objs.size := Heap.lt_size hPs
  have cd : PySem.W.CodeHd s2.heap c P := TB.code.keeps fun b u e => I2.bk b u e
  have cont : ∀ (code : Value) (h3 : Heap) (tk : Nat) (ps' : Array Value), Heap.ExtBut P s2.heap h3 → s2.heap.objs.size ≤ h3.objs.size → h3.get? P = some { cls := .none, data := .fields ps' } → (∃ more, ps' = ps ++ more) → TriplesOk ps'.toList →
      wpAny (model X.prog X.w) X.A (builtinsFor X.env.globals X.env.builtins) (fun bi s₄ =>
        ∀ h', h'.Ns s₄.heap.objs.size (fun y => if y = ".0" then some (.ref it) else none) → Heap.SameBut s₄.heap.objs.size (s₄.heap.push { cls := .type "frame", data := .dict #[] }) h' →
          wpAny (model X.prog X.w) X.A (spliced (backTo pos (starEach [] X.env))) (fun vs s' => wpAny (model X.prog X.w) X.A (call (.builtin "all") (Value.ref h'.objs.size :: vs)) (EP X pins σ Q) X.xe s') X.xe { s₄ with
            gens := s₄.gens.push (.fresh (.compStart (.GeneratorExp elt [⟨tg, iter, [], 0⟩] scope gpos) 0 (.ref it) .none (genEnv scope (cloFrom X.env.cells scope.names []) s₄.heap.objs.size code bi X.env))),
            toks := s₄.toks + 1 + 1 + 1,
            heap := h'.push { cls := .type "generator", data := .fields #[.int s₄.gens.size 0, .str "<genexpr>" (s₄.toks + 1), .str (X.env.qual ++ "<genexpr>") (s₄.toks + 1 + 1)] } }) X.xe { s2 with heap := h3, toks := tk } := by
    intro code h3 tk ps' hx hsz hP3 hmore ht3
    obtain ⟨bm, ob, e1, e2, e3, e4, e5, e6, e7, e8⟩ := TB.bm
    have keep3 : ∀ b u, b ≠ P → s2.heap.get? b = some u → h3.get? b = some u := fun b u hb e => hx b u hb e
    refine wpAny_builtinsFor (m := X.mg) (by rw [I2.ok.glob]; exact (I2.mod.glob.keeps I2.bk).extBut hx TB.gP) e1 e2 (keep3 _ _ e4 (I2.bk _ _ e5)) e6 e7 e8 ?_
    intro h' hns' hsb'
    obtain ⟨more, em⟩ := hmore
    have I3 := GxR.inv_tab (more := more) (h' := h3) (g' := s2.gens) (d' := s2.drawn) (t' := tk) I2 hP keep3 (by rw [← em]; exact hP3) I2.bare
    generalize hs3 : ({ s2 with heap := h3, gens := s2.gens, drawn := s2.drawn, toks := tk } : Shared) = s3 at I3
    have hs3' : ({ s2 with heap := h3, toks := tk } : Shared) = s3 := by rw [← hs3]
    have h3e : s3.heap = h3 := by rw [← hs3]
    try rw [hs3'] at hns' hsb'
    try rw [hs3']
    have hT : Tabbed P H2 (upd H2 P (.tbl (ps ++ more))) := ⟨⟨ps ++ more, upd_same, by rw [← em]; exact ht3⟩, fun b hb => upd_ne hb⟩
    obtain ⟨W, ⟨m0, w0⟩, turn⟩ := q _ hT
    generalize hH3 : upd H2 P (.tbl (ps ++ more)) = H3 at I3 w0
    have szlt : ∀ b ∈ fp, b < s2.heap.objs.size := fun b hb => by
      obtain ⟨o, e, _⟩ := T.obj _ _ st2 b hb
      exact Heap.lt_size e
    have fnP : ∀ b ∈ fp, b ≠ P := fun b hb z => by
      have q1 := (f2 b hb).1
      rw [z, hP] at q1
      cases q1
    have f3 : ∀ b ∈ fp, FpOk X pins H3 b ∧ b < s3.heap.objs.size := fun b hb => by
      refine ⟨⟨?_, (f2 b hb).2⟩, by rw [h3e]; exact Nat.lt_of_lt_of_le (szlt b hb) hsz⟩
      rw [← hH3, upd_ne (fnP b hb)]
      exact (f2 b hb).1
    have keep' : ∀ b o, s3.heap.get? b = some o → h'.get? b = some o := fun b o e => hsb'.extBut b o (Nat.ne_of_lt (Heap.lt_size e)) (Heap.get?_push_of_some _ e)
    have hsz' : h'.objs.size = s3.heap.objs.size + 1 := by rw [hsb'.1, Heap.size_push]
    generalize hgo : ({ cls := .type "generator", data := .fields #[.int s3.gens.size 0, .str "<genexpr>" (s3.toks + 1), .str (X.env.qual ++ "<genexpr>") (s3.toks + 1 + 1)] } : Obj) = go
    have hgp : ∀ h : Heap, (h.push go).get? h.objs.size = some go := fun h => by rw [← hgo]; exact Heap.get?_push_size _ rfl
    have hgen : ∀ h : Heap, h.get? h'.objs.size = some go → h.IsGen h'.objs.size s3.gens.size := fun h e => ⟨go, _, _, e, by rw [← hgo], by rw [← hgo], by rw [← hgo]⟩
    have hgc : ∀ v, go.data ≠ .cell v := fun v z => by rw [← hgo] at z; cases z
    have keep5 : ∀ b o, s3.heap.get? b = some o → (h'.push go).get? b = some o := fun b o e => Heap.get?_push_of_some _ (keep' b o e)
    refine Calls.spliced_nil ?_
    refine call_function_tree F.kind_all F.plain_all F.entry_all (F.args_all1 _) ?_
    unfold Builtin.«all»
    refine wpAny_bind (m := oneArg "all" _) (wpAny_pure ?_)
    refine wpAny_bind (wpAny_pyIter_gen (s := { s3 with heap := h'.push go, gens := _, toks := _ }) (hgen _ (hgp h')) ?_)
    refine wpAny_pure ⟨plainId_quiet F.plain_all_loop _, ?_⟩
    refine all_drain (X := X) (pins := pins) (σ := σ) (Q := Q) (A := X.A) (a := h'.objs.size) (gn := s3.gens.size) hr.hd hr.depth (fun b s' H' I' q' => ⟨.bl b, H', I', rfl, q'⟩) (m0 + 1) _ (hgen _ (hgp h')) (I3.nolimit.keeps keep5) ⟨_, Array.getElem?_push_size .., rfl, ?_⟩
    have hroom : Room k (X.A.in1.in1.deeper (genEnv scope (cloFrom X.env.cells scope.names []) s3.heap.objs.size code builtinsNs X.env)) :=
      ⟨hr.hd, by have := hr.dp; show X.A.depth + 1 + 3 * k + 5 < _; omega, by have := hr.un; show X.A.units + 1 + 1 + 3 + 16 * k + 200 < _; omega⟩
    have st5 : tn 0 (h'.push go) := T.keep _ _ _ st2 fun b hb o e => keep5 b o (by rw [h3e]; exact keep3 b o (fnP b hb) e)
    refine seg_start T st5 ?_
    refine seg_allLoop (X := X) (own := own) (W := W) (H3 := H3) (s3 := s3) hc I3 f3 hco hgen (fun b hb z => ?_) T (hG _ s3 H3 _ code fp _) (hE _ s3 H3 _ code fp _ hroom) turn m0 (m0 + 1) 0 _ _ H3 (Nat.lt_succ_self _) w0 ?_ st5 fun b hb => (f3 b hb).1.1
    · have q1 := (f3 b hb).2
      rw [← z, hsz'] at q1
      exact absurd q1 (Nat.not_lt_of_le (Nat.le_succ _))
    · refine gen_start (mm := fun y => if y = ".0" then some (.ref it) else none) I3 ok hcell hN f3 ?_ hr.hd (hns'.push _) keep5 rfl ?_ fun p hp => ?_
      · exact Around.frames_deeper I3.ok.frames
      · exact allBare_setGen (s := { s3 with heap := h'.push go, gens := _, toks := _ }) (AllBare.push I3.bare rfl) rfl
      · rw [List.mem_singleton.mp hp]
        exact ⟨hgp h', by show s3.heap.objs.size < h'.objs.size; rw [hsz']; exact Nat.lt_succ_self _, hgc⟩
  cases hf : codeAmong gpos ps.toList with
  | none =>
    refine wpAny_genexprCodeX hcode (cd.code hPs ht) (cd.tab hPs) hf fun c' h' tk hx hge hlt hco' _ htab' _ => ?_
    obtain ⟨o1, vs, f1, tf, fl, tg, inF, tx, tt, op, _, _, _, _, _, _, _, _, _, htr, _⟩ := hco'
    exact cont _ h' tk _ hx (Nat.le_trans hge (Nat.le_of_lt hlt)) htab'.2 ⟨_, rfl⟩ htr
  | some cv =>
    refine wpAny_genexprCode_hit hcode (cd.code hPs ht) hf ?_
    exact cont cv s2.heap s2.toks ps (Heap.ExtBut.refl _ _) (Nat.le_refl _) hPs ⟨#[], by simp⟩ ht
end
end NG

set_option maxHeartbeats 1000000
/-! The pure layer: states of a def told by plain data. -/
namespace PL
open PySem L2
open GxR (TabG)

abbrev St := L2.St
/-- what may still be written is hidden from data -/
noncomputable def hide (O : Addr → Prop) (H : Hp) : Hp := fun a => @ite _ (O a) (Classical.propDecidable _) none (H a)
theorem hide_of {O : Addr → Prop} {H : Hp} {a : Addr} (h : ¬ O a) : hide O H a = H a := by
  unfold hide
  rw [if_neg h]
theorem of_hide {O : Addr → Prop} {H : Hp} {a : Addr} {o : HO} (h : hide O H a = some o) : ¬ O a ∧ H a = some o := by
  by_cases q : O a
  · unfold hide at h
    rw [if_pos q] at h
    cases h
  · rw [hide_of q] at h
    exact ⟨q, h⟩

/-- all but the tables and what M tells stays; what was tracked is tracked -/
structure Step (M : Addr → Prop) (H H' : Hp) : Prop where
  keep : ∀ a o, ¬ M a → H a = some o → (∀ ps, o ≠ HO.tbl ps) → H' a = some o
  old : ∀ a, H' a = none → H a = none
theorem Step.refl (M : Addr → Prop) (H : Hp) : Step M H H := ⟨fun _ _ _ h _ => h, fun _ h => h⟩
theorem Step.trans {M : Addr → Prop} {H H1 H2 : Hp} (a : Step M H H1) (b : Step M H1 H2) : Step M H H2 :=
  ⟨fun c o n h t => b.keep c o n (a.keep c o n h t) t, fun c h => a.old c (b.old c h)⟩
theorem Step.mono {M M' : Addr → Prop} {H H1 : Hp} (a : Step M H H1) (h : ∀ x, M x → M' x) : Step M' H H1 := ⟨fun c o n e t => a.keep c o (fun q => n (h c q)) e t, a.old⟩
theorem upd_none {H : Hp} {p a : Addr} {o : HO} (h : upd H p o a = none) : H a = none := by
  by_cases e : a = p
  · rw [e, upd_same] at h
    cases h
  · rw [upd_ne e] at h
    exact h
theorem Step.new {M : Addr → Prop} {H : Hp} {p : Addr} {o : HO} (h : H p = none) : Step M H (upd H p o) := ⟨fun a u _ e _ => by
  rw [upd_ne (ne_of_none e h)]
  exact e, fun a => upd_none⟩
theorem Step.set {M : Addr → Prop} {H : Hp} {p : Addr} {o : HO} (h : M p) : Step M H (upd H p o) := ⟨fun a u n e _ => by
  rw [upd_ne (fun z => n (by rw [z]; exact h))]
  exact e, fun a => upd_none⟩

def Le (G G' : Hp) : Prop := ∀ a o, G a = some o → (∀ ps, o ≠ HO.tbl ps) → G' a = some o
theorem Le.of {G G' : Hp} (h : ∀ a o, G a = some o → G' a = some o) : Le G G' := fun a o e _ => h a o e
theorem Le.refl (G : Hp) : Le G G := fun _ _ e _ => e
theorem Le.trans {G G1 G2 : Hp} (a : Le G G1) (b : Le G1 G2) : Le G G2 := fun c o e t => b c o (a c o e t) t
theorem hide_le {O : Addr → Prop} {H : Hp} : Le (hide O H) H := Le.of fun a o e => (of_hide e).2
theorem hide_mono {O O' M : Addr → Prop} {H H' : Hp} (s : Step M H H') (hM : ∀ a, M a → O a) (hO : ∀ a o, H a = some o → O' a → O a) : Le (hide O H) (hide O' H') := fun a o e t => by
  obtain ⟨h1, h2⟩ := of_hide e
  rw [hide_of fun z => h1 (hO a o h2 z)]
  exact s.keep a o (fun z => h1 (hM a z)) h2 t

theorem Rd.le {G G' : Hp} {a : Addr} {u : HO} (e : Le G G') (h : Rd G a u) (t : ∀ ps, u ≠ .tbl ps) : Rd G' a u := by
  rcases h with h | ⟨o, h⟩
  · exact .inl (e a _ h t)
  · exact .inr ⟨o, e a _ h (fun ps z => by cases z)⟩
theorem sql_le {K : PySem.W.Frag} {G G' : Hp} {a : Addr} {xs : List V} (e : Le G G') (h : SqL K G a xs) : SqL K G' a xs := by
  rcases h with h | h
  · exact .inl (Rd.le e h fun ps z => by cases z)
  · exact .inr h
theorem sqt_le {K : PySem.W.Frag} {G G' : Hp} {a : Addr} {xs : List V} (e : Le G G') (h : SqT K G a xs) : SqT K G' a xs := by
  rcases h with h | h
  · exact .inl (Rd.le e h fun ps z => by cases z)
  · exact .inr h
/-- a tuple whose object is known to bear no dict -/
def NoD (K : PySem.W.Frag) (G : Hp) (a : Addr) : Prop := (∃ o u, G a = some (.frz o u) ∧ o.dict = none) ∨ ∃ o, K.lookup a = some o ∧ o.dict = none
theorem NoD.le {K : PySem.W.Frag} {G G' : Hp} {a : Addr} (e : Le G G') (h : NoD K G a) : NoD K G' a := by
  rcases h with ⟨o, u, h1, h2⟩ | h
  · exact .inl ⟨o, u, e a _ h1 (fun ps z => by cases z), h2⟩
  · exact .inr h
mutual
inductive Dp (K : PySem.W.Frag) (H : Hp) : V → PyData → Prop
  | non : Dp K H .non .none
  | bl (b : Bool) : Dp K H (.bl b) (.bool b)
  | int (i : Int) : Dp K H (.int i) (.int i)
  | str (x : Str) : Dp K H (.str x) (.str x)
  | lst {a : Addr} {xs : List V} {ds : List PyData} : SqL K H a xs → DpAll K H xs ds → Dp K H (.ref a) (.list ds)
  | tup {a : Addr} {xs : List V} {ds : List PyData} : SqT K H a xs → NoD K H a → DpAll K H xs ds → Dp K H (.ref a) (.tuple ds)
inductive DpAll (K : PySem.W.Frag) (H : Hp) : List V → List PyData → Prop
  | nil : DpAll K H [] []
  | cons {v : V} {vs : List V} {d : PyData} {ds : List PyData} : Dp K H v d → DpAll K H vs ds → DpAll K H (v :: vs) (d :: ds)
end
mutual
theorem dp_le {K : PySem.W.Frag} {G G' : Hp} (e : Le G G') : ∀ {v : V} {d : PyData}, Dp K G v d → Dp K G' v d
  | _, _, .non => .non
  | _, _, .bl b => .bl b
  | _, _, .int i => .int i
  | _, _, .str x => .str x
  | _, _, .lst h a => .lst (sql_le e h) (dpa_le e a)
  | _, _, .tup h n a => .tup (sqt_le e h) (n.le e) (dpa_le e a)
theorem dpa_le {K : PySem.W.Frag} {G G' : Hp} (e : Le G G') : ∀ {vs : List V} {ds : List PyData}, DpAll K G vs ds → DpAll K G' vs ds
  | _, _, .nil => .nil
  | _, _, .cons h a => .cons (dp_le e h) (dpa_le e a)
end
mutual
theorem dp_l2 {K : PySem.W.Frag} {G : Hp} : ∀ {v : V} {d : PyData}, Dp K G v d → L2.Dp K G v d
  | _, _, .non => .non
  | _, _, .bl b => .bl b
  | _, _, .int i => .int i
  | _, _, .str x => .str x
  | _, _, .lst h a => .lst h (dpa_l2 a)
  | _, _, .tup h _ a => .tup h (dpa_l2 a)
theorem dpa_l2 {K : PySem.W.Frag} {G : Hp} : ∀ {vs : List V} {ds : List PyData}, DpAll K G vs ds → L2.DpAll K G vs ds
  | _, _, .nil => .nil
  | _, _, .cons h a => .cons (dp_l2 h) (dpa_l2 a)
end

section
variable {K : PySem.W.Frag} {G : Hp}
theorem dpa_len : ∀ {vs : List V} {ds : List PyData}, DpAll K G vs ds → vs.length = ds.length
  | _, _, .nil => rfl
  | _, _, .cons _ a => by rw [List.length_cons, List.length_cons, dpa_len a]
theorem dpa_get : ∀ {vs : List V} {ds : List PyData} {i : Nat} {d : PyData}, DpAll K G vs ds → ds[i]? = some d → ∃ v, vs[i]? = some v ∧ Dp K G v d
  | _, _, _, _, .nil, e => by cases e
  | _, _, 0, _, .cons h _, e => by cases e; exact ⟨_, rfl, h⟩
  | _, _, i + 1, d, .cons _ a, e => by
    obtain ⟨v, h1, h2⟩ := dpa_get (i := i) a e
    exact ⟨v, h1, h2⟩
theorem dpa_getV : ∀ {vs : List V} {ds : List PyData} {i : Nat} {v : V}, DpAll K G vs ds → vs[i]? = some v → ∃ d, ds[i]? = some d ∧ Dp K G v d
  | _, _, _, _, .nil, e => by cases e
  | _, _, 0, _, .cons h _, e => by cases e; exact ⟨_, rfl, h⟩
  | _, _, i + 1, v, .cons _ a, e => by
    obtain ⟨d, h1, h2⟩ := dpa_getV (i := i) a e
    exact ⟨d, h1, h2⟩
theorem dpa_append : ∀ {vs ws : List V} {ds es : List PyData}, DpAll K G vs ds → DpAll K G ws es → DpAll K G (vs ++ ws) (ds ++ es)
  | _, _, _, _, .nil, b => b
  | _, _, _, _, .cons h a, b => .cons h (dpa_append a b)
theorem dpa_take : ∀ {vs : List V} {ds : List PyData} (n : Nat), DpAll K G vs ds → DpAll K G (vs.take n) (ds.take n)
  | _, _, 0, _ => .nil
  | _, _, _ + 1, .nil => .nil
  | _, _, n + 1, .cons h a => .cons h (dpa_take n a)
theorem dpa_drop : ∀ {vs : List V} {ds : List PyData} (n : Nat), DpAll K G vs ds → DpAll K G (vs.drop n) (ds.drop n)
  | _, _, 0, a => a
  | _, _, _ + 1, .nil => .nil
  | _, _, n + 1, .cons _ a => dpa_drop n a
theorem dpa_set : ∀ {vs : List V} {ds : List PyData} {v : V} {d : PyData} (i : Nat), DpAll K G vs ds → Dp K G v d → DpAll K G (vs.set i v) (ds.set i d)
  | _, _, _, _, _, .nil, _ => .nil
  | _, _, _, _, 0, .cons _ a, h => .cons h a
  | _, _, _, _, i + 1, .cons g a, h => .cons g (dpa_set i a h)
theorem dpa_erase : ∀ {vs : List V} {ds : List PyData} (i : Nat), DpAll K G vs ds → DpAll K G (vs.eraseIdx i) (ds.eraseIdx i)
  | _, _, _, .nil => .nil
  | _, _, 0, .cons _ a => a
  | _, _, i + 1, .cons g a => .cons g (dpa_erase i a)
theorem dpa_rev {vs : List V} {ds : List PyData} (a : DpAll K G vs ds) : DpAll K G vs.reverse ds.reverse := by
  induction vs generalizing ds with
  | nil => cases a; exact .nil
  | cons v vs ih =>
    cases a with
    | cons h a =>
      rw [List.reverse_cons, List.reverse_cons]
      exact dpa_append (ih a) (.cons h .nil)
theorem dpa_ints : ∀ {vs : List V} {ns : List Int}, DpAll K G vs (ns.map PyData.int) → vs = ns.map V.int
  | _, [], .nil => rfl
  | _, n :: ns, .cons h a => by
    cases h
    rw [dpa_ints a]
    rfl
theorem ints_dpa : ∀ (ns : List Int), DpAll K G (ns.map V.int) (ns.map PyData.int)
  | [] => .nil
  | n :: ns => .cons (.int n) (ints_dpa ns)
end

/-- a value as it is known: nothing, data, or a list that may be written -/
inductive Sl where
  | no | dat (d : PyData) | own (a : Addr)
abbrev Sto := List (Addr × List PyData)
def get (S : Sto) (a : Addr) : Option (List PyData) := (S.find? fun p => p.1 == a).map (·.2)
def put (S : Sto) (a : Addr) (ds : List PyData) : Sto := S.map fun p => if p.1 == a then (a, ds) else p
def dom (S : Sto) : List Addr := S.map (·.1)
theorem put_dom (S : Sto) (a : Addr) (ds : List PyData) : dom (put S a ds) = dom S := by
  unfold dom put
  rw [List.map_map]
  apply List.map_congr_left
  intro p _
  show (if (p.1 == a) = true then (a, ds) else p).1 = p.1
  by_cases h : p.1 = a
  · rw [if_pos (by simpa using h)]
    exact h.symm
  · rw [if_neg (by simpa using h)]
theorem get_mem {S : Sto} {a : Addr} {ds : List PyData} (h : get S a = some ds) : (a, ds) ∈ S := by
  unfold get at h
  cases q : S.find? fun p => p.1 == a with
  | none => rw [q] at h; cases h
  | some p =>
    rw [q] at h
    cases h
    have h1 := List.find?_some q
    have h2 : p.1 = a := by simpa using h1
    rw [← h2]
    exact List.mem_of_find?_eq_some q
theorem mem_put {S : Sto} {a : Addr} {ds : List PyData} {p : Addr × List PyData} (h : p ∈ put S a ds) : (p = (a, ds) ∧ a ∈ dom S) ∨ (p ∈ S ∧ p.1 ≠ a) := by
  unfold put at h
  obtain ⟨q, hq, e⟩ := List.mem_map.mp h
  by_cases hc : q.1 = a
  · rw [if_pos (by simpa using hc)] at e
    exact .inl ⟨e.symm, List.mem_map.mpr ⟨q, hq, hc⟩⟩
  · rw [if_neg (by simpa using hc)] at e
    rw [← e]
    exact .inr ⟨hq, hc⟩
theorem get_cons_same (S : Sto) (a : Addr) (ds : List PyData) : get ((a, ds) :: S) a = some ds := by
  unfold get
  rw [List.find?_cons_of_pos (by simp)]
  rfl
theorem put_cons_same (S : Sto) (a : Addr) (ds es : List PyData) (h : a ∉ dom S) : put ((a, ds) :: S) a es = (a, es) :: S := by
  unfold put
  rw [List.map_cons, if_pos (by simp)]
  congr 1
  have : ∀ p ∈ S, (if (p.1 == a) = true then (a, es) else p) = p := fun p hp => by
    rw [if_neg]
    intro z
    exact h (List.mem_map.mpr ⟨p, hp, by simpa using z⟩)
  rw [List.map_congr_left this]
  exact List.map_id' S

/-- the frame of a def's run: what its callers hide, what it may write of it, the heap at its entry -/
structure Fm where
  O : Addr → Prop
  M : Addr → Prop
  H : Hp
def Fm.OS (F : Fm) (S : Sto) : Addr → Prop := fun a => F.O a ∨ a ∈ dom S
def Own (S : Sto) : Addr → Prop := fun a => a ∈ dom S

def VOk (K : PySem.W.Frag) (G : Hp) (v : V) : Sl → Prop
  | .no => True
  | .dat d => Dp K G v d
  | .own a => v = .ref a
theorem VOk.le {K : PySem.W.Frag} {G G' : Hp} {v : V} {s : Sl} (e : Le G G') (h : VOk K G v s) : VOk K G' v s := by
  cases s with
  | no => trivial
  | dat d => exact dp_le e h
  | own a => exact h
def SOk (K : PySem.W.Frag) (G : Hp) (σ : St) (i : Nat) (s : Sl) : Prop := s = .no ∨ ∃ v, σ[i]? = some (some v) ∧ VOk K G v s
theorem SOk.le {K : PySem.W.Frag} {G G' : Hp} {σ : St} {i : Nat} {s : Sl} (e : Le G G') (h : SOk K G σ i s) : SOk K G' σ i s := by
  rcases h with h | ⟨v, h1, h2⟩
  · exact .inl h
  · exact .inr ⟨v, h1, h2.le e⟩

def OwnOk (K : PySem.W.Frag) (G H : Hp) (S : Sto) : Prop := ∀ p ∈ S, ∃ xs, H p.1 = some (.lst xs) ∧ DpAll K G xs p.2

structure Ok (K : PySem.W.Frag) (TL : List Addr) (F : Fm) (S : Sto) (E : List Sl) (σ : St) (H : Hp) : Prop where
  tab : ∀ P ∈ TL, TabG H P
  step : Step F.M F.H H
  own : OwnOk K (hide (F.OS S) H) H S
  may : ∀ p ∈ dom S, F.M p ∨ F.H p = none
  nd : (dom S).Nodup
  ent : ∀ a, F.O a → F.H a ≠ none
  sub : ∀ a, F.M a → F.O a
  len : σ.length = E.length
  env : ∀ i s, E[i]? = some s → SOk K (hide (F.OS S) H) σ i s

section
variable {K : PySem.W.Frag} {TL : List Addr} {F : Fm} {S S' : Sto} {E : List Sl} {σ : St} {H H' : Hp}
theorem Ok.dom_at (o : Ok K TL F S E σ H) {p : Addr} (h : p ∈ dom S) : ∃ xs, H p = some (.lst xs) := by
  obtain ⟨q, hq, e⟩ := List.mem_map.mp h
  obtain ⟨xs, h1, _⟩ := o.own q hq
  exact ⟨xs, by rw [← e]; exact h1⟩
theorem Ok.fresh (o : Ok K TL F S E σ H) {p : Addr} (h : H p = none) : ¬ F.OS S p := fun z => by
  rcases z with z | z
  · exact o.ent p z (o.step.old p h)
  · obtain ⟨xs, h1⟩ := o.dom_at z
    rw [h] at h1
    cases h1
theorem laid_le {O : Addr → Prop} {p : Addr} {u : HO} (h : H p = none) : Le (hide O H) (hide O (upd H p u)) :=
  hide_mono (Step.new (M := fun _ => False) h) (fun _ z => z.elim) fun _ _ _ z => z
/-- the tables stand when something new is laid -/
theorem tab_laid {p : Addr} {u : HO} {P : Addr} (h : H p = none) (t : TabG H P) : TabG (upd H p u) P := by
  obtain ⟨ps, h1, h2⟩ := t
  exact ⟨ps, by rw [upd_ne (ne_of_none h1 h)]; exact h1, h2⟩
/-- something new was laid -/
theorem Ok.laid (o : Ok K TL F S E σ H) {p : Addr} {u : HO} (h : H p = none) : Ok K TL F S E σ (upd H p u) := by
  have le : Le (hide (F.OS S) H) (hide (F.OS S) (upd H p u)) := laid_le h
  refine ⟨fun P hP => tab_laid h (o.tab P hP), o.step.trans (Step.new h), fun q hq => ?_, o.may, o.nd, o.ent, o.sub, o.len, fun i s e => (o.env i s e).le le⟩
  obtain ⟨xs, h1, h2⟩ := o.own q hq
  exact ⟨xs, by rw [upd_ne (ne_of_none h1 h)]; exact h1, dpa_le le h2⟩
theorem laid_at (o : Ok K TL F S E σ H) {p : Addr} {u : HO} (h : H p = none) : hide (F.OS S) (upd H p u) p = some u := by
  rw [hide_of (o.fresh h), upd_same]
theorem dom_cons (p : Addr) (ds : List PyData) : dom ((p, ds) :: S) = p :: dom S := rfl
/-- a new list that is ours -/
theorem Ok.laidOwn (o : Ok K TL F S E σ H) {p : Addr} {xs : List V} {ds : List PyData} (h : H p = none) (a : DpAll K (hide (F.OS S) H) xs ds) :
    Ok K TL F ((p, ds) :: S) E σ (upd H p (.lst xs)) ∧ F.H p = none := by
  have pn : F.H p = none := o.step.old p h
  have le : Le (hide (F.OS S) H) (hide (F.OS ((p, ds) :: S)) (upd H p (.lst xs))) := hide_mono (Step.new (M := fun _ => False) h) (fun _ z => z.elim) fun b u e z => by
    rcases z with z | z
    · exact .inl z
    · rcases List.mem_cons.mp z with z | z
      · rw [z, h] at e
        cases e
      · exact .inr z
  refine ⟨⟨fun P hP => tab_laid h (o.tab P hP), o.step.trans (Step.new h), fun q hq => ?_, fun q hq => ?_, ?_, o.ent, o.sub, o.len, fun i s e => (o.env i s e).le le⟩, pn⟩
  · rcases List.mem_cons.mp hq with z | hq
    · rw [z]
      exact ⟨xs, upd_same, dpa_le le a⟩
    · obtain ⟨ys, h1, h2⟩ := o.own q hq
      exact ⟨ys, by rw [upd_ne (ne_of_none h1 h)]; exact h1, dpa_le le h2⟩
  · rcases List.mem_cons.mp hq with z | hq
    · rw [z]
      exact .inr pn
    · exact o.may q hq
  · rw [dom_cons]
    refine List.nodup_cons.mpr ⟨fun z => ?_, o.nd⟩
    obtain ⟨ys, h1⟩ := o.dom_at z
    rw [h] at h1
    cases h1
/-- a list of ours becomes data -/
theorem Ok.release {p : Addr} {ds : List PyData} (o : Ok K TL F ((p, ds) :: S) E σ H) (hp : F.H p = none) : Ok K TL F S E σ H ∧ Dp K (hide (F.OS S) H) (.ref p) (.list ds) := by
  have le : Le (hide (F.OS ((p, ds) :: S)) H) (hide (F.OS S) H) := hide_mono (Step.refl (fun _ => False) H) (fun _ z => z.elim) fun b u e z => by
    rcases z with z | z
    · exact .inl z
    · exact .inr (List.mem_cons_of_mem _ z)
  have nd := List.nodup_cons.mp (show (p :: dom S).Nodup from o.nd)
  refine ⟨⟨o.tab, o.step, fun q hq => ?_, fun q hq => o.may q (List.mem_cons_of_mem _ hq), nd.2, o.ent, o.sub, o.len, fun i s e => (o.env i s e).le le⟩, ?_⟩
  · obtain ⟨ys, h1, h2⟩ := o.own q (List.mem_cons_of_mem _ hq)
    exact ⟨ys, h1, dpa_le le h2⟩
  · obtain ⟨ys, h1, h2⟩ := o.own (p, ds) List.mem_cons_self
    refine .lst (.inl (.inl ?_)) (dpa_le le h2)
    rw [hide_of fun z => ?_]
    · exact h1
    · rcases z with z | z
      · exact o.ent p z hp
      · exact nd.1 z
/-- a list of ours is written -/
theorem Ok.write (o : Ok K TL F S E σ H) {p : Addr} {xs : List V} {ds : List PyData} (h : p ∈ dom S) (a : DpAll K (hide (F.OS S) H) xs ds) : Ok K TL F (put S p ds) E σ (upd H p (.lst xs)) := by
  have hOS : F.OS (put S p ds) = F.OS S := by
    funext b
    unfold Fm.OS
    rw [put_dom]
  have le : Le (hide (F.OS S) H) (hide (F.OS S) (upd H p (.lst xs))) := hide_mono (Step.set (M := fun a => a = p) rfl) (fun b z => by rw [z]; exact .inr h) fun _ _ _ z => z
  obtain ⟨zs, hz⟩ := o.dom_at h
  refine ⟨fun P hP => ?_, ?_, fun q hq => ?_, fun q hq => ?_, ?_, o.ent, o.sub, o.len, fun i s e => ?_⟩
  · obtain ⟨ps, h1, h2⟩ := o.tab P hP
    exact ⟨ps, by rw [upd_ne (ne_of h1 hz (fun z => by cases z))]; exact h1, h2⟩
  · rcases o.may p h with m | m
    · exact o.step.trans (Step.set m)
    · refine ⟨fun b u n e t => ?_, fun b e => o.step.old b (upd_none e)⟩
      rw [upd_ne (ne_of_none e m)]
      exact o.step.keep b u n e t
  · rw [hOS]
    rcases mem_put hq with ⟨z, _⟩ | ⟨z, n⟩
    · rw [z]
      exact ⟨xs, upd_same, dpa_le le a⟩
    · obtain ⟨ys, h1, h2⟩ := o.own q z
      exact ⟨ys, by rw [upd_ne n]; exact h1, dpa_le le h2⟩
  · rw [put_dom] at hq
    exact o.may q hq
  · rw [put_dom]
    exact o.nd
  · rw [hOS]
    exact (o.env i s e).le le
/-- a slot is set -/
theorem Ok.set (o : Ok K TL F S E σ H) {v : V} {s : Sl} (i : Nat) (hv : VOk K (hide (F.OS S) H) v s) : Ok K TL F S (E.set i s) (σ.set i (some v)) H := by
  refine ⟨o.tab, o.step, o.own, o.may, o.nd, o.ent, o.sub, by rw [List.length_set, List.length_set]; exact o.len, fun j r e => ?_⟩
  by_cases hj : i = j
  · subst hj
    have hi : i < E.length := by
      have := (List.getElem?_eq_some_iff.mp e).1
      rw [List.length_set] at this
      exact this
    rw [List.getElem?_set_self hi] at e
    cases e
    exact .inr ⟨v, by rw [List.getElem?_set_self (by rw [o.len]; exact hi)], hv⟩
  · rw [List.getElem?_set_ne hj] at e
    rcases o.env j r e with z | ⟨w, h1, h2⟩
    · exact .inl z
    · exact .inr ⟨w, by rw [List.getElem?_set_ne hj]; exact h1, h2⟩
/-- less may be known of the slots -/
theorem Ok.weak {E' : List Sl} {σ' : St} (o : Ok K TL F S E σ H) (hl : σ'.length = E'.length) (h : ∀ (i : Nat) (s : Sl), E'[i]? = some s → s = Sl.no ∨ (E[i]? = some s ∧ σ'[i]? = σ[i]?)) : Ok K TL F S E' σ' H := by
  refine ⟨o.tab, o.step, o.own, o.may, o.nd, o.ent, o.sub, hl, fun i s e => ?_⟩
  rcases h i s e with z | ⟨h1, h2⟩
  · exact .inl z
  · rcases o.env i s h1 with z | ⟨v, g1, g2⟩
    · exact .inl z
    · exact .inr ⟨v, by rw [h2]; exact g1, g2⟩

/-- the frame anew, from here on -/
def Fm.at (F : Fm) (S : Sto) (H : Hp) : Fm := ⟨fun a => F.O a, fun a => F.M a, H⟩
def Fm.re (F : Fm) (S : Sto) (H : Hp) : Fm := ⟨F.OS S, F.OS S, H⟩
theorem Ok.os_live (o : Ok K TL F S E σ H) {a : Addr} (h : F.OS S a) : H a ≠ none := fun z => o.fresh z h
end
end PL
namespace PL
open PySem L2
section
variable {K : PySem.W.Frag} {TL : List Addr} {F : Fm} {S S' : Sto} {E : List Sl} {σ : St} {H H' : Hp}
/-- how a list or tuple is read: itself in the whole heap, its items hidden from what is written -/
def Sh (K : PySem.W.Frag) (G H : Hp) (v : V) : PyData → Prop
  | .list ds => ∃ a xs, v = .ref a ∧ SqL K H a xs ∧ DpAll K G xs ds
  | d => Dp K G v d
theorem Sh.tup {G : Hp} {v : V} {ds : List PyData} (le : Le G H) (h : Sh K G H v (.tuple ds)) : ∃ a xs, v = .ref a ∧ SqT K H a xs ∧ DpAll K G xs ds ∧ Dp K G v (.tuple ds) := by
  have h1 : Dp K G v (.tuple ds) := h
  have h2 := h1
  cases h1 with
  | tup g n a => exact ⟨_, _, rfl, sqt_le le g, a, h2⟩
def view (S : Sto) : Sl → Option PyData
  | .no => none
  | .dat d => some d
  | .own a => (get S a).map .list
theorem sh_of {G : Hp} {v : V} {d : PyData} (le : Le G H) (h : Dp K G v d) : Sh K G H v d := by
  cases h with
  | non => exact .non
  | bl b => exact .bl b
  | int i => exact .int i
  | str x => exact .str x
  | lst h a => exact ⟨_, _, rfl, sql_le le h, a⟩
  | tup h n a => exact Dp.tup h n a
theorem Ok.sh (o : Ok K TL F S E σ H) {v : V} {r : Sl} {d : PyData} (hv : VOk K (hide (F.OS S) H) v r) (h : view S r = some d) : Sh K (hide (F.OS S) H) H v d := by
  cases r with
  | no => cases h
  | dat e =>
    cases h
    exact sh_of hide_le hv
  | own a =>
    cases q : get S a with
    | none =>
      have h : (get S a).map PyData.list = some d := h
      rw [q] at h
      cases h
    | some ds =>
      have h : (get S a).map PyData.list = some d := h
      rw [q] at h
      cases h
      obtain ⟨xs, h1, h2⟩ := o.own _ (get_mem q)
      exact ⟨a, xs, hv, .inl (.inl h1), h2⟩
theorem Sh.dp {G : Hp} {v : V} {d : PyData} (le : Le G H) (h : Sh K G H v d) : Dp K H v d := by
  cases d with
  | list ds =>
    obtain ⟨a, xs, rfl, h1, h2⟩ := h
    exact .lst h1 (dpa_le le h2)
  | tuple ds => exact dp_le le h
  | none => exact dp_le le h
  | bool b => exact dp_le le h
  | int i => exact dp_le le h
  | str x => exact dp_le le h
  | dict kvs => exact dp_le le h
end
end PL

set_option maxHeartbeats 1000000
namespace PL
open PySem L2 PyProof.Rows
open GxR (TabG)

inductive VOks (K : PySem.W.Frag) (G : Hp) : List V → List Sl → Prop
  | nil : VOks K G [] []
  | cons {v : V} {r : Sl} {vs : List V} {rs : List Sl} : VOk K G v r → VOks K G vs rs → VOks K G (v :: vs) (r :: rs)
theorem VOks.le {K : PySem.W.Frag} {G G' : Hp} (e : Le G G') : ∀ {vs : List V} {rs : List Sl}, VOks K G vs rs → VOks K G' vs rs
  | _, _, .nil => .nil
  | _, _, .cons h a => .cons (h.le e) (VOks.le e a)
theorem VOks.dats {K : PySem.W.Frag} {G : Hp} : ∀ {vs : List V} {ds : List PyData}, VOks K G vs (ds.map Sl.dat) → DpAll K G vs ds
  | _, [], .nil => .nil
  | _, _ :: _, .cons h a => .cons h (VOks.dats a)
theorem VOks.append {K : PySem.W.Frag} {G : Hp} : ∀ {vs ws : List V} {rs ts : List Sl}, VOks K G vs rs → VOks K G ws ts → VOks K G (vs ++ ws) (rs ++ ts)
  | _, _, _, _, .nil, b => b
  | _, _, _, _, .cons h a, b => .cons h (VOks.append a b)
theorem dpa_voks {K : PySem.W.Frag} {G : Hp} : ∀ {vs : List V} {ds : List PyData}, DpAll K G vs ds → VOks K G vs (ds.map Sl.dat)
  | _, _, .nil => .nil
  | _, _, .cons h a => .cons h (dpa_voks a)

section
variable (K : PySem.W.Frag) (TL : List Addr) (F : Fm)
def EX (te : TE) (S : Sto) (E : List Sl) (Kp : Sl → Sto → Prop) : Prop := ∀ σ H, Ok K TL F S E σ H → ∀ Q : VK,
  (∀ v r S' H', Ok K TL F S' E σ H' → dom S' = dom S → Step (Own S) H H' → VOk K (hide (F.OS S') H') v r → Kp r S' → Q v H') → te σ H Q
def TX (tt : TT) (S : Sto) (E : List Sl) (Kb : Bool → Sto → Prop) : Prop := ∀ σ H, Ok K TL F S E σ H → ∀ Q : Bool → Hp → Prop,
  (∀ b S' H', Ok K TL F S' E σ H' → dom S' = dom S → Step (Own S) H H' → Kb b S' → Q b H') → tt σ H Q
def AX (ta : TA) (S : Sto) (E : List Sl) (Ka : List Sl → Sto → Prop) : Prop := ∀ σ H, Ok K TL F S E σ H → ∀ Q : List V → Hp → Prop,
  (∀ vs rs S' H', Ok K TL F S' E σ H' → dom S' = dom S → Step (Own S) H H' → VOks K (hide (F.OS S') H') vs rs → Ka rs S' → Q vs H') → ta σ H Q
/-- a new list -/
def EN (te : TE) (S : Sto) (E : List Sl) (Kn : List PyData → Sto → Prop) : Prop := ∀ σ H, Ok K TL F S E σ H → ∀ Q : VK,
  (∀ p ds S' H', F.H p = none → Ok K TL F ((p, ds) :: S') E σ H' → dom S' = dom S → Step (Own S) H H' → Kn ds S' → Q (.ref p) H') → te σ H Q
end
section
variable {K : PySem.W.Frag} {TL : List Addr} {F : Fm} {S S' S1 : Sto} {E : List Sl} {Kp : Sl → Sto → Prop} {Kb : Bool → Sto → Prop} {Ka : List Sl → Sto → Prop} {Kn : List PyData → Sto → Prop} {ta tb te tc : TE} {tt tu : TT} {H H' : Hp}

theorem own_eq (h : dom S' = dom S) : Own S' = Own S := by
  funext a
  unfold Own
  rw [h]
theorem os_eq (h : dom S' = dom S) : F.OS S' = F.OS S := by
  funext a
  unfold Fm.OS
  rw [h]
/-- what was known of a value stays known -/
theorem step_le (s : Step (Own S) H H') (h : dom S' = dom S) : Le (hide (F.OS S) H) (hide (F.OS S') H') := by
  rw [os_eq h]
  exact hide_mono s (fun a z => .inr z) fun _ _ _ z => z

theorem ex_var {i : Nat} {r : Sl} (h : E[i]? = some r) (hn : (match r with | .no => false | _ => true) = true) (k : Kp r S) : EX K TL F (tVar i) S E Kp := fun σ H o Q q => by
  rcases o.env i r h with z | ⟨v, h1, h2⟩
  · subst z
    cases hn
  · exact ⟨v, h1, q v r S H o rfl (Step.refl _ _) h2 k⟩
def cV : V → Option PyData
  | .non => some .none
  | .bl b => some (.bool b)
  | .int i => some (.int i)
  | .str x => some (.str x)
  | _ => none
theorem cV_dp {G : Hp} : ∀ {v : V} {d : PyData}, cV v = some d → Dp K G v d
  | .non, _, h => by cases h; exact .non
  | .bl b, _, h => by cases h; exact .bl b
  | .int i, _, h => by cases h; exact .int i
  | .str x, _, h => by cases h; exact .str x
  | .byt _, _, h => by cases h
  | .flt _, _, h => by cases h
  | .ref _, _, h => by cases h
  | .ty _, _, h => by cases h
theorem ex_c {v : V} {d : PyData} (h : cV v = some d) (k : Kp (.dat d) S) : EX K TL F (tC v) S E Kp := fun σ H o Q q => q v (.dat d) S H o rfl (Step.refl _ _) (cV_dp h) k
/-- data out of it -/
theorem ex_new (h : EN K TL F te S E fun ds S' => Kp (.dat (.list ds)) S') : EX K TL F te S E Kp := fun σ H o Q q => h σ H o Q fun p ds S' H' hp o' hd hs k => by
  obtain ⟨o2, d2⟩ := o'.release hp
  exact q (.ref p) (.dat (.list ds)) S' H' o2 hd hs d2 k

/-- the outcome of an operation: no change, or something new -/
def Res (K : PySem.W.Frag) (G H : Hp) (z : V) (d : PyData) (H' : Hp) : Prop :=
  (H' = H ∧ Dp K G z d) ∨ (∃ q o, H q = none ∧ H' = upd H q o ∧ ∀ G', Le G G' → G' q = some o → Dp K G' z d)
theorem Res.same {G : Hp} {z : V} {d : PyData} (h : Dp K G z d) : Res K G H z d H := .inl ⟨rfl, h⟩
theorem Res.tup {G : Hp} {q : Addr} {o : Obj} {xs : List V} {ds : List PyData} (h : H q = none) (ho : o.dict = none) (a : DpAll K G xs ds) : Res K G H (.ref q) (.tuple ds) (upd H q (.frz o (.tup xs))) :=
  .inr ⟨q, _, h, rfl, fun G' le e => .tup (.inl (.inr ⟨o, e⟩)) (.inl ⟨o, _, e, ho⟩) (dpa_le le a)⟩
theorem Res.lst {G : Hp} {q : Addr} {xs : List V} {ds : List PyData} (h : H q = none) (a : DpAll K G xs ds) : Res K G H (.ref q) (.list ds) (upd H q (.lst xs)) :=
  .inr ⟨q, _, h, rfl, fun G' le e => .lst (.inl (.inl e)) (dpa_le le a)⟩
theorem Res.done {σ : St} {z : V} {d : PyData} {Q : VK} (o : Ok K TL F S E σ H) (r : Res K (hide (F.OS S) H) H z d H')
    (q : ∀ v r S' H', Ok K TL F S' E σ H' → dom S' = dom S → Step (Own S) H H' → VOk K (hide (F.OS S') H') v r → Kp r S' → Q v H') (k : Kp (.dat d) S) : Q z H' := by
  rcases r with ⟨rfl, h⟩ | ⟨p, u, hp, rfl, h⟩
  · exact q z (.dat d) S H' o rfl (Step.refl _ _) h k
  · exact q z (.dat d) S _ (o.laid hp) rfl (Step.new hp) (h _ (laid_le hp) (laid_at o hp)) k

class OpP (K : PySem.W.Frag) (r : R2) (p : outParam (PyData → PyData → PyData → Prop)) : Prop where
  go : ∀ {G H : Hp} {v w : V} {a b d : PyData} {Q : VK}, Le G H → Sh K G H v a → Sh K G H w b → p a b d → (∀ z H', Res K G H z d H' → Q z H') → r v w H Q
theorem ex_op {r : R2} {p : PyData → PyData → PyData → Prop} [hp : OpP K r p]
    (h : EX K TL F ta S E fun a S1 => EX K TL F tb S1 E fun b S2 => ∃ d1 d2 d, view S2 a = some d1 ∧ view S2 b = some d2 ∧ p d1 d2 d ∧ Kp (.dat d) S2) : EX K TL F (tOp r ta tb) S E Kp := fun σ H o Q q =>
  h σ H o _ fun v a S1 H1 o1 e1 s1 v1 k1 => k1 σ H1 o1 _ fun w b S2 H2 o2 e2 s2 v2 ⟨d1, d2, d, h1, h2, hd, k⟩ => by
    have hs : Step (Own S) H H2 := s1.trans (by rw [← own_eq e1]; exact s2)
    refine hp.go hide_le (o2.sh (v1.le (step_le s2 e2)) h1) (o2.sh v2 h2) hd fun z H3 r3 => ?_
    exact Res.done (Kp := Kp) o2 r3 (fun v r S' H' q1 q2 q3 q4 q5 => q v r S' H' q1 (q2.trans (e2.trans e1)) (hs.trans (by rw [← own_eq (e2.trans e1)]; exact q3)) q4 q5) k
class UnP (K : PySem.W.Frag) (r : V → Hp → VK → Prop) (p : outParam (PyData → PyData → Prop)) : Prop where
  go : ∀ {G H : Hp} {v : V} {a d : PyData} {Q : VK}, Le G H → Sh K G H v a → p a d → (∀ z H', Res K G H z d H' → Q z H') → r v H Q
theorem ex_un {r : V → Hp → VK → Prop} {p : PyData → PyData → Prop} [hp : UnP K r p]
    (h : EX K TL F ta S E fun a S1 => ∃ d1 d, view S1 a = some d1 ∧ p d1 d ∧ Kp (.dat d) S1) : EX K TL F (tUn r ta) S E Kp := fun σ H o Q q =>
  h σ H o _ fun v a S1 H1 o1 e1 s1 v1 ⟨d1, d, h1, hd, k⟩ => by
    refine hp.go hide_le (o1.sh v1 h1) hd fun z H3 r3 => ?_
    exact Res.done (Kp := Kp) o1 r3 (fun v r S' H' q1 q2 q3 q4 q5 => q v r S' H' q1 (q2.trans e1) (s1.trans (by rw [← own_eq e1]; exact q3)) q4 q5) k

/-! ### arguments -/
theorem ax_nil (k : Ka [] S) : AX K TL F tNil S E Ka := fun σ H o Q q => q [] [] S H o rfl (Step.refl _ _) .nil k
theorem ax_cons {tr : TA} (h : EX K TL F ta S E fun a S1 => AX K TL F tr S1 E fun rs S2 => Ka (a :: rs) S2) : AX K TL F (tCons ta tr) S E Ka := fun σ H o Q q =>
  h σ H o _ fun v a S1 H1 o1 e1 s1 v1 k1 => k1 σ H1 o1 _ fun vs rs S2 H2 o2 e2 s2 v2 k2 =>
    q (v :: vs) (a :: rs) S2 H2 o2 (e2.trans e1) (s1.trans (by rw [← own_eq e1]; exact s2)) (.cons (v1.le (step_le s2 e2)) v2) k2
/-- *e, e a list or tuple -/
theorem ax_star {tr : TA} (h : EX K TL F ta S E fun a S1 => ∃ ds, (view S1 a = some (.tuple ds) ∨ view S1 a = some (.list ds)) ∧ AX K TL F tr S1 E fun rs S2 => Ka (ds.map Sl.dat ++ rs) S2) : AX K TL F (StX.tStar K ta tr) S E Ka := fun σ H o Q q =>
  h σ H o _ fun v a S1 H1 o1 e1 s1 v1 ⟨ds, hv, k1⟩ => by
    have main : ∀ (b : Addr) (xs : List V), v = .ref b → (SqT K H1 b xs ∨ SqL K H1 b xs) → DpAll K (hide (F.OS S1) H1) xs ds → ∃ a xs, v = V.ref a ∧ (SqT K H1 a xs ∨ SqL K H1 a xs) ∧ tr σ H1 fun vs H2 => Q (xs ++ vs) H2 := fun b xs ev hs hd =>
      ⟨b, xs, ev, hs, k1 σ H1 o1 _ fun vs rs S2 H2 o2 e2 s2 v2 k2 =>
        q (xs ++ vs) (ds.map Sl.dat ++ rs) S2 H2 o2 (e2.trans e1) (s1.trans (by rw [← own_eq e1]; exact s2)) (VOks.append (dpa_voks (dpa_le (step_le s2 e2) hd)) v2) k2⟩
    rcases hv with hv | hv
    · obtain ⟨b, xs, ev, h1, h2, _⟩ := (o1.sh v1 hv).tup hide_le
      exact main b xs ev (.inl h1) h2
    · obtain ⟨b, xs, ev, h1, h2⟩ := o1.sh v1 hv
      exact main b xs ev (.inr h1) h2
/-- rs is data all through -/
def dats : List Sl → Option (List PyData)
  | [] => some []
  | .dat d :: rs => (dats rs).map (d :: ·)
  | _ :: _ => none
theorem dats_eq : ∀ {rs : List Sl} {ds : List PyData}, dats rs = some ds → rs = ds.map Sl.dat
  | [], _, h => by cases h; rfl
  | .dat d :: rs, ds, h => by
    have h : (dats rs).map (d :: ·) = some ds := h
    cases q : dats rs with
    | none => rw [q] at h; cases h
    | some es =>
      rw [q] at h
      cases h
      rw [dats_eq q]
      rfl
  | .no :: _, _, h => by cases h
  | .own _ :: _, _, h => by cases h
theorem dats_map : ∀ ds : List PyData, dats (ds.map Sl.dat) = some ds
  | [] => rfl
  | d :: ds => by
    show (dats (ds.map Sl.dat)).map (d :: ·) = some (d :: ds)
    rw [dats_map ds]
    rfl
theorem dats_app : ∀ {ds : List PyData} {rs : List Sl} {es : List PyData}, dats rs = some es → dats (ds.map Sl.dat ++ rs) = some (ds ++ es)
  | [], _, _, h => h
  | d :: ds, rs, es, h => by
    show (dats (ds.map Sl.dat ++ rs)).map (d :: ·) = _
    rw [dats_app h]
    rfl
theorem le_size {n : Nat} (h : n ≤ 1000000) : n ≤ sizeLine := Nat.le_trans h (by decide)
theorem lt_size {n : Nat} (h : n < 1000000) : n < sizeLine := Nat.lt_of_lt_of_le h (by decide)
/-- (a, b, ..), the object known -/
def tTupF (t : TA) : TE := fun σ H Q => t σ H fun xs H1 => xs.length ≤ sizeLine ∧ ∀ p o, H1 p = none → o.dict = none → Q (.ref p) (upd H1 p (.frz o (.tup xs)))
theorem pe_tupF {X : Cx} {es : List Expr} {t : TA} {pos : Pos} {x1} (h : PA X es t) : PE X (.Tuple es x1 pos) (tTupF t) := by
  refine ⟨fun pins s σ H Q I hq => ?_⟩
  refine wpAny_Tuple_spliced (thn (h.run pos pins s σ H _ I hq) fun us s1 ⟨xs, H1, I1, r, z, q⟩ => ⟨by rw [← r.length]; exact z, ?_⟩)
  have hf : H1 s1.heap.objs.size = none := I1.hok.fresh (Nat.le_refl _)
  refine ⟨.ref s1.heap.objs.size, upd H1 s1.heap.objs.size (.frz { cls := .type "tuple", data := .seq us.toArray } (.tup xs)), I1.laid (t' := s1.toks) (fun b u e => Heap.get?_push_of_some _ e) (Nat.le_refl _) ?_, rfl, q _ _ hf rfl⟩
  exact ⟨Heap.get?_push_size _ rfl, z, us, r, ⟨_, Heap.get?_push_size _ rfl, rfl, _, rfl⟩⟩
theorem ex_tup {t : TA} (h : AX K TL F t S E fun rs S1 => ∃ ds, dats rs = some ds ∧ ds.length ≤ 1000000 ∧ Kp (.dat (.tuple ds)) S1) : EX K TL F (tTupF t) S E Kp := fun σ H o Q q =>
  h σ H o _ fun vs rs S1 H1 o1 e1 s1 v1 ⟨ds, hr, hl, k⟩ => by
    rw [dats_eq hr] at v1
    have a := v1.dats
    refine ⟨by rw [dpa_len a]; exact le_size hl, fun p ob hp ho => ?_⟩
    exact Res.done (Kp := Kp) o1 (Res.tup hp ho a) (fun v r S' H' q1 q2 q3 q4 q5 => q v r S' H' q1 (q2.trans e1) (s1.trans (by rw [← own_eq e1]; exact q3)) q4 q5) k
theorem en_lst {t : TA} (h : AX K TL F t S E fun rs S1 => ∃ ds, dats rs = some ds ∧ ds.length ≤ 1000000 ∧ Kn ds S1) : EN K TL F (tLst t) S E Kn := fun σ H o Q q =>
  h σ H o _ fun vs rs S1 H1 o1 e1 s1 v1 ⟨ds, hr, hl, k⟩ => by
    rw [dats_eq hr] at v1
    have a := v1.dats
    refine ⟨by rw [dpa_len a]; exact le_size hl, fun p hp => ?_⟩
    obtain ⟨o2, hp2⟩ := o1.laidOwn hp a
    exact q p ds S1 _ hp2 o2 e1 (s1.trans (Step.new hp)) k

/-! ### tests -/
theorem tx_test (h : EX K TL F te S E fun r S1 => ∃ b, r = .dat (.bool b) ∧ Kb b S1) : TX K TL F (tTest te) S E Kb := fun σ H o Q q =>
  h σ H o _ fun v r S1 H1 o1 e1 s1 v1 ⟨b, er, k⟩ => by
    subst er
    cases v1
    exact ⟨b, rfl, q b S1 H1 o1 e1 s1 k⟩
theorem tx_B (h : EX K TL F te S E fun r S1 => ∃ b, r = .dat (.bool b) ∧ Kb b S1) : TX K TL F (tB te) S E Kb := fun σ H o Q q =>
  h σ H o _ fun v r S1 H1 o1 e1 s1 v1 ⟨b, er, k⟩ => by
    subst er
    cases v1
    exact ⟨b, rfl, q b S1 H1 o1 e1 s1 k⟩
theorem tx_and (h : TX K TL F tt S E fun b S1 => if b = true then TX K TL F tu S1 E Kb else Kb false S1) : TX K TL F (tAnd tt tu) S E Kb := fun σ H o Q q =>
  h σ H o _ fun b S1 H1 o1 e1 s1 k => by
    cases b with
    | true =>
      have k : TX K TL F tu S1 E Kb := k
      exact k σ H1 o1 Q fun c S2 H2 o2 e2 s2 k2 => q c S2 H2 o2 (e2.trans e1) (s1.trans (by rw [← own_eq e1]; exact s2)) k2
    | false => exact q false S1 H1 o1 e1 s1 k
theorem tx_or (h : TX K TL F tt S E fun b S1 => if b = true then Kb true S1 else TX K TL F tu S1 E Kb) : TX K TL F (tOr tt tu) S E Kb := fun σ H o Q q =>
  h σ H o _ fun b S1 H1 o1 e1 s1 k => by
    cases b with
    | true => exact q true S1 H1 o1 e1 s1 k
    | false =>
      have k : TX K TL F tu S1 E Kb := k
      exact k σ H1 o1 Q fun c S2 H2 o2 e2 s2 k2 => q c S2 H2 o2 (e2.trans e1) (s1.trans (by rw [← own_eq e1]; exact s2)) k2
theorem tx_not (h : TX K TL F tt S E fun b S1 => Kb (!b) S1) : TX K TL F (tNot tt) S E Kb := fun σ H o Q q => h σ H o _ fun b S1 H1 o1 e1 s1 k => q (!b) S1 H1 o1 e1 s1 k
theorem ex_andV (h : EX K TL F ta S E fun r S1 => ∃ b, r = .dat (.bool b) ∧ if b = true then EX K TL F tb S1 E Kp else Kp (.dat (.bool false)) S1) : EX K TL F (tAndV ta tb) S E Kp := fun σ H o Q q =>
  h σ H o _ fun v r S1 H1 o1 e1 s1 v1 ⟨b, er, k⟩ => by
    subst er
    cases v1
    refine ⟨b, rfl, ?_⟩
    cases b with
    | true =>
      have k : EX K TL F tb S1 E Kp := k
      exact k σ H1 o1 Q fun w r S2 H2 o2 e2 s2 v2 k2 => q w r S2 H2 o2 (e2.trans e1) (s1.trans (by rw [← own_eq e1]; exact s2)) v2 k2
    | false => exact q (.bl false) (.dat (.bool false)) S1 H1 o1 e1 s1 (Dp.bl false) k
theorem ex_orV (h : EX K TL F ta S E fun r S1 => ∃ b, r = .dat (.bool b) ∧ if b = true then Kp (.dat (.bool true)) S1 else EX K TL F tb S1 E Kp) : EX K TL F (tOrV ta tb) S E Kp := fun σ H o Q q =>
  h σ H o _ fun v r S1 H1 o1 e1 s1 v1 ⟨b, er, k⟩ => by
    subst er
    cases v1
    refine ⟨b, rfl, ?_⟩
    cases b with
    | true => exact q (.bl true) (.dat (.bool true)) S1 H1 o1 e1 s1 (Dp.bl true) k
    | false =>
      have k : EX K TL F tb S1 E Kp := k
      exact k σ H1 o1 Q fun w r S2 H2 o2 e2 s2 v2 k2 => q w r S2 H2 o2 (e2.trans e1) (s1.trans (by rw [← own_eq e1]; exact s2)) v2 k2
theorem ex_notV (h : EX K TL F ta S E fun r S1 => ∃ b, r = .dat (.bool b) ∧ Kp (.dat (.bool (!b))) S1) : EX K TL F (tNotV ta) S E Kp := fun σ H o Q q =>
  h σ H o _ fun v r S1 H1 o1 e1 s1 v1 ⟨b, er, k⟩ => by
    subst er
    cases v1
    exact ⟨b, rfl, q (.bl (!b)) (.dat (.bool (!b))) S1 H1 o1 e1 s1 (Dp.bl (!b)) k⟩
theorem ex_if (h : TX K TL F tt S E fun b S1 => if b = true then EX K TL F ta S1 E Kp else EX K TL F tb S1 E Kp) : EX K TL F (tIf tt ta tb) S E Kp := fun σ H o Q q =>
  h σ H o _ fun b S1 H1 o1 e1 s1 k => by
    cases b with
    | true =>
      have k : EX K TL F ta S1 E Kp := k
      exact k σ H1 o1 Q fun w r S2 H2 o2 e2 s2 v2 k2 => q w r S2 H2 o2 (e2.trans e1) (s1.trans (by rw [← own_eq e1]; exact s2)) v2 k2
    | false =>
      have k : EX K TL F tb S1 E Kp := k
      exact k σ H1 o1 Q fun w r S2 H2 o2 e2 s2 v2 k2 => q w r S2 H2 o2 (e2.trans e1) (s1.trans (by rw [← own_eq e1]; exact s2)) v2 k2
/-- a op b op' c -/
theorem ex_chain {r r' : R2} {p p' : PyData → PyData → PyData → Prop} [hp : OpP K r p] [hp' : OpP K r' p']
    (h : EX K TL F ta S E fun a S1 => EX K TL F tb S1 E fun b S2 => ∃ d1 d2 c, view S2 a = some d1 ∧ view S2 b = some d2 ∧ p d1 d2 (.bool c) ∧
      if c = true then EX K TL F tc S2 E fun e S3 => ∃ d2 d3 d, view S3 b = some d2 ∧ view S3 e = some d3 ∧ p' d2 d3 d ∧ Kp (.dat d) S3 else Kp (.dat (.bool false)) S2) : EX K TL F (tChain r r' ta tb tc) S E Kp := fun σ H o Q q =>
  h σ H o _ fun v a S1 H1 o1 e1 s1 v1 k1 => k1 σ H1 o1 _ fun w b S2 H2 o2 e2 s2 v2 ⟨d1, d2, c, h1, h2, hd, k⟩ => by
    have hs : Step (Own S) H H2 := s1.trans (by rw [← own_eq e1]; exact s2)
    have he := e2.trans e1
    refine hp.go hide_le (o2.sh (v1.le (step_le s2 e2)) h1) (o2.sh v2 h2) hd fun z H3 r3 => ?_
    rcases r3 with ⟨rfl, z2⟩ | ⟨pp, u, hp1, rfl, z2⟩
    · cases z2
      refine ⟨c, rfl, ?_⟩
      cases c with
      | false => exact q (.bl false) (.dat (.bool false)) S2 _ o2 he hs (Dp.bl false) k
      | true =>
        have k : EX K TL F tc S2 E fun e S3 => ∃ d2 d3 d, view S3 b = some d2 ∧ view S3 e = some d3 ∧ p' d2 d3 d ∧ Kp (.dat d) S3 := k
        refine k σ _ o2 _ fun x e S3 H4 o4 e4 s4 v4 ⟨d2, d3, d, g2, g3, hd', k'⟩ => ?_
        have hs4 : Step (Own S) H H4 := hs.trans (by rw [← own_eq he]; exact s4)
        refine hp'.go hide_le (o4.sh (v2.le (step_le s4 e4)) g2) (o4.sh v4 g3) hd' fun z H5 r5 => ?_
        exact Res.done (Kp := Kp) o4 r5 (fun v r S' H' q1 q2 q3 q4 q5 => q v r S' H' q1 (q2.trans (e4.trans he)) (hs4.trans (by rw [← own_eq (e4.trans he)]; exact q3)) q4 q5) k'
    · have z3 : Dp K (hide (F.OS S2) (upd H2 pp u)) z (.bool c) := z2 _ (laid_le hp1) (laid_at o2 hp1)
      have o3 := o2.laid (u := u) hp1
      have hs3 : Step (Own S) H (upd H2 pp u) := hs.trans (Step.new hp1)
      cases z3
      refine ⟨c, rfl, ?_⟩
      cases c with
      | false => exact q (.bl false) (.dat (.bool false)) S2 _ o3 he hs3 (Dp.bl false) k
      | true =>
        have k : EX K TL F tc S2 E fun e S3 => ∃ d2 d3 d, view S3 b = some d2 ∧ view S3 e = some d3 ∧ p' d2 d3 d ∧ Kp (.dat d) S3 := k
        refine k σ _ o3 _ fun x e S3 H4 o4 e4 s4 v4 ⟨d2, d3, d, g2, g3, hd', k'⟩ => ?_
        have hs4 : Step (Own S) H H4 := hs3.trans (by rw [← own_eq he]; exact s4)
        refine hp'.go hide_le (o4.sh ((v2.le (laid_le hp1)).le (step_le s4 e4)) g2) (o4.sh v4 g3) hd' fun z H5 r5 => ?_
        exact Res.done (Kp := Kp) o4 r5 (fun v r S' H' q1 q2 q3 q4 q5 => q v r S' H' q1 (q2.trans (e4.trans he)) (hs4.trans (by rw [← own_eq (e4.trans he)]; exact q3)) q4 q5) k'
end
end PL

set_option maxHeartbeats 1000000
namespace PL
open PySem L2
open GxR (TabG)

section
variable {K : PySem.W.Frag} {TL : List Addr} {F : Fm} {S S' : Sto} {E E' : List Sl} {σ σ' : St} {H H' : Hp}
/-- the frame of a part of the run that begins at H -/
def Fm.fr (F : Fm) (S : Sto) (H : Hp) : Fm := ⟨F.OS S, fun a => F.M a ∨ a ∈ dom S, H⟩
theorem fr_os : (F.fr S H).OS S = F.OS S := by
  funext a
  exact propext ⟨fun z => z.elim id .inr, .inl⟩
theorem fr_sub {a : Addr} (h : F.OS S' a) : (F.fr S H).OS S' a := h.elim (fun z => .inl (.inl z)) .inr
theorem Ok.fr (o : Ok K TL F S E σ H) : Ok K TL (F.fr S H) S E σ H := by
  refine ⟨o.tab, Step.refl _ _, ?_, fun p hp => .inl (.inr hp), o.nd, fun a h => o.os_live h, fun a h => ?_, o.len, ?_⟩
  · rw [fr_os]
    exact o.own
  · rcases h with h | h
    · exact .inl (o.sub a h)
    · exact .inr h
  · rw [fr_os]
    exact o.env
theorem fr_hide : Le (hide ((F.fr S H).OS S') H') (hide (F.OS S') H') := hide_mono (Step.refl (fun _ => False) _) (fun _ z => z.elim) fun a o _ z => fr_sub z
theorem Ok.back (o : Ok K TL F S E σ H) (o' : Ok K TL (F.fr S H) S' E' σ' H') : Ok K TL F S' E' σ' H' := by
  refine ⟨o'.tab, ⟨fun a u n e t => ?_, fun a e => o.step.old a (o'.step.old a e)⟩, fun p hp => ?_, fun p hp => ?_, o'.nd, o.ent, o.sub, o'.len, fun i s e => (o'.env i s e).le fr_hide⟩
  · refine o'.step.keep a u (fun z => ?_) (o.step.keep a u n e t) t
    rcases z with z | z
    · exact n z
    · rcases o.may a z with m | m
      · exact n m
      · rw [e] at m
        cases m
  · obtain ⟨xs, h1, h2⟩ := o'.own p hp
    exact ⟨xs, h1, dpa_le fr_hide h2⟩
  · rcases o'.may p hp with (m | m) | m
    · exact .inl m
    · exact o.may p m
    · exact .inr (o.step.old p m)
theorem Ok.le_in (o : Ok K TL F S E σ H) (o' : Ok K TL (F.fr S H) S' E' σ' H') : Le (hide (F.OS S) H) (hide ((F.fr S H).OS S') H') := by
  refine hide_mono o'.step (fun a z => ?_) fun a u e z => ?_
  · rcases z with z | z
    · exact .inl (o.sub a z)
    · exact .inr z
  · rcases z with z | z
    · exact z
    · rcases o'.may a z with (m | m) | m
      · exact .inl (o.sub a m)
      · exact .inr m
      · have m : H a = none := m
        rw [e] at m
        cases m
theorem Ok.le_fr (o : Ok K TL F S E σ H) (o' : Ok K TL (F.fr S H) S' E' σ' H') : Le (hide (F.OS S) H) (hide (F.OS S') H') := (o.le_in o').trans fr_hide
end

section
variable (K : PySem.W.Frag) (TL : List Addr) (F : Fm)
def SX (ts : TS) (S : Sto) (E : List Sl) (N : Sto → List Sl → Prop) (R : Sl → Sto → Prop) (B C : Sto → List Sl → Prop) : Prop := ∀ σ H, Ok K TL F S E σ H → ∀ D : Ends,
  (∀ S' E' σ' H', Ok K TL F S' E' σ' H' → N S' E' → D.nx σ' H') → (∀ v r S' E' σ' H', Ok K TL F S' E' σ' H' → VOk K (hide (F.OS S') H') v r → R r S' → D.rt v H') →
  (∀ S' E' σ' H', Ok K TL F S' E' σ' H' → B S' E' → D.bk σ' H') → (∀ S' E' σ' H', Ok K TL F S' E' σ' H' → C S' E' → D.ct σ' H') → ts D σ H
end
section
variable {K : PySem.W.Frag} {TL : List Addr} {F : Fm} {S S' S1 : Sto} {E : List Sl} {N B C : Sto → List Sl → Prop} {R : Sl → Sto → Prop} {ta tb te tc : TE} {tt : TT} {t u : TS} {H H' : Hp}
theorem sx_seq (h : SX K TL F t S E (fun S' E' => SX K TL F u S' E' N R B C) R B C) : SX K TL F (tSeq t u) S E N R B C := fun σ H o D n r b c =>
  h σ H o { D with nx := u D } (fun S' E' σ' H' o' k => k σ' H' o' D n r b c) r b c
theorem sx_next (k : N S E) : SX K TL F tNext S E N R B C := fun σ H o D n r b c => n S E σ H o k
theorem sx_asg {i : Nat} (h : EX K TL F te S E fun r S' => N S' (E.set i r)) : SX K TL F (tAsg te (gName i)) S E N R B C := fun σ H o D n r b c =>
  h σ H o _ fun v s S' H' o' e' s' v' k => n S' _ _ H' (o'.set i v') k
theorem sx_asgN {i : Nat} (h : EN K TL F te S E fun ds S' => ∀ p, F.H p = none → N ((p, ds) :: S') (E.set i (.own p))) : SX K TL F (tAsg te (gName i)) S E N R B C := fun σ H o D n r b c =>
  h σ H o _ fun p ds S' H' hp o' e' s' k => n _ _ _ H' (o'.set i (s := .own p) rfl) (k p hp)
theorem sx_ret (h : EX K TL F te S E R) : SX K TL F (tRet te) S E N R B C := fun σ H o D n r b c => h σ H o _ fun v s S' H' o' e' s' v' k => r v s S' E σ H' o' v' k
theorem sx_if (h : TX K TL F tt S E fun b S' => if b = true then SX K TL F t S' E N R B C else SX K TL F u S' E N R B C) : SX K TL F (tIfS tt t u) S E N R B C := fun σ H o D n r b c =>
  h σ H o _ fun q S' H' o' e' s' k => by
    cases q with
    | true =>
      have k : SX K TL F t S' E N R B C := k
      exact k σ H' o' D n r b c
    | false =>
      have k : SX K TL F u S' E N R B C := k
      exact k σ H' o' D n r b c
theorem sx_drop (h : EX K TL F te S E fun _ S' => N S' E) : SX K TL F (tDrop te) S E N R B C := fun σ H o D n r b c => h σ H o _ fun v s S' H' o' e' s' v' k => n S' E σ H' o' k
/-- less is known of the slots -/
theorem sx_mono {N' : Sto → List Sl → Prop} (h : SX K TL F t S E N' R B C) (hn : ∀ S' E', N' S' E' → N S' E') : SX K TL F t S E N R B C := fun σ H o D n r b c => h σ H o D (fun S' E' σ' H' o' k => n S' E' σ' H' o' (hn S' E' k)) r b c
/-- a list of ours becomes data -/
theorem sx_release {p : Addr} {ds : List PyData} {i : Nat} (hp : F.H p = none) (he : E[i]? = some (.own p)) (h : SX K TL F t S (E.set i (.dat (.list ds))) N R B C) : SX K TL F t ((p, ds) :: S) E N R B C := fun σ H o D n r b c => by
  obtain ⟨o2, d2⟩ := o.release hp
  have e1 : σ[i]? = some (some (.ref p)) := by
    rcases o.env i _ he with z | ⟨v, h1, h2⟩
    · cases z
    · have h2 : v = .ref p := h2
      rw [h1, h2]
  have o3 := o2.set (v := .ref p) (s := .dat (.list ds)) i d2
  have es : σ.set i (some (.ref p)) = σ := by
    apply List.ext_getElem?
    intro j
    by_cases hj : i = j
    · subst hj
      rw [List.getElem?_set_self (List.getElem?_eq_some_iff.mp e1).1, e1]
    · rw [List.getElem?_set_ne hj]
  rw [es] at o3
  exact h σ H o3 D n r b c

/-! ### lists of ours are written -/
theorem own_at {σ : St} {p : Addr} {ds : List PyData} (o : Ok K TL F S E σ H) (h : get S p = some ds) : p ∈ dom S ∧ ∃ xs, H p = some (.lst xs) ∧ DpAll K (hide (F.OS S) H) xs ds :=
  ⟨List.mem_map.mpr ⟨(p, ds), get_mem h, rfl⟩, o.own _ (get_mem h)⟩
theorem tyV_own {p : Addr} {xs : List V} (h : H p = some (.lst xs)) : tyV K "list" (.ref p) H := Or.inl ⟨rfl, xs, Or.inl (Or.inl h)⟩
theorem sx_append (h : EX K TL F ta S E fun a S1 => ∃ p, a = .own p ∧ p ∈ dom S1 ∧ EX K TL F te S1 E fun r S2 => ∃ d ds, r = .dat d ∧ get S2 p = some ds ∧ ds.length < 1000000 ∧ N (put S2 p (ds ++ [d])) E) :
    SX K TL F (tDrop (tBM K "list" rAppend ta (tCons te tNil))) S E N R B C := fun σ H o D n r b c =>
  h σ H o _ fun v a S1 H1 o1 e1 s1 v1 ⟨p, ea, hp, k1⟩ => by
    subst ea
    have ev : v = .ref p := v1
    subst ev
    obtain ⟨zs, hz⟩ := o1.dom_at hp
    refine ⟨tyV_own hz, k1 σ H1 o1 _ fun w r2 S2 H2 o2 e2 s2 v2 ⟨d, ds, er, hg, hl, k2⟩ => ?_⟩
    subst er
    obtain ⟨hm, xs, hx, hd⟩ := own_at o2 hg
    exact ⟨p, xs, w, rfl, rfl, hx, by rw [dpa_len hd]; exact lt_size hl, n _ _ _ _ (o2.write hm (dpa_append hd (.cons v2 .nil))) k2⟩
theorem sx_setL (h : EX K TL F te S E fun r S1 => ∃ d, r = .dat d ∧ EX K TL F ta S1 E fun a S2 => ∃ p, a = .own p ∧ EX K TL F tb S2 E fun i S3 => ∃ k j ds, i = .dat (.int k) ∧ get S3 p = some ds ∧ ixN ds.length k = some j ∧ N (put S3 p (ds.set j d)) E) :
    SX K TL F (tAsg te (gSub ta tb rSetL)) S E N R B C := fun σ H o D n r b c =>
  h σ H o _ fun v s S1 H1 o1 e1 s1 v1 ⟨d, es, k1⟩ => k1 σ H1 o1 _ fun w a S2 H2 o2 e2 s2 v2 ⟨p, ea, k2⟩ => k2 σ H2 o2 _ fun x i S3 H3 o3 e3 s3 v3 ⟨k, j, ds, ei, hg, hj, kk⟩ => by
    subst es ea ei
    have ev : w = .ref p := v2
    subst ev
    cases v3
    obtain ⟨hm, xs, hx, hd⟩ := own_at o3 hg
    refine ⟨p, xs, k, j, rfl, rfl, hx, by rw [dpa_len hd]; exact hj, n _ _ _ _ (o3.write hm (dpa_set j hd ?_)) kk⟩
    exact dp_le (step_le s3 e3) (dp_le (step_le s2 e2) v1)

end

/-! ### what is walked -/
/-- an item: data, or a new pair of data -/
inductive Itm where
  | one (d : PyData) | two (d1 d2 : PyData)
def IOk (K : PySem.W.Frag) (G : Hp) (v : V) : Itm → Prop
  | .one d => Dp K G v d
  | .two d1 d2 => ∃ a x1 x2, v = .ref a ∧ SqT K G a [x1, x2] ∧ Dp K G x1 d1 ∧ Dp K G x2 d2
theorem IOk.le {K : PySem.W.Frag} {G G' : Hp} {v : V} {it : Itm} (e : Le G G') (h : IOk K G v it) : IOk K G' v it := by
  cases it with
  | one d => exact dp_le e h
  | two d1 d2 =>
    obtain ⟨a, x1, x2, h1, h2, h3, h4⟩ := h
    exact ⟨a, x1, x2, h1, sqt_le e h2, dp_le e h3, dp_le e h4⟩
def IRes (K : PySem.W.Frag) (G H : Hp) (z : V) (it : Itm) (H' : Hp) : Prop :=
  (H' = H ∧ IOk K G z it) ∨ (∃ q o, H q = none ∧ H' = upd H q o ∧ ∀ G', Le G G' → G' q = some o → IOk K G' z it)
section
variable (K : PySem.W.Frag) (TL : List Addr) (F : Fm)
def IX (wi : TI) (S : Sto) (E : List Sl) (Ki : List Itm → Sto → Prop) : Prop := ∀ σ H, Ok K TL F S E σ H → ∀ R : It → Hp → Prop,
  (∀ J its S' H', Ok K TL F S' E σ H' → dom S' = dom S → Step (Own S) H H' → Walk J its.length (fun H2 => Le (hide (F.OS S') H') H2) (fun i H2 x H3 => ∃ it, its[i]? = some it ∧ IRes K (hide (F.OS S') H') H2 x it H3) → Ki its S' → R J H') → wi σ H R
/-- a target takes an item; vs: the slots that it may set -/
def GX (g : TG) (it : Itm) (S : Sto) (E : List Sl) (vs : List Nat) (Kg : List Sl → Prop) : Prop := ∀ σ H v, Ok K TL F S E σ H → IOk K (hide (F.OS S) H) v it → ∀ Q : St → Hp → Prop,
  (∀ σ' E', Ok K TL F S E' σ' H → σ'.length = σ.length → (∀ i, i ∉ vs → σ'[i]? = σ[i]?) → Kg E' → Q σ' H) → g v σ H Q
end
section
variable {K : PySem.W.Frag} {TL : List Addr} {F : Fm} {S S' S1 : Sto} {E : List Sl} {Ki : List Itm → Sto → Prop} {Kg : List Sl → Prop} {tl : TE} {H H' : Hp} {vs : List Nat}
theorem one_get {ds : List PyData} {i : Nat} {it : Itm} (h : (ds.map Itm.one)[i]? = some it) : ∃ d, ds[i]? = some d ∧ it = .one d := by
  rw [List.getElem?_map] at h
  cases q : ds[i]? with
  | none => rw [q] at h; cases h
  | some d =>
    rw [q] at h
    cases h
    exact ⟨d, rfl, rfl⟩
theorem get_one {ds : List PyData} {i : Nat} {d : PyData} (h : ds[i]? = some d) : (ds.map Itm.one)[i]? = some (.one d) := by
  rw [List.getElem?_map, h]
  rfl
theorem ix_tup (h : EX K TL F tl S E fun r S1 => ∃ ds, r = .dat (.tuple ds) ∧ Ki (ds.map .one) S1) : IX K TL F (iTup K tl) S E Ki := fun σ H o R q =>
  h σ H o _ fun v r S1 H1 o1 e1 s1 v1 ⟨ds, er, k⟩ => by
    subst er
    cases v1 with
    | @tup a xs ds hq hn ha =>
      refine ⟨a, rfl, ⟨xs, sqt_le hide_le hq⟩, q _ (ds.map .one) S1 H1 o1 e1 s1 ?_ k⟩
      rw [List.length_map, ← dpa_len ha]
      refine (walk_tup (K := K) (a := a) (xs := xs)).mono (fun H2 le => sqt_le le hq) fun i H2 x H3 hi le y => ?_
      obtain ⟨rfl, hx⟩ := y
      obtain ⟨d, h1, h2⟩ := dpa_getV ha hx
      exact ⟨.one d, get_one h1, .inl ⟨rfl, h2⟩⟩
theorem ix_list (h : EX K TL F tl S E fun r S1 => ∃ ds, r = .dat (.list ds) ∧ Ki (ds.map .one) S1) : IX K TL F (iList K tl) S E Ki := fun σ H o R q =>
  h σ H o _ fun v r S1 H1 o1 e1 s1 v1 ⟨ds, er, k⟩ => by
    subst er
    cases v1 with
    | @lst a xs ds hq ha =>
      refine ⟨a, rfl, ⟨xs, sql_le hide_le hq⟩, q _ (ds.map .one) S1 H1 o1 e1 s1 ?_ k⟩
      rw [List.length_map, ← dpa_len ha]
      refine (walk_list (K := K) (a := a) (xs := xs)).mono (fun H2 le => sql_le le hq) fun i H2 x H3 hi le y => ?_
      obtain ⟨rfl, hx⟩ := y
      obtain ⟨d, h1, h2⟩ := dpa_getV ha hx
      exact ⟨.one d, get_one h1, .inl ⟨rfl, h2⟩⟩
/-- over the list that an expression makes -/
theorem ix_listN (h : EN K TL F tl S E fun ds S1 => Ki (ds.map .one) S1) : IX K TL F (iList K tl) S E Ki := ix_list (ex_new fun σ H o Q q => h σ H o Q fun p ds S' H' a b c d e => q p ds S' H' a b c d ⟨ds, rfl, e⟩)
/-- the ints from lo on, below hi -/
def rgD (lo hi : Int) : List PyData := (List.range (hi - lo).toNat).map fun i => PyData.int (lo + (i : Nat))
theorem rgD_len (lo hi : Int) : (rgD lo hi).length = (hi - lo).toNat := by
  unfold rgD
  rw [List.length_map, List.length_range]
theorem rgD_get {lo hi : Int} {i : Nat} (h : i < (hi - lo).toNat) : (rgD lo hi)[i]? = some (.int (lo + i)) := by
  unfold rgD
  rw [List.getElem?_map, List.getElem?_range h]
  rfl
theorem rgD_some {lo hi : Int} {i : Nat} {d : PyData} (h : (rgD lo hi)[i]? = some d) : d = .int (lo + i) ∧ i < (hi - lo).toNat := by
  have hi' : i < (rgD lo hi).length := (List.getElem?_eq_some_iff.mp h).1
  rw [rgD_len] at hi'
  rw [rgD_get hi'] at h
  exact ⟨(Option.some.inj h).symm, hi'⟩
theorem ix_rng2 {tr : TA} (h : AX K TL F tr S E fun rs S1 => ∃ lo hi : Int, rs = [.dat (.int lo), .dat (.int hi)] ∧ (-1000000 ≤ lo ∧ lo ≤ 1000000 ∧ -1000000 ≤ hi ∧ hi ≤ 1000000) ∧ Ki ((rgD lo hi).map .one) S1) : IX K TL F (iRng2 tr) S E Ki := fun σ H o R q =>
  h σ H o _ fun vs rs S1 H1 o1 e1 s1 v1 ⟨lo, hi, er, hb, k⟩ => by
    subst er
    obtain ⟨rfl⟩ : vs = [.int lo, .int hi] := by
      cases v1 with
      | cons h1 v1 =>
        cases v1 with
        | cons h2 v1 =>
          cases v1
          cases h1
          cases h2
          rfl
    refine ⟨lo, hi, rfl, ⟨by omega, by omega, by omega, by omega⟩, q _ ((rgD lo hi).map .one) S1 H1 o1 e1 s1 ?_ k⟩
    rw [List.length_map, rgD_len]
    refine (walk_range (lo := lo) (n := (hi - lo).toNat)).mono (fun H2 le => trivial) fun i H2 x H3 hi' le y => ?_
    obtain ⟨rfl, rfl⟩ := y
    exact ⟨_, get_one (rgD_get hi'), .inl ⟨rfl, Dp.int _⟩⟩
theorem ix_rng1 {tr : TA} (h : AX K TL F tr S E fun rs S1 => ∃ hi : Int, rs = [.dat (.int hi)] ∧ (-1000000 ≤ hi ∧ hi ≤ 1000000) ∧ Ki ((rgD 0 hi).map .one) S1) : IX K TL F (iRng1 tr) S E Ki := fun σ H o R q =>
  h σ H o _ fun vs rs S1 H1 o1 e1 s1 v1 ⟨hi, er, hb, k⟩ => by
    subst er
    obtain ⟨rfl⟩ : vs = [.int hi] := by
      cases v1 with
      | cons h1 v1 =>
        cases v1
        cases h1
        rfl
    refine ⟨hi, rfl, by omega, by omega, q _ ((rgD 0 hi).map .one) S1 H1 o1 e1 s1 ?_ k⟩
    have e0 : (hi - 0).toNat = hi.toNat := by rw [Int.sub_zero]
    rw [List.length_map, rgD_len, e0]
    refine (walk_range (lo := 0) (n := hi.toNat)).mono (fun H2 le => trivial) fun i H2 x H3 hi' le y => ?_
    obtain ⟨rfl, rfl⟩ := y
    exact ⟨_, get_one (rgD_get (by rw [e0]; exact hi')), .inl ⟨rfl, Dp.int _⟩⟩
/-- the pairs of a zip -/
def zipD (xs ys : List PyData) : List Itm := (xs.zip ys).map fun p => .two p.1 p.2
theorem zipD_len (xs ys : List PyData) : (zipD xs ys).length = min xs.length ys.length := by
  unfold zipD
  rw [List.length_map, List.length_zip]
theorem zipD_get {xs ys : List PyData} {i : Nat} {x y : PyData} (h1 : xs[i]? = some x) (h2 : ys[i]? = some y) : (zipD xs ys)[i]? = some (.two x y) := by
  unfold zipD
  rw [List.getElem?_map, List.zip_eq_zipWith, List.getElem?_zipWith, h1, h2]
  rfl
theorem walk_zipT {a b : Addr} {xs ys : List V} : Walk (RZ.ItzT K a b) (min xs.length ys.length) (fun H => SqT K H a xs ∧ SqT K H b ys) (YPair (fun i => xs[i]?) (fun i => ys[i]?)) := by
  refine ⟨fun i _ hi q => ?_, fun _ q => ⟨xs, ys, q.1, q.2, by omega⟩, fun i H v H' _ q y => ?_⟩
  · have h1 : i < xs.length := by omega
    have h2 : i < ys.length := by omega
    exact ⟨xs, ys, xs[i], ys[i], q.1, q.2, by simp [h1], by simp [h2]⟩
  · obtain ⟨T, x, z, h1, h2, h3, h4, h5⟩ := y
    exact ⟨T, x, z, h1, h2, h3, h4 xs q.1, h5 ys q.2⟩
/-- a new pair -/
theorem IRes.pair {G : Hp} {T : Addr} {x1 x2 : V} {d1 d2 : PyData} (hT : H T = none) (h1 : Dp K G x1 d1) (h2 : Dp K G x2 d2) : IRes K G H (.ref T) (.two d1 d2) (upd H T (.tup [x1, x2])) :=
  .inr ⟨T, _, hT, rfl, fun G' le e => ⟨T, x1, x2, rfl, .inl (.inl e), dp_le le h1, dp_le le h2⟩⟩
theorem ix_zipT {tr : TA} (h : AX K TL F tr S E fun rs S1 => ∃ xs ys, rs = [.dat (.tuple xs), .dat (.tuple ys)] ∧ Ki (zipD xs ys) S1) : IX K TL F (RZ.iZipA K tr) S E Ki := fun σ H o R q =>
  h σ H o _ fun vs rs S1 H1 o1 e1 s1 v1 ⟨xs, ys, er, k⟩ => by
    subst er
    cases v1 with
    | cons h1 v1 =>
      cases v1 with
      | cons h2 v1 =>
        cases v1
        cases h1 with
        | @tup a us _ hq hn ha =>
          cases h2 with
          | @tup b ws _ hq2 hn2 ha2 =>
            refine ⟨a, b, us, ws, rfl, .inr ⟨sqt_le hide_le hq, sqt_le hide_le hq2, q _ (zipD xs ys) S1 H1 o1 e1 s1 ?_ k⟩⟩
            rw [zipD_len, ← dpa_len ha, ← dpa_len ha2]
            refine (walk_zipT (K := K) (a := a) (b := b) (xs := us) (ys := ws)).mono (fun H2 le => ⟨sqt_le le hq, sqt_le le hq2⟩) fun i H2 x H3 hi le y => ?_
            obtain ⟨T, x1, x2, rfl, hT, rfl, g1, g2⟩ := y
            obtain ⟨d1, p1, p2⟩ := dpa_getV ha g1
            obtain ⟨d2, p3, p4⟩ := dpa_getV ha2 g2
            exact ⟨_, zipD_get p1 p3, .pair hT p2 p4⟩
theorem gx_name {d : PyData} {j : Nat} (hj : j ∈ vs) (k : Kg (E.set j (.dat d))) : GX K TL F (gName j) (.one d) S E vs Kg := fun σ H v o hv Q q =>
  q _ _ (o.set j (s := .dat d) hv) (by rw [List.length_set]) (fun i hi => List.getElem?_set_ne fun z => hi (by rw [← z]; exact hj)) k
theorem gx_two {d1 d2 : PyData} {i j : Nat} (hi : i ∈ vs) (hj : j ∈ vs) (k : Kg ((E.set i (.dat d1)).set j (.dat d2))) : GX K TL F (gTup K 2 (gCons (gName i) (gCons (gName j) gNil))) (.two d1 d2) S E vs Kg := fun σ H v o hv Q q => by
  obtain ⟨a, x1, x2, ev, hq, h1, h2⟩ := hv
  subst ev
  refine ⟨a, _, rfl, sqt_le hide_le hq, rfl, _, _, rfl, _, _, rfl, rfl, ?_⟩
  have o1 := o.set i (s := .dat d1) h1
  have o2 := o1.set j (s := .dat d2) h2
  refine q _ _ o2 (by rw [List.length_set, List.length_set]) (fun m hm => ?_) k
  rw [List.getElem?_set_ne fun z => hm (by rw [← z]; exact hj), List.getElem?_set_ne fun z => hm (by rw [← z]; exact hi)]
theorem gx_pair {d1 d2 : PyData} {i j : Nat} (hi : i ∈ vs) (hj : j ∈ vs) (k : Kg ((E.set i (.dat d1)).set j (.dat d2))) : GX K TL F (gTup K 2 (gCons (gName i) (gCons (gName j) gNil))) (.one (.tuple [d1, d2])) S E vs Kg := fun σ H v o hv Q q => by
  have hv : Dp K (hide (F.OS S) H) v (.tuple [d1, d2]) := hv
  cases hv with
  | @tup a xs _ hq hn ha =>
    cases ha with
    | cons h1 ha =>
      cases ha with
      | cons h2 ha =>
        cases ha
        exact gx_two hi hj k σ H _ o ⟨a, _, _, rfl, hq, h1, h2⟩ Q q
end

/-! ### loops -/
section
variable {K : PySem.W.Frag} {TL : List Addr} {F : Fm} {S S' S1 : Sto} {E : List Sl} {N B C : Sto → List Sl → Prop} {R : Sl → Sto → Prop} {Kn : List PyData → Sto → Prop} {Kp : Sl → Sto → Prop} {te : TE} {tt : TT} {t : TS} {g : TG} {wi : TI} {H H' : Hp}
/-- an item that has come is data in the frame at hand -/
theorem res_ok {σ : St} {G : Hp} {x : V} {it : Itm} {H2 H3 : Hp} (o : Ok K TL F S E σ H2) (le : Le G (hide (F.OS S) H2)) (r : IRes K G H2 x it H3) : Ok K TL F S E σ H3 ∧ Step (fun _ => False) H2 H3 ∧ IOk K (hide (F.OS S) H3) x it := by
  rcases r with ⟨rfl, h⟩ | ⟨q, u, hq, rfl, h⟩
  · exact ⟨o, Step.refl _ _, h.le le⟩
  · exact ⟨o.laid hq, Step.new hq, h _ (le.trans (laid_le hq)) (laid_at o hq)⟩
/-- the loop's body is shown for every frame -/
theorem sx_for (vs : List Nat) (h : IX K TL F wi S E fun ds S1 => ∃ I : Nat → Sto → List Sl → Prop, I 0 S1 E ∧
      (∀ F i d S' E', ds[i]? = some d → I i S' E' → GX K TL F g d S' E' vs fun E2 => SX K TL F t S' E2 (I (i + 1)) R N (I (i + 1))) ∧ ∀ S' E', I ds.length S' E' → N S' E') :
    SX K TL F (tFor wi g t) S E N R B C := fun σ H o D n r b c =>
  h σ H o _ fun J ds S1 H1 o1 e1 s1 W ⟨I, h0, hs, hd⟩ => by
    refine for_it W (fun i σ' H' => ∃ S' E', Ok K TL (F.fr S1 H1) S' E' σ' H' ∧ I i S' E') ⟨S1, E, o1.fr, h0⟩ (fun i σ' H' _ p => ?_) (fun i x σ' H' H2 hi p y => ?_) fun σ' H' p => ?_
    · obtain ⟨S', E', o', _⟩ := p
      exact (o1.le_in o').trans hide_le
    · obtain ⟨S', E', o', k'⟩ := p
      obtain ⟨d, hd1, rr⟩ := y
      obtain ⟨o2, _, hv⟩ := res_ok o' (o1.le_in o') rr
      refine hs (F.fr S1 H1) i d S' E' hd1 k' _ _ _ o2 hv _ fun σ3 E3 o3 _ _ k3 => ?_
      exact k3 σ3 H2 o3 _ (fun S2 E2 σ2 H2 o2 k2 => ⟨S2, E2, o2, k2⟩) (fun w r2 S2 E2 σ2 H2 o2 v2 k2 => r w r2 S2 E2 σ2 H2 (o1.back o2) (v2.le fr_hide) k2) (fun S2 E2 σ2 H2 o2 k2 => n S2 E2 σ2 H2 (o1.back o2) k2) (fun S2 E2 σ2 H2 o2 k2 => ⟨S2, E2, o2, k2⟩)
    · obtain ⟨S', E', o', k'⟩ := p
      exact n S' E' σ' H' (o1.back o') (hd S' E' k')
end
end PL

set_option maxHeartbeats 1000000
namespace PL
open PySem L2
open GxR (TabG Tabbed)

def wipeE (E : List Sl) : List Nat → List Sl
  | [] => E
  | v :: vs => (wipeE E vs).set v .no
theorem wipeE_len (E : List Sl) : ∀ vs, (wipeE E vs).length = E.length
  | [] => rfl
  | v :: vs => by
    show ((wipeE E vs).set v .no).length = _
    rw [List.length_set, wipeE_len E vs]
theorem wipe_at (σ : St) : ∀ (vs : List Nat) (i : Nat), i ∉ vs → (wipe σ vs)[i]? = σ[i]?
  | [], _, _ => rfl
  | v :: vs, i, h => by
    have h1 : i ≠ v ∧ i ∉ vs := by
      rw [List.mem_cons, not_or] at h
      exact h
    show ((wipe σ vs).set v none)[i]? = _
    rw [List.getElem?_set_ne (fun z => h1.1 z.symm), wipe_at σ vs i h1.2]
theorem wipe_in (σ : St) : ∀ (vs : List Nat) (i : Nat), i ∈ vs → i < σ.length → (wipe σ vs)[i]? = some none
  | v :: vs, i, h, hl => by
    show ((wipe σ vs).set v none)[i]? = _
    by_cases e : v = i
    · rw [e, List.getElem?_set_self (by rw [wipe_length]; exact hl)]
    · rw [List.getElem?_set_ne e]
      rcases List.mem_cons.mp h with z | z
      · exact absurd z.symm e
      · exact wipe_in σ vs i z hl
theorem wipe_eq {σ σ' : St} {vs : List Nat} (hl : σ'.length = σ.length) (h : ∀ i, i ∉ vs → σ'[i]? = σ[i]?) : wipe σ' vs = wipe σ vs := by
  apply List.ext_getElem?
  intro i
  by_cases hi : i ∈ vs
  · by_cases hb : i < σ.length
    · rw [wipe_in σ' vs i hi (by rw [hl]; exact hb), wipe_in σ vs i hi hb]
    · rw [List.getElem?_eq_none (by rw [wipe_length, hl]; omega), List.getElem?_eq_none (by rw [wipe_length]; omega)]
  · rw [wipe_at σ' vs i hi, wipe_at σ vs i hi, h i hi]
theorem wipeE_some {E : List Sl} {s : Sl} : ∀ {vs : List Nat} {i : Nat}, (wipeE E vs)[i]? = some s → s = Sl.no ∨ (E[i]? = some s ∧ i ∉ vs)
  | [], _, h => .inr ⟨h, by simp⟩
  | v :: vs, i, h => by
    have h : ((wipeE E vs).set v .no)[i]? = some s := h
    by_cases e : v = i
    · subst e
      by_cases hb : v < (wipeE E vs).length
      · rw [List.getElem?_set_self hb] at h
        exact .inl (Option.some.inj h).symm
      · rw [List.getElem?_eq_none (by rw [List.length_set]; omega)] at h
        cases h
    · rw [List.getElem?_set_ne e] at h
      rcases wipeE_some h with z | ⟨z1, z2⟩
      · exact .inl z
      · exact .inr ⟨z1, by rw [List.mem_cons, not_or]; exact ⟨fun q => e q.symm, z2⟩⟩

section
variable {K : PySem.W.Frag} {TL : List Addr} {F : Fm} {S S' S1 : Sto} {E E1 : List Sl} {σ σ1 : St} {H H' H1 : Hp}
theorem Ok.wipe (o : Ok K TL F S E σ H) (vs : List Nat) : Ok K TL F S (wipeE E vs) (wipe σ vs) H :=
  o.weak (by rw [wipeE_len, wipe_length]; exact o.len) fun i s e => (wipeE_some e).elim .inl fun z => .inr ⟨z.1, wipe_at σ vs i z.2⟩
/-- the slots as they were known before -/
theorem Ok.envOf (o : Ok K TL F S' E1 σ1 H1) (o' : Ok K TL F S E σ H) (le : Le (hide (F.OS S') H1) (hide (F.OS S) H)) : Ok K TL F S E1 σ1 H :=
  ⟨o'.tab, o'.step, o'.own, o'.may, o'.nd, o'.ent, o'.sub, o.len, fun i s e => (o.env i s e).le le⟩
theorem os_in {p : Addr} {ds : List PyData} (h : F.O p) : F.OS ((p, ds) :: S) = F.OS S := by
  funext a
  refine propext ⟨fun z => ?_, fun z => z.elim .inl fun q => .inr (List.mem_cons_of_mem _ q)⟩
  rcases z with z | z
  · exact .inl z
  · rcases List.mem_cons.mp z with z | z
    · rw [z]
      exact .inl h
    · exact .inr z
theorem Ok.dropO {p : Addr} {ds : List PyData} (o : Ok K TL F ((p, ds) :: S) E σ H) (h : F.O p) : Ok K TL F S E σ H := by
  have e := os_in (F := F) (S := S) (ds := ds) h
  refine ⟨o.tab, o.step, fun q hq => ?_, fun q hq => o.may q (List.mem_cons_of_mem _ hq), (List.nodup_cons.mp (show (p :: dom S).Nodup from o.nd)).2, o.ent, o.sub, o.len, ?_⟩
  · rw [← e]
    exact o.own q (List.mem_cons_of_mem _ hq)
  · rw [← e]
    exact o.env
theorem Ok.addO {p : Addr} {xs : List V} {ds : List PyData} (o : Ok K TL F S E σ H) (h : F.O p) (hm : F.M p) (hp : H p = some (.lst xs)) (a : DpAll K (hide (F.OS S) H) xs ds) (n : p ∉ dom S) : Ok K TL F ((p, ds) :: S) E σ H := by
  have e := os_in (F := F) (S := S) (ds := ds) h
  refine ⟨o.tab, o.step, fun q hq => ?_, fun q hq => ?_, List.nodup_cons.mpr ⟨n, o.nd⟩, o.ent, o.sub, o.len, ?_⟩
  · rw [e]
    rcases List.mem_cons.mp hq with z | z
    · rw [z]
      exact ⟨xs, hp, a⟩
    · exact o.own q z
  · rcases List.mem_cons.mp hq with z | z
    · rw [z]
      exact .inl hm
    · exact o.may q z
  · rw [e]
    exact o.env
theorem hide_upd {O : Addr → Prop} {p : Addr} {u : HO} (h : O p) : hide O (upd H p u) = hide O H := by
  funext a
  unfold hide
  by_cases e : O a
  · rw [if_pos e, if_pos e]
  · rw [if_neg e, if_neg e, upd_ne fun z => e (by rw [z]; exact h)]
theorem Ok.writeO {p : Addr} {xs ys : List V} (o : Ok K TL F S E σ H) (h : F.O p) (hm : F.M p) (hp : H p = some (.lst xs)) (n : p ∉ dom S) : Ok K TL F S E σ (upd H p (.lst ys)) := by
  have e : hide (F.OS S) (upd H p (.lst ys)) = hide (F.OS S) H := hide_upd (.inl h)
  refine ⟨fun P hP => ?_, o.step.trans (Step.set hm), fun q hq => ?_, o.may, o.nd, o.ent, o.sub, o.len, ?_⟩
  · obtain ⟨ps, h1, h2⟩ := o.tab P hP
    exact ⟨ps, by rw [upd_ne (ne_of h1 hp (fun z => by cases z))]; exact h1, h2⟩
  · obtain ⟨zs, h1, h2⟩ := o.own q hq
    rw [e]
    exact ⟨zs, by rw [upd_ne fun z => n (by rw [← z]; exact List.mem_map.mpr ⟨q, hq, rfl⟩)]; exact h1, h2⟩
  · rw [e]
    exact o.env
end

section
variable {K : PySem.W.Frag} {TL : List Addr} {F : Fm} {S S' S1 : Sto} {E : List Sl} {Kn : List PyData → Sto → Prop} {Kp : Sl → Sto → Prop} {te : TE} {tt tt1 : TT} {g g1 : TG} {wi wi1 : TI} {H H' : Hp}

/-- a turn of a comprehension stands here: S1 the store at its start, H0 the heap with the new list -/
structure LcT (K : PySem.W.Frag) (TL : List Addr) (F1 : Fm) (D : Addr) (dm : List Addr) (H0 : Hp) (E : List Sl) (σ : St) (S : Sto) (acc : List PyData) (H : Hp) (m : Nat) : Prop where
  ok : Ok K TL F1 S E σ H
  hdm : dom S = dm
  step : Step (fun a => a = D ∨ a ∈ dm) H0 H
  lst : ∃ xs, H D = some (.lst xs) ∧ xs.length ≤ m ∧ DpAll K (hide (F1.OS S) H) xs acc

theorem LcT.move {F1 : Fm} {D : Addr} {dm : List Addr} {H0 : Hp} {E E' : List Sl} {σ σ' : St} {S S2 : Sto} {acc : List PyData} {H H2 : Hp} {m : Nat} (hD : D ∉ dm) (t : LcT K TL F1 D dm H0 E σ S acc H m) (o : Ok K TL F1 S2 E' σ' H2) (hd : dom S2 = dom S) (st : Step (Own S) H H2) :
    LcT K TL F1 D dm H0 E' σ' S2 acc H2 m := by
  have nD : ¬ Own S D := fun z => hD (by rw [← t.hdm]; exact z)
  refine ⟨o, hd.trans t.hdm, t.step.trans (st.mono fun a z => .inr (by rw [← t.hdm]; exact z)), ?_⟩
  obtain ⟨xs, h1, h2, h3⟩ := t.lst
  exact ⟨xs, st.keep D _ nD h1 (fun ps z => by cases z), h2, dpa_le (step_le st hd) h3⟩
theorem LcT.env {F1 : Fm} {D : Addr} {dm : List Addr} {H0 : Hp} {E E' : List Sl} {σ σ' : St} {S S2 : Sto} {acc acc' : List PyData} {H H2 : Hp} {m m' : Nat} (t : LcT K TL F1 D dm H0 E σ S acc H m) (t' : LcT K TL F1 D dm H0 E' σ' S2 acc' H2 m') (le : Le (hide (F1.OS S) H) (hide (F1.OS S2) H2)) :
    LcT K TL F1 D dm H0 E σ S2 acc' H2 m' := ⟨t.ok.envOf t'.ok le, t'.hdm, t'.step, t'.lst⟩
/-- an item is put behind the new list -/
theorem LcT.push {F1 : Fm} {D : Addr} {dm : List Addr} {H0 : Hp} {E : List Sl} {σ : St} {S : Sto} {acc : List PyData} {H : Hp} {m : Nat} {v : V} {d : PyData} (hD : D ∉ dm) (hO : F1.O D) (hM : F1.M D) (t : LcT K TL F1 D dm H0 E σ S acc H m) (hv : Dp K (hide (F1.OS S) H) v d) {xs : List V} (hx : H D = some (.lst xs)) :
    LcT K TL F1 D dm H0 E σ S (acc ++ [d]) (upd H D (.lst (xs ++ [v]))) (m + 1) := by
  have nD : D ∉ dom S := by rw [t.hdm]; exact hD
  obtain ⟨ys, h1, h2, h3⟩ := t.lst
  rw [hx] at h1
  cases h1
  refine ⟨t.ok.writeO hO hM hx nD, t.hdm, t.step.trans (Step.set (.inl rfl)), ⟨xs ++ [v], upd_same, ?_, ?_⟩⟩
  · rw [List.length_append]
    exact Nat.add_le_add_right h2 1
  · rw [hide_upd (.inl hO)]
    exact dpa_append h3 (.cons hv .nil)

/-- the element behind its tests, from a turn -/
theorem lc_itemL {F1 : Fm} {D : Addr} {dm : List Addr} {H0 : Hp} {Ew E2 : List Sl} {σw σ2 : St} {S0 S2 : Sto} {acc : List PyData} {Hw H2 : Hp} {m : Nat} {Nx : Hp → Prop} {I' : List PyData → Sto → Prop} (hD : D ∉ dm) (hO : F1.O D) (hM : F1.M D) (hm : m < 1000000)
    (t0 : LcT K TL F1 D dm H0 Ew σw S0 acc Hw m) (t2 : LcT K TL F1 D dm H0 E2 σ2 S2 acc H2 m) (le : Le (hide (F1.OS S0) Hw) (hide (F1.OS S2) H2))
    (k : TX K TL F1 tt S2 E2 fun b S3 => if b = true then EX K TL F1 te S3 E2 fun r S4 => ∃ d', r = .dat d' ∧ I' (acc ++ [d']) S4 else I' acc S3)
    (nx : ∀ acc' S' H', LcT K TL F1 D dm H0 Ew σw S' acc' H' (m + 1) → Le (hide (F1.OS S0) Hw) (hide (F1.OS S') H') → I' acc' S' → Nx H') :
    tt σ2 H2 fun b H3 => if b = true then te σ2 H3 fun y H4 => ∃ ac, H4 D = some (.lst ac) ∧ ac.length < sizeLine ∧ Nx (upd H4 D (.lst (ac ++ [y]))) else Nx H3 := by
  refine k σ2 H2 t2.ok _ fun b S3 H3 o3 e3 s3 k3 => ?_
  have t3 := t2.move hD o3 e3 s3
  have le3 := le.trans (step_le (F := F1) s3 e3)
  cases b with
  | false =>
    have t4 := t0.env t3 le3
    exact nx acc S3 H3 ⟨t4.ok, t4.hdm, t4.step, let ⟨xs, h1, h2, h3⟩ := t4.lst; ⟨xs, h1, Nat.le_succ_of_le h2, h3⟩⟩ le3 k3
  | true =>
    have k3 : EX K TL F1 te S3 E2 fun r S4 => ∃ d', r = .dat d' ∧ I' (acc ++ [d']) S4 := k3
    refine k3 σ2 H3 o3 _ fun y r S4 H4 o4 e4 s4 v4 ⟨d', er, k4⟩ => ?_
    subst er
    have t4 := t3.move hD o4 e4 s4
    have le4 := le3.trans (step_le (F := F1) s4 e4)
    have t5 := t0.env t4 le4
    obtain ⟨xs, h1, h2, h3⟩ := t4.lst
    have t6 := t5.push hD hO hM v4 h1
    refine ⟨xs, h1, lt_size (Nat.lt_of_le_of_lt h2 hm), nx _ S4 _ t6 ?_ k4⟩
    rw [hide_upd (.inl hO)]
    exact le4
theorem lc_item {F1 : Fm} {D : Addr} {dm : List Addr} {H0 : Hp} {Ew E2 : List Sl} {σw σ2 : St} {S0 S2 : Sto} {acc : List PyData} {Hw H2 : Hp} {m : Nat} {Nx : Hp → Prop} {I' : List PyData → Sto → Prop} (hD : D ∉ dm) (hO : F1.O D) (hM : F1.M D) (hm : m < 1000000)
    (t0 : LcT K TL F1 D dm H0 Ew σw S0 acc Hw m) (t2 : LcT K TL F1 D dm H0 E2 σ2 S2 acc H2 m) (le : Le (hide (F1.OS S0) Hw) (hide (F1.OS S2) H2))
    (k : TX K TL F1 tt S2 E2 fun b S3 => if b = true then EX K TL F1 te S3 E2 fun r S4 => ∃ d', r = .dat d' ∧ I' (acc ++ [d']) S4 else I' acc S3)
    (nx : ∀ acc' S' H', LcT K TL F1 D dm H0 Ew σw S' acc' H' (m + 1) → I' acc' S' → Nx H') :
    tt σ2 H2 fun b H3 => if b = true then te σ2 H3 fun y H4 => ∃ ac, H4 D = some (.lst ac) ∧ ac.length < sizeLine ∧ Nx (upd H4 D (.lst (ac ++ [y]))) else Nx H3 :=
  lc_itemL hD hO hM hm t0 t2 le k fun acc' S' H' t _ k => nx acc' S' H' t k

/-- the start of a comprehension's loop, and what its end gives -/
theorem lc_start {σ : St} {D : Addr} {vs : List Nat} (o1 : Ok K TL F S1 E σ H) (hDn : H D = none) :
    D ∉ dom S1 ∧ (F.fr ((D, []) :: S1) (upd H D (.lst []))).O D ∧ (F.fr ((D, []) :: S1) (upd H D (.lst []))).M D ∧ F.H D = none ∧
    LcT K TL (F.fr ((D, []) :: S1) (upd H D (.lst []))) D (dom S1) (upd H D (.lst [])) (wipeE E vs) (wipe σ vs) S1 [] (upd H D (.lst [])) 0 ∧
    (∀ {Ew : List Sl} {σw : St} {S' : Sto} {H' : Hp} {acc : List PyData} {m : Nat}, LcT K TL (F.fr ((D, []) :: S1) (upd H D (.lst []))) D (dom S1) (upd H D (.lst [])) Ew σw S' acc H' m → Le (hide (F.OS S1) H) (hide ((F.fr ((D, []) :: S1) (upd H D (.lst []))).OS S') H')) ∧
    (∀ {Ew : List Sl} {σw : St} {S' : Sto} {H' : Hp} {acc : List PyData} {m : Nat}, LcT K TL (F.fr ((D, []) :: S1) (upd H D (.lst []))) D (dom S1) (upd H D (.lst [])) Ew σw S' acc H' m → Ok K TL F ((D, acc) :: S') E σ H' ∧ Step (Own S1) H H') := by
  obtain ⟨od, hF⟩ := o1.laidOwn (xs := []) (ds := []) hDn .nil
  have nD : D ∉ dom S1 := (List.nodup_cons.mp (show (D :: dom S1).Nodup from od.nd)).1
  have hO : (F.fr ((D, []) :: S1) (upd H D (.lst []))).O D := .inr List.mem_cons_self
  have hM : (F.fr ((D, []) :: S1) (upd H D (.lst []))).M D := .inr List.mem_cons_self
  have stp : ∀ {H' : Hp}, Step (fun a => a = D ∨ a ∈ dom S1) (upd H D (.lst [])) H' → Step (Own S1) H H' := fun {H'} st => by
    refine ⟨fun a u n e t => ?_, fun a e => upd_none (st.old a e)⟩
    have ne : a ≠ D := ne_of_none e hDn
    exact st.keep a u (fun z => z.elim ne n) (by rw [upd_ne ne]; exact e) t
  have leA : ∀ {Ew : List Sl} {σw : St} {S' : Sto} {H' : Hp} {acc : List PyData} {m : Nat}, LcT K TL (F.fr ((D, []) :: S1) (upd H D (.lst []))) D (dom S1) (upd H D (.lst [])) Ew σw S' acc H' m → Le (hide (F.OS S1) H) (hide ((F.fr ((D, []) :: S1) (upd H D (.lst []))).OS S') H') := fun {Ew σw S' H' acc m} t => by
    refine hide_mono (stp t.step) (fun a z => .inr z) fun a u e z => ?_
    rcases z with (z | z) | z
    · exact .inl z
    · rcases List.mem_cons.mp z with z | z
      · rw [z, hDn] at e
        cases e
      · exact .inr z
    · rw [t.hdm] at z
      exact .inr z
  refine ⟨nD, hO, hM, hF, ⟨(od.fr.dropO hO).wipe vs, rfl, Step.refl _ _, [], upd_same, Nat.le_refl _, .nil⟩, leA, fun {Ew σw S' H' acc m} t => ⟨?_, stp t.step⟩⟩
  obtain ⟨xs, h1, h2, h3⟩ := t.lst
  have o2 := t.ok.addO hO hM h1 h3 (by rw [t.hdm]; exact nD)
  have o3 : Ok K TL (F.fr ((D, []) :: S1) (upd H D (.lst []))) ((D, acc) :: S') E σ H' := by
    refine ⟨o2.tab, o2.step, o2.own, o2.may, o2.nd, o2.ent, o2.sub, o1.len, fun i s e => (o1.env i s e).le ?_⟩
    rw [os_in hO]
    exact leA t
  exact od.back o3

theorem en_lc (vs : List Nat) (h : IX K TL F wi S E fun ds S1 => ds.length ≤ 1000000 ∧ ∃ I : Nat → List PyData → Sto → Prop, I 0 [] S1 ∧
      (∀ F i d acc S', ds[i]? = some d → I i acc S' → GX K TL F g d S' (wipeE E vs) vs fun E2 => TX K TL F tt S' E2 fun b S2 => if b = true then EX K TL F te S2 E2 fun r S3 => ∃ d', r = .dat d' ∧ I (i + 1) (acc ++ [d']) S3 else I (i + 1) acc S2) ∧
      ∀ acc S', I ds.length acc S' → Kn acc S') : EN K TL F (tLc wi g tt te vs) S E Kn := fun σ H o Q q =>
  h σ H o _ fun J ds S1 H1 o1 e1 s1 W ⟨hl, I, h0, hs, hd⟩ D hDn => by
    obtain ⟨nD, hO, hM, hF, t0, leA, fin⟩ := lc_start (vs := vs) o1 hDn
    refine lc_it W (fun i H' => ∃ S' acc, LcT K TL (F.fr ((D, []) :: S1) (upd H1 D (.lst []))) D (dom S1) (upd H1 D (.lst [])) (wipeE E vs) (wipe σ vs) S' acc H' i ∧ I i acc S') ⟨S1, [], t0, h0⟩ (fun i H' _ p => ?_) (fun i x H2 H3 hi p y => ?_) fun H' p => ?_
    · obtain ⟨S', acc, t, _⟩ := p
      exact (leA t).trans hide_le
    · obtain ⟨S', acc, t, k⟩ := p
      obtain ⟨d, hd1, rr⟩ := y
      obtain ⟨o2, st2, hv⟩ := res_ok t.ok (leA t) rr
      have t2 := t.move nD o2 rfl (st2.mono fun _ z => z.elim)
      refine hs _ i d acc S' hd1 k _ _ _ o2 hv _ fun σ3 E3 o3 hl3 ag3 k3 => ⟨?_, ?_⟩
      · rw [wipe_eq hl3 ag3]
        exact wipe_eq (by rw [wipe_length]) fun i hi => wipe_at σ vs i hi
      · have t3 := t2.move nD o3 rfl (Step.refl _ _)
        refine lc_item nD hO hM (Nat.lt_of_lt_of_le hi hl) t t3 (step_le (F := F.fr ((D, []) :: S1) (upd H1 D (.lst []))) (st2.mono fun _ z => z.elim) rfl) k3 fun acc' S' H' t' k' => ⟨S', acc', t', k'⟩
    · obtain ⟨S', acc, t, k⟩ := p
      obtain ⟨of, st⟩ := fin t
      exact q D acc S' H' hF of (t.hdm.trans e1) (s1.trans (by rw [← own_eq e1]; exact st)) (hd acc S' k)
/-- as long as the list is -/
theorem LcT.norm {F1 : Fm} {D : Addr} {dm : List Addr} {H0 : Hp} {E : List Sl} {σ : St} {S : Sto} {acc : List PyData} {H : Hp} {m : Nat} (t : LcT K TL F1 D dm H0 E σ S acc H m) : LcT K TL F1 D dm H0 E σ S acc H acc.length :=
  ⟨t.ok, t.hdm, t.step, let ⟨xs, h1, h2, h3⟩ := t.lst; ⟨xs, h1, Nat.le_of_eq (dpa_len h3), h3⟩⟩

theorem en_lc2 (vs vs1 : List Nat) (h : IX K TL F wi S E fun ds S1 => ∃ I : Nat → List PyData → Sto → Prop, I 0 [] S1 ∧
      (∀ F i d acc S', ds[i]? = some d → I i acc S' → GX K TL F g d S' (wipeE E vs) vs fun E2 => TX K TL F tt S' E2 fun b S2 => if b = true then
        IX K TL F wi1 S2 E2 fun es S3 => ∃ I1 : Nat → List PyData → Sto → Prop, I1 0 acc S3 ∧
          (∀ F j e acc' S4, es[j]? = some e → I1 j acc' S4 → acc'.length < 1000000 ∧ GX K TL F g1 e S4 (wipeE E2 vs1) vs1 fun E3 => TX K TL F tt1 S4 E3 fun b S5 => if b = true then EX K TL F te S5 E3 fun r S6 => ∃ d', r = .dat d' ∧ I1 (j + 1) (acc' ++ [d']) S6 else I1 (j + 1) acc' S5) ∧
          ∀ acc' S4, I1 es.length acc' S4 → I (i + 1) acc' S4
        else I (i + 1) acc S2) ∧
      ∀ acc S', I ds.length acc S' → Kn acc S') : EN K TL F (tLc2 wi g tt wi1 g1 tt1 te vs vs1) S E Kn := fun σ H o Q q =>
  h σ H o _ fun J ds S1 H1 o1 e1 s1 W ⟨I, h0, hs, hd⟩ D hDn => by
    obtain ⟨nD, hO, hM, hF, t0, leA, fin⟩ := lc_start (vs := vs) o1 hDn
    generalize hF1 : F.fr ((D, []) :: S1) (upd H1 D (.lst [])) = F1 at hO hM t0 leA fin
    refine ⟨fun i m H' => m = ds.length - i ∧ i ≤ ds.length ∧ ∃ S' acc, LcT K TL F1 D (dom S1) (upd H1 D (.lst [])) (wipeE E vs) (wipe σ vs) S' acc H' acc.length ∧ I i acc S', ⟨ds.length, by simp, Nat.zero_le _, S1, [], t0, h0⟩, ?_⟩
    rintro i m H2 ⟨rfl, hi, S', acc, t, k⟩
    by_cases hlt : i < ds.length
    · refine .inr ⟨W.goes i H2 hlt ((leA t).trans hide_le), fun H' => i + 1 ≤ ds.length ∧ ∃ S' acc, LcT K TL F1 D (dom S1) (upd H1 D (.lst [])) (wipeE E vs) (wipe σ vs) S' acc H' acc.length ∧ I (i + 1) acc S', fun H' p => ⟨ds.length - (i + 1), by omega, rfl, p.1, p.2⟩, fun x H3 y => ?_⟩
      obtain ⟨d, hd1, rr⟩ := W.yields i H2 x H3 hlt ((leA t).trans hide_le) y
      obtain ⟨o2, st2, hv⟩ := res_ok t.ok (leA t) rr
      have t2 := t.move nD o2 rfl (st2.mono fun _ z => z.elim)
      have le2 : Le (hide (F1.OS S') H2) (hide (F1.OS S') H3) := step_le (F := F1) (st2.mono fun _ z => z.elim) rfl
      refine hs _ i d acc S' hd1 k _ _ _ o2 hv _ fun σ3 E3 o3 hl3 ag3 k3 => ⟨?_, ?_⟩
      · rw [wipe_eq hl3 ag3]
        exact wipe_eq (by rw [wipe_length]) fun i hi => wipe_at σ vs i hi
      · have t3 := t2.move nD o3 rfl (Step.refl _ _)
        refine k3 σ3 H3 o3 _ fun b S4 H4 o4 e4 s4 k4 => ?_
        have t4 := t3.move nD o4 e4 s4
        have le4 := le2.trans (step_le (F := F1) s4 e4)
        cases b with
        | false => exact ⟨hlt, S4, acc, t.env t4 le4, k4⟩
        | true =>
          have k4 : IX K TL F1 wi1 S4 E3 fun es S3 => ∃ I1 : Nat → List PyData → Sto → Prop, I1 0 acc S3 ∧
            (∀ F j e acc' S4, es[j]? = some e → I1 j acc' S4 → acc'.length < 1000000 ∧ GX K TL F g1 e S4 (wipeE E3 vs1) vs1 fun E3 => TX K TL F tt1 S4 E3 fun b S5 => if b = true then EX K TL F te S5 E3 fun r S6 => ∃ d', r = .dat d' ∧ I1 (j + 1) (acc' ++ [d']) S6 else I1 (j + 1) acc' S5) ∧
            ∀ acc' S4, I1 es.length acc' S4 → I (i + 1) acc' S4 := k4
          refine k4 σ3 H4 o4 _ fun J1 es S5 H5 o5 e5 s5 W1 ⟨I1, g0, gs, gd⟩ => ?_
          have t5 := t4.move nD o5 e5 s5
          have le5 := le4.trans (step_le (F := F1) s5 e5)
          have t5' : LcT K TL F1 D (dom S1) (upd H1 D (.lst [])) (wipeE E3 vs1) (wipe σ3 vs1) S5 acc H5 acc.length := ⟨t5.ok.wipe vs1, t5.hdm, t5.step, t5.lst⟩
          refine ⟨fun j k H' => k = es.length - j ∧ j ≤ es.length ∧ ∃ S6 acc', LcT K TL F1 D (dom S1) (upd H1 D (.lst [])) (wipeE E3 vs1) (wipe σ3 vs1) S6 acc' H' acc'.length ∧ Le (hide (F1.OS S5) H5) (hide (F1.OS S6) H') ∧ I1 j acc' S6, ⟨es.length, by simp, Nat.zero_le _, S5, acc, t5', Le.refl _, g0⟩, ?_⟩
          rintro j k H6 ⟨rfl, hj, S6, acc', t6, le6, k6⟩
          by_cases hlt1 : j < es.length
          · refine .inr ⟨W1.goes j H6 hlt1 (le6.trans hide_le), fun H' => j + 1 ≤ es.length ∧ ∃ S6 acc', LcT K TL F1 D (dom S1) (upd H1 D (.lst [])) (wipeE E3 vs1) (wipe σ3 vs1) S6 acc' H' acc'.length ∧ Le (hide (F1.OS S5) H5) (hide (F1.OS S6) H') ∧ I1 (j + 1) acc' S6, fun H' p => ⟨es.length - (j + 1), by omega, rfl, p.1, p.2⟩, fun x H7 y => ?_⟩
            obtain ⟨e, he1, rr1⟩ := W1.yields j H6 x H7 hlt1 (le6.trans hide_le) y
            obtain ⟨o7, st7, hv7⟩ := res_ok t6.ok le6 rr1
            have t7 := t6.move nD o7 rfl (st7.mono fun _ z => z.elim)
            have le7 : Le (hide (F1.OS S6) H6) (hide (F1.OS S6) H7) := step_le (F := F1) (st7.mono fun _ z => z.elim) rfl
            obtain ⟨hal, gk⟩ := gs _ j e acc' S6 he1 k6
            refine gk _ _ _ o7 hv7 _ fun σ8 E8 o8 hl8 ag8 k8 => ⟨?_, ?_⟩
            · rw [wipe_eq hl8 ag8]
              exact wipe_eq (by rw [wipe_length]) fun i hi => wipe_at σ3 vs1 i hi
            · have t8 := t7.move nD o8 rfl (Step.refl _ _)
              refine lc_itemL nD hO hM hal t6 t8 le7 k8 fun acc'' S' H' t' le' k' => ⟨hlt1, S', acc'', t'.norm, le6.trans le', k'⟩
          · have e : j = es.length := by omega
            subst e
            refine .inl ⟨W1.stops H6 (le6.trans hide_le), hlt, S6, acc', ?_, gd acc' S6 k6⟩
            exact t.env t6 (le5.trans le6)
    · have e : i = ds.length := by omega
      subst e
      refine .inl ⟨W.stops H2 ((leA t).trans hide_le), ?_⟩
      obtain ⟨of, st⟩ := fin t
      exact q D acc S' H2 hF of (t.hdm.trans e1) (s1.trans (by rw [← own_eq e1]; exact st)) (hd acc S' k)
end
end PL

set_option maxHeartbeats 1000000
namespace PL
open PySem L2
open GxR (TabG Tabbed)

section
variable {K : PySem.W.Frag} {TL : List Addr} {F : Fm} {S S' S1 : Sto} {E : List Sl} {Kn : List PyData → Sto → Prop} {Kp : Sl → Sto → Prop} {te : TE} {ta : TA} {g : TG} {wi : TI} {H H' : Hp}
/-- a table has grown -/
theorem Ok.tabbed {σ : St} {P : Addr} (o : Ok K TL F S E σ H) (hP : TabG H P) (t : Tabbed P H H') : Ok K TL F S E σ H' ∧ Step (fun _ => False) H H' := by
  obtain ⟨⟨ps, h1, h2⟩, h3⟩ := t
  obtain ⟨qs, g1, g2⟩ := hP
  have st : Step (fun _ => False) H H' := ⟨fun a u _ e nt => by
    by_cases z : a = P
    · rw [z, g1] at e
      cases e
      exact absurd rfl (nt qs)
    · rw [h3 a z]
      exact e, fun a e => by
    by_cases z : a = P
    · rw [z, h1] at e
      cases e
    · rw [← h3 a z]
      exact e⟩
  have le : Le (hide (F.OS S) H) (hide (F.OS S) H') := hide_mono st (fun _ z => z.elim) fun _ _ _ z => z
  refine ⟨⟨fun P' hP' => ?_, o.step.trans (st.mono fun _ z => z.elim), fun q hq => ?_, o.may, o.nd, o.ent, o.sub, o.len, fun i s e => (o.env i s e).le le⟩, st⟩
  · by_cases z : P' = P
    · rw [z]
      exact ⟨ps, h1, h2⟩
    · obtain ⟨rs, r1, r2⟩ := o.tab P' hP'
      exact ⟨rs, by rw [h3 P' z]; exact r1, r2⟩
  · obtain ⟨xs, r1, r2⟩ := o.own q hq
    exact ⟨xs, st.keep _ _ (fun z => z) r1 (fun ps z => by cases z), dpa_le le r2⟩
theorem ex_all {P : Addr} (vs : List Nat) (hP : P ∈ TL) (h : IX K TL F wi S E fun ds S1 => ∃ I : Nat → Sto → Prop, I 0 S1 ∧
      (∀ F i d S', ds[i]? = some d → I i S' → GX K TL F g d S' (wipeE E vs) vs fun E2 => EX K TL F te S' E2 fun r S2 => ∃ b, r = .dat (.bool b) ∧ if b = true then I (i + 1) S2 else Kp (.dat (.bool false)) S2) ∧
      ∀ S', I ds.length S' → Kp (.dat (.bool true)) S') : EX K TL F (NG.tAllG P wi g te vs) S E Kp := fun σ H o Q q =>
  h σ H o _ fun J ds S1 H0 o0 e1 s1 W ⟨I, h0, hs, hd⟩ => ⟨o0.tab P hP, fun H1 tb => by
    obtain ⟨o1, st1⟩ := o0.tabbed (o0.tab P hP) tb
    have le0 : Le (hide (F.OS S1) H0) (hide (F.OS S1) H1) := hide_mono st1 (fun _ z => z.elim) fun _ _ _ z => z
    have fin : ∀ {S' H' E' σ' b}, Ok K TL (F.fr S1 H1) S' E' σ' H' → dom S' = dom S1 → Step (Own S1) H1 H' → Kp (.dat (.bool b)) S' → Q (.bl b) H' := fun {S' H' E' σ' b} o' e' st' k' => by
      have ob := o1.back (o1.fr.envOf o' (by
        rw [fr_os]
        exact o1.le_in o'))
      exact q (.bl b) (.dat (.bool b)) S' H' ob (e'.trans e1) (s1.trans ((st1.mono fun _ z => z.elim).trans (by rw [← own_eq e1]; exact st'))) (Dp.bl b) k'
    refine ⟨fun i m H' => m = ds.length - i ∧ i ≤ ds.length ∧ ∃ S', Ok K TL (F.fr S1 H1) S' (wipeE E vs) (wipe σ vs) H' ∧ dom S' = dom S1 ∧ Step (Own S1) H1 H' ∧ I i S', ⟨ds.length, by simp, Nat.zero_le _, S1, o1.fr.wipe vs, rfl, Step.refl _ _, h0⟩, ?_⟩
    rintro i m H2 ⟨rfl, hi, S', o', e', st', k'⟩
    have leJ : Le (hide (F.OS S1) H0) (hide ((F.fr S1 H1).OS S') H2) := le0.trans (o1.le_in o')
    by_cases hlt : i < ds.length
    · refine .inr ⟨W.goes i H2 hlt (leJ.trans hide_le), fun H' => i + 1 ≤ ds.length ∧ ∃ S', Ok K TL (F.fr S1 H1) S' (wipeE E vs) (wipe σ vs) H' ∧ dom S' = dom S1 ∧ Step (Own S1) H1 H' ∧ I (i + 1) S', fun H' p => ⟨ds.length - (i + 1), by omega, rfl, p.1, p.2⟩, fun x H3 y => ?_⟩
      obtain ⟨d, hd1, rr⟩ := W.yields i H2 x H3 hlt (leJ.trans hide_le) y
      obtain ⟨o2, st2, hv⟩ := res_ok o' leJ rr
      refine hs _ i d S' hd1 k' _ _ _ o2 hv _ fun σ3 E3 o3 hl3 ag3 k3 => ⟨?_, ?_⟩
      · rw [wipe_eq hl3 ag3]
        exact wipe_eq (by rw [wipe_length]) fun i hi => wipe_at σ vs i hi
      · refine k3 σ3 H3 o3 _ fun v r S4 H4 o4 e4 s4 v4 ⟨b, er, k4⟩ => ?_
        subst er
        cases v4
        refine ⟨b, rfl, ?_⟩
        have e5 : dom S4 = dom S1 := e4.trans e'
        have st5 : Step (Own S1) H1 H4 := st'.trans ((st2.mono fun _ z => z.elim).trans (by rw [← own_eq e']; exact s4))
        cases b with
        | false => exact fin o4 e5 st5 k4
        | true =>
          have k4 : I (i + 1) S4 := k4
          have le5 : Le (hide ((F.fr S1 H1).OS S') H2) (hide ((F.fr S1 H1).OS S4) H4) := (step_le (F := F.fr S1 H1) (S := S') (st2.mono fun _ z => z.elim) rfl).trans (step_le s4 e4)
          exact ⟨hlt, S4, o'.envOf o4 le5, e5, st5, k4⟩
    · have e : i = ds.length := by omega
      subst e
      exact .inl ⟨W.stops H2 (leJ.trans hide_le), fin o' e' st' (hd S' k')⟩⟩
/-- a test that is a plain function of the item -/
theorem ex_allP {P : Addr} (vs : List Nat) (f : Itm → Bool) (hP : P ∈ TL) (h : IX K TL F wi S E fun ds S1 => (∀ F d, d ∈ ds → GX K TL F g d S1 (wipeE E vs) vs fun E2 => EX K TL F te S1 E2 fun r S2 => r = .dat (.bool (f d)) ∧ S2 = S1) ∧ Kp (.dat (.bool (ds.all f))) S1) :
    EX K TL F (NG.tAllG P wi g te vs) S E Kp := by
  refine ex_all vs hP fun σ H o R q => h σ H o R fun J ds S1 H1 o1 e1 s1 W ⟨hf, hk⟩ => q J ds S1 H1 o1 e1 s1 W ⟨fun i S' => S' = S1 ∧ (ds.take i).all f = true, ⟨rfl, by simp⟩, fun F i d S' hd ⟨hS, hi⟩ => ?_, fun S' ⟨hS, hi⟩ => ?_⟩
  · subst hS
    intro σ H v o hv Q q
    refine hf F d (List.mem_of_getElem? hd) σ H v o hv Q fun σ' E' o' hl ag k => q σ' E' o' hl ag ?_
    intro σ2 H2 o2 Q2 q2
    refine k σ2 H2 o2 Q2 fun v r S' H' o3 e3 s3 v3 ⟨hr, hS⟩ => q2 v r S' H' o3 e3 s3 v3 ⟨f d, hr, ?_⟩
    have et : (ds.take (i + 1)).all f = ((ds.take i).all f && f d) := by
      rw [List.take_add_one, hd, List.all_append]
      simp
    cases hfd : f d with
    | true =>
      rw [if_pos rfl]
      refine ⟨hS, ?_⟩
      rw [et, hi, hfd]
      rfl
    | false =>
      rw [if_neg Bool.false_ne_true]
      have : ds.all f = false := by
        rw [List.all_eq_false]
        exact ⟨d, List.mem_of_getElem? hd, by rw [hfd]; exact Bool.false_ne_true⟩
      rw [this] at hk
      rw [hS]
      exact hk
  · subst hS
    rw [List.take_length] at hi
    rw [hi] at hk
    exact hk

/-! ### promises -/
def spD (K : PySem.W.Frag) (TL : List Addr) (pre : List PyData → Prop) (post : List PyData → PyData → Prop) : Sp := fun vs H Q _ => ∃ (O : Addr → Prop) (ds : List PyData), (∀ a, O a → H a ≠ none) ∧ (∀ P ∈ TL, TabG H P) ∧ DpAll K (hide O H) vs ds ∧ pre ds ∧
  ∀ v d H', Step (fun _ => False) H H' → (∀ P ∈ TL, TabG H' P) → Dp K (hide O H') v d → post ds d → Q v H'
def spN (K : PySem.W.Frag) (TL : List Addr) (pre : List PyData → Prop) (post : List PyData → List PyData → Prop) : Sp := fun vs H Q _ => ∃ (O : Addr → Prop) (ds : List PyData), (∀ a, O a → H a ≠ none) ∧ (∀ P ∈ TL, TabG H P) ∧ DpAll K (hide O H) vs ds ∧ pre ds ∧
  ∀ p xs es H', H p = none → Step (fun _ => False) H H' → (∀ P ∈ TL, TabG H' P) → H' p = some (.lst xs) → DpAll K (hide (fun a => O a ∨ a = p) H') xs es → post ds es → Q (.ref p) H'
def spT (K : PySem.W.Frag) (TL : List Addr) (pre : List PyData → List PyData → Prop) (post : List PyData → List PyData → PyData → List PyData → Prop) : Sp := fun vs H Q _ => ∃ (O : Addr → Prop) (t : Addr) (c : List PyData) (ws : List V) (ds : List PyData), vs = .ref t :: ws ∧ O t ∧ (∀ a, O a → H a ≠ none) ∧ (∀ P ∈ TL, TabG H P) ∧
  (∃ xs, H t = some (.lst xs) ∧ DpAll K (hide O H) xs c) ∧ DpAll K (hide O H) ws ds ∧ pre c ds ∧
  ∀ v d c' H', Step (fun a => a = t) H H' → (∀ P ∈ TL, TabG H' P) → (∃ xs, H' t = some (.lst xs) ∧ DpAll K (hide O H') xs c') → Dp K (hide O H') v d → post c ds d c' → Q v H'

theorem Ok.after {σ : St} (o : Ok K TL F S E σ H) (st : Step (fun _ => False) H H') (tb : ∀ P ∈ TL, TabG H' P) : Ok K TL F S E σ H' := by
  have le : Le (hide (F.OS S) H) (hide (F.OS S) H') := hide_mono st (fun _ z => z.elim) fun _ _ _ z => z
  refine ⟨tb, o.step.trans (st.mono fun _ z => z.elim), fun q hq => ?_, o.may, o.nd, o.ent, o.sub, o.len, fun i s e => (o.env i s e).le le⟩
  obtain ⟨xs, r1, r2⟩ := o.own q hq
  exact ⟨xs, st.keep _ _ (fun z => z) r1 (fun ps z => by cases z), dpa_le le r2⟩
theorem ex_call {pre : List PyData → Prop} {post : List PyData → PyData → Prop} {XX : XK} (h : AX K TL F ta S E fun rs S1 => ∃ ds, dats rs = some ds ∧ pre ds ∧ ∀ d, post ds d → Kp (.dat d) S1) : EX K TL F (tCall (spD K TL pre post) [] XX ta) S E Kp := fun σ H o Q q =>
  h σ H o _ fun vs rs S1 H1 o1 e1 s1 v1 ⟨ds, hr, hp, k⟩ => by
    rw [dats_eq hr] at v1
    refine ⟨F.OS S1, ds, fun a ha => o1.os_live ha, o1.tab, by rw [List.append_nil]; exact v1.dats, hp, fun v d H' st tb hd hpost => ?_⟩
    exact q v (.dat d) S1 H' (o1.after st tb) e1 (s1.trans (st.mono fun _ z => z.elim)) hd (k d hpost)
theorem en_call {pre : List PyData → Prop} {post : List PyData → List PyData → Prop} {XX : XK} (h : AX K TL F ta S E fun rs S1 => ∃ ds, dats rs = some ds ∧ pre ds ∧ ∀ es, post ds es → Kn es S1) : EN K TL F (tCall (spN K TL pre post) [] XX ta) S E Kn := fun σ H o Q q =>
  h σ H o _ fun vs rs S1 H1 o1 e1 s1 v1 ⟨ds, hr, hp, k⟩ => by
    rw [dats_eq hr] at v1
    refine ⟨F.OS S1, ds, fun a ha => o1.os_live ha, o1.tab, by rw [List.append_nil]; exact v1.dats, hp, fun p xs es H' hpn st tb hpx ha hpost => ?_⟩
    have hF : F.H p = none := o1.step.old p hpn
    have nS : p ∉ dom S1 := fun z => o1.fresh hpn (.inr z)
    have hO : ∀ a, F.OS ((p, es) :: S1) a ↔ (F.OS S1 a ∨ a = p) := fun a => ⟨fun z => by
      rcases z with z | z
      · exact .inl (.inl z)
      · rcases List.mem_cons.mp z with z | z
        · exact .inr z
        · exact .inl (.inr z), fun z => by
      rcases z with (z | z) | z
      · exact .inl z
      · exact .inr (List.mem_cons_of_mem _ z)
      · exact .inr (by rw [z]; exact List.mem_cons_self)⟩
    have hOe : F.OS ((p, es) :: S1) = fun a => F.OS S1 a ∨ a = p := funext fun a => propext (hO a)
    have le : Le (hide (F.OS S1) H1) (hide (F.OS ((p, es) :: S1)) H') := hide_mono st (fun _ z => z.elim) fun a u e z => by
      rcases (hO a).mp z with z | z
      · exact z
      · rw [z, hpn] at e
        cases e
    refine q p es S1 H' hF ⟨tb, o1.step.trans (st.mono fun _ z => z.elim), fun r hr => ?_, fun r hr => ?_, List.nodup_cons.mpr ⟨nS, o1.nd⟩, o1.ent, o1.sub, o1.len, fun i s e => (o1.env i s e).le le⟩ e1 (s1.trans (st.mono fun _ z => z.elim)) (k es hpost)
    · rcases List.mem_cons.mp hr with z | z
      · rw [z, hOe]
        exact ⟨xs, hpx, ha⟩
      · obtain ⟨ys, r1, r2⟩ := o1.own r z
        exact ⟨ys, st.keep _ _ (fun z => z) r1 (fun ps z => by cases z), dpa_le le r2⟩
    · rcases List.mem_cons.mp hr with z | z
      · rw [z]
        exact .inr hF
      · exact o1.may r z
theorem ex_callT {pre : List PyData → List PyData → Prop} {post : List PyData → List PyData → PyData → List PyData → Prop} {XX : XK} (h : AX K TL F ta S E fun rs S1 => ∃ t rs' c ds, rs = .own t :: rs' ∧ get S1 t = some c ∧ dats rs' = some ds ∧ pre c ds ∧ ∀ d c', post c ds d c' → Kp (.dat d) (put S1 t c')) :
    EX K TL F (tCall (spT K TL pre post) [] XX ta) S E Kp := fun σ H o Q q =>
  h σ H o _ fun vs rs S1 H1 o1 e1 s1 v1 ⟨t, rs', c, ds, er, hg, hr, hp, k⟩ => by
    subst er
    rw [dats_eq hr] at v1
    cases v1 with
    | @cons v r ws _ hv v1 =>
      have hv : v = .ref t := hv
      subst hv
      obtain ⟨hm, xs, hx, hd⟩ := own_at o1 hg
      refine ⟨F.OS S1, t, c, ws, ds, by rw [List.append_nil], .inr hm, fun a ha => o1.os_live ha, o1.tab, ⟨xs, hx, hd⟩, v1.dats, hp, fun v d c' H' st tb hc hd' hpost => ?_⟩
      have le : Le (hide (F.OS S1) H1) (hide (F.OS S1) H') := hide_mono st (fun a z => by rw [z]; exact .inr hm) fun _ _ _ z => z
      have ed : dom (put S1 t c') = dom S1 := put_dom _ _ _
      have eo : F.OS (put S1 t c') = F.OS S1 := os_eq ed
      refine q v (.dat d) (put S1 t c') H' ⟨tb, ⟨fun a u n e nt => ?_, fun a e => o1.step.old a (st.old a e)⟩, fun r hr => ?_, fun r hr => ?_, by rw [ed]; exact o1.nd, o1.ent, o1.sub, o1.len, fun i s e => by rw [eo]; exact (o1.env i s e).le le⟩ (ed.trans e1) (s1.trans (st.mono fun a z => by rw [z]; show t ∈ dom S; rw [← e1]; exact hm)) (by rw [eo]; exact hd') (k d c' hpost)
      · refine st.keep a u (fun z => ?_) (o1.step.keep a u n e nt) nt
        rcases o1.may t hm with m | m
        · exact n (by rw [z]; exact m)
        · rw [z, m] at e
          cases e
      · rw [eo]
        rcases mem_put hr with ⟨z, _⟩ | ⟨z, nz⟩
        · rw [z]
          exact hc
        · obtain ⟨ys, r1, r2⟩ := o1.own r z
          exact ⟨ys, st.keep _ _ nz r1 (fun ps z => by cases z), dpa_le le r2⟩
      · rw [ed] at hr
        exact o1.may r hr

/-! ### bodies -/
def startE (n : Nat) (rs : List Sl) : List Sl := rs ++ List.replicate (n - rs.length) .no
theorem voks_len {G : Hp} : ∀ {vs : List V} {rs : List Sl}, VOks K G vs rs → vs.length = rs.length
  | _, _, .nil => rfl
  | _, _, .cons _ a => by rw [List.length_cons, List.length_cons, voks_len a]
theorem voks_get {G : Hp} : ∀ {vs : List V} {rs : List Sl} {i : Nat} {r : Sl}, VOks K G vs rs → rs[i]? = some r → ∃ v, vs[i]? = some v ∧ VOk K G v r
  | _, _, _, _, .nil, e => by cases e
  | _, _, 0, _, .cons h _, e => by cases e; exact ⟨_, rfl, h⟩
  | _, _, i + 1, _, .cons _ a, e => by
    obtain ⟨v, h1, h2⟩ := voks_get (i := i) a e
    exact ⟨v, h1, h2⟩
theorem start_ok {N : List Str} {vs : List V} {rs : List Sl} (tb : ∀ P ∈ TL, TabG F.H P) (ow : OwnOk K (hide (F.OS S) F.H) F.H S) (mm : ∀ p ∈ dom S, F.M p ∨ F.H p = none) (nd : (dom S).Nodup) (en : ∀ a, F.O a → F.H a ≠ none) (sb : ∀ a, F.M a → F.O a)
    (hv : VOks K (hide (F.OS S) F.H) vs rs) (hl : vs.length ≤ N.length) : Ok K TL F S (startE N.length rs) (start N vs) F.H := by
  have el := voks_len hv
  refine ⟨tb, Step.refl _ _, ow, mm, nd, en, sb, ?_, fun i s e => ?_⟩
  · unfold L2.start startE
    rw [List.length_append, List.length_append, List.length_map, List.length_replicate, List.length_replicate]
    omega
  · unfold startE at e
    by_cases hi : i < rs.length
    · rw [List.getElem?_append_left hi] at e
      obtain ⟨v, h1, h2⟩ := voks_get hv e
      refine .inr ⟨v, ?_, h2⟩
      unfold L2.start
      rw [List.getElem?_append_left (by rw [List.length_map, el]; exact hi), List.getElem?_map, h1]
      rfl
    · rw [List.getElem?_append_right (by omega), List.getElem?_replicate] at e
      split at e
      · exact .inl (Option.some.inj e).symm
      · cases e
theorem body_D {pre : List PyData → Prop} {post : List PyData → PyData → Prop} {N : List Str} {t : TS} {vs : List V} {Q : VK} {XX : XK} (n : Nat) (hn : n = N.length) (h : spD K TL pre post vs H Q XX) (hl : vs.length ≤ N.length)
    (hb : ∀ F ds, pre ds → ds.length = vs.length → SX K TL F t [] (startE n (ds.map Sl.dat)) (fun _ _ => post ds .none) (fun r S' => ∃ d, view S' r = some d ∧ post ds d) (fun _ _ => False) (fun _ _ => False)) :
    t { nx := fun _ H' => Q .non H', rt := Q } (start N vs) H := by
  subst hn
  obtain ⟨O, ds, hO, tb, ha, hp, q⟩ := h
  have fO : ∀ S' : Sto, ∀ a, O a → (Fm.mk O (fun _ => False) H).OS S' a := fun S' a z => .inl z
  have st : Ok K TL ⟨O, fun _ => False, H⟩ [] (startE N.length (ds.map Sl.dat)) (start N vs) H := by
    refine start_ok (F := ⟨O, fun _ => False, H⟩) tb (fun p hp => by cases hp) (fun p hp => by cases hp) List.nodup_nil hO (fun a z => z.elim) ?_ hl
    have e : (Fm.mk O (fun _ => False) H).OS [] = O := funext fun a => propext ⟨fun z => z.elim id fun z => (List.not_mem_nil z).elim, .inl⟩
    rw [e]
    exact dpa_voks ha
  refine hb ⟨O, fun _ => False, H⟩ ds hp (dpa_len ha).symm _ _ st _ (fun S' E' σ' H' o' k => ?_) (fun v r S' E' σ' H' o' v' ⟨d, hv, k⟩ => ?_) (fun _ _ _ _ _ k => k.elim) fun _ _ _ _ _ k => k.elim
  · exact q .non .none H' o'.step o'.tab .non k
  · refine q v d H' o'.step o'.tab ?_ k
    have le : Le (hide ((Fm.mk O (fun _ => False) H).OS S') H') (hide O H') := hide_mono (Step.refl (fun _ => False) _) (fun _ z => z.elim) fun a u _ z => .inl z
    cases r with
    | no => cases hv
    | dat e =>
      cases hv
      exact dp_le le v'
    | own p =>
      have ev : v = .ref p := v'
      subst ev
      cases hg : get S' p with
      | none =>
        have hv : (get S' p).map PyData.list = some d := hv
        rw [hg] at hv
        cases hv
      | some es =>
        have hv : (get S' p).map PyData.list = some d := hv
        rw [hg] at hv
        cases hv
        obtain ⟨hm, xs, hx, hd⟩ := own_at o' hg
        refine .lst (.inl (.inl ?_)) (dpa_le le hd)
        rw [hide_of fun z => ?_]
        · exact hx
        · rcases o'.may p hm with m | m
          · exact m
          · exact hO p z m
theorem body_N {pre : List PyData → Prop} {post : List PyData → List PyData → Prop} {N : List Str} {t : TS} {vs : List V} {Q : VK} {XX : XK} (n : Nat) (hn : n = N.length) (h : spN K TL pre post vs H Q XX) (hl : vs.length ≤ N.length)
    (hb : ∀ F ds, pre ds → ds.length = vs.length → SX K TL F t [] (startE n (ds.map Sl.dat)) (fun _ _ => False) (fun r S' => ∃ p es, r = .own p ∧ get S' p = some es ∧ post ds es) (fun _ _ => False) (fun _ _ => False)) :
    t { nx := fun _ H' => Q .non H', rt := Q } (start N vs) H := by
  subst hn
  obtain ⟨O, ds, hO, tb, ha, hp, q⟩ := h
  have st : Ok K TL ⟨O, fun _ => False, H⟩ [] (startE N.length (ds.map Sl.dat)) (start N vs) H := by
    refine start_ok (F := ⟨O, fun _ => False, H⟩) tb (fun p hp => by cases hp) (fun p hp => by cases hp) List.nodup_nil hO (fun a z => z.elim) ?_ hl
    have e : (Fm.mk O (fun _ => False) H).OS [] = O := funext fun a => propext ⟨fun z => z.elim id fun z => (List.not_mem_nil z).elim, .inl⟩
    rw [e]
    exact dpa_voks ha
  refine hb ⟨O, fun _ => False, H⟩ ds hp (dpa_len ha).symm _ _ st _ (fun S' E' σ' H' o' k => k.elim) (fun v r S' E' σ' H' o' v' ⟨p, es, er, hg, k⟩ => ?_) (fun _ _ _ _ _ k => k.elim) fun _ _ _ _ _ k => k.elim
  subst er
  have ev : v = .ref p := v'
  subst ev
  obtain ⟨hm, xs, hx, hd⟩ := own_at o' hg
  have hpn : H p = none := (o'.may p hm).elim (fun z => z.elim) id
  refine q p xs es H' hpn o'.step o'.tab hx (dpa_le (hide_mono (Step.refl (fun _ => False) _) (fun _ z => z.elim) fun a u _ z => ?_) hd) k
  rcases z with z | z
  · exact .inl z
  · rw [z]
    exact .inr hm
theorem body_T {pre : List PyData → List PyData → Prop} {post : List PyData → List PyData → PyData → List PyData → Prop} {N : List Str} {t : TS} {vs : List V} {Q : VK} {XX : XK} (n : Nat) (hn : n = N.length) (h : spT K TL pre post vs H Q XX) (hl : vs.length ≤ N.length)
    (hb : ∀ F a c ds, pre c ds → ds.length + 1 = vs.length → SX K TL F t [(a, c)] (startE n (.own a :: ds.map Sl.dat)) (fun S' _ => ∃ c', get S' a = some c' ∧ post c ds .none c') (fun r S' => ∃ d c', r = .dat d ∧ get S' a = some c' ∧ post c ds d c') (fun _ _ => False) (fun _ _ => False)) :
    t { nx := fun _ H' => Q .non H', rt := Q } (start N vs) H := by
  subst hn
  obtain ⟨O, a, c, ws, ds, ev, hOa, hO, tb, hc, ha, hp, q⟩ := h
  subst ev
  have e : (Fm.mk O (fun b => b = a) H).OS [(a, c)] = O := funext fun b => propext ⟨fun z => by
    rcases z with z | z
    · exact z
    · rw [List.mem_singleton.mp z]
      exact hOa, .inl⟩
  have st : Ok K TL ⟨O, fun b => b = a, H⟩ [(a, c)] (startE N.length (.own a :: ds.map Sl.dat)) (start N (.ref a :: ws)) H := by
    refine start_ok (F := ⟨O, fun b => b = a, H⟩) tb (fun p hp => ?_) (fun p hp => ?_) ?_ hO (fun b z => by rw [z]; exact hOa) ?_ hl
    · rw [List.mem_singleton.mp hp, e]
      exact hc
    · exact .inl (List.mem_singleton.mp hp)
    · exact List.nodup_cons.mpr ⟨List.not_mem_nil, List.nodup_nil⟩
    · rw [e]
      exact .cons rfl (dpa_voks ha)
  have out : ∀ {v : V} {d : PyData} {S' : Sto} {E' : List Sl} {σ' : St} {H' : Hp} {c' : List PyData}, Ok K TL ⟨O, fun b => b = a, H⟩ S' E' σ' H' → get S' a = some c' → Dp K (hide ((Fm.mk O (fun b => b = a) H).OS S') H') v d → post c ds d c' → Q v H' := fun {v d S' E' σ' H' c'} o' hg hv k => by
    have le : Le (hide ((Fm.mk O (fun b => b = a) H).OS S') H') (hide O H') := hide_mono (Step.refl (fun _ => False) _) (fun _ z => z.elim) fun b u _ z => .inl z
    obtain ⟨hm, xs, hx, hd⟩ := own_at o' hg
    exact q v d c' H' o'.step o'.tab ⟨xs, hx, dpa_le le hd⟩ (dp_le le hv) k
  have hlen : ds.length + 1 = (V.ref a :: ws).length := by
    rw [List.length_cons, dpa_len ha]
  refine hb ⟨O, fun b => b = a, H⟩ a c ds hp hlen _ _ st _ (fun S' E' σ' H' o' ⟨c', hg, k⟩ => out o' hg .non k) (fun v r S' E' σ' H' o' v' ⟨d, c', er, hg, k⟩ => ?_) (fun _ _ _ _ _ k => k.elim) fun _ _ _ _ _ k => k.elim
  subst er
  exact out o' hg v' k
end
end PL

set_option maxHeartbeats 1000000
namespace PL
open PySem L2 PyProof.Rows
open GxR (TabG Tabbed)

/-! ### rules of the hand layer that speak of data -/
section
variable {X : Cx}
def rLtD (K : PySem.W.Frag) : R2 := fun x y H Q => ∃ d e, L2.Dp K H x d ∧ L2.Dp K H y e ∧ PySem.W.alike d e = true ∧ d ≠ .none ∧ d.depth ≤ 60 ∧ Q (.bl (PySem.W.dataLt d e)) H
theorem op_ltD (hu : X.A.units + 64 < cLine) : OpR X (compareOp .Lt) (rLtD X.K) := by
  intro pins s σ H x y v u Q I rx ry h
  obtain ⟨d, e, hd, he, al, nn, dp, q⟩ := h
  obtain ⟨as, r1⟩ := L2.Dp.reads I d x v hd rx
  obtain ⟨bs, r2⟩ := L2.Dp.reads I e y u he ry
  have hm : min d.depth e.depth ≤ d.depth := Nat.min_le_left _ _
  exact PySem.W.rcLt_alike d e X.A s v u as bs r1 r2 al nn (by omega) X.prog X.w X.xe _ ⟨.bl _, H, I, rfl, q⟩

/-- xs + ys, lists that are read -/
def rCatS (K : PySem.W.Frag) : R2 := fun x y H Q => ∃ l b xs zs, x = .ref l ∧ y = .ref b ∧ SqL K H l xs ∧ SqL K H b zs ∧ xs.length + zs.length ≤ sizeLine ∧ ∀ p, H p = none → Q (.ref p) (upd H p (.lst (xs ++ zs)))
theorem op_catS : OpR X (binaryOp .Add) (rCatS X.K) := by
  intro pins s σ H x y v u Q I rx ry h
  obtain ⟨l, b, xs, zs, rfl, rfl, hl, hb, hz, q⟩ := h
  cases rx
  cases ry
  obtain ⟨its, r, p1, _⟩ := I.list hl
  obtain ⟨its2, r2, p2, _⟩ := I.list hb
  have el := r.length
  have el2 := r2.length
  obtain ⟨⟨cls, dd, data, sl⟩, ho, hc, n, hd⟩ := id p1.isList
  obtain ⟨⟨cls2, dd2, data2, sl2⟩, ho2, hc2, n2, hd2⟩ := id p2.isList
  simp only at hc hd hc2 hd2
  subst hc hd hc2 hd2
  have e : its.toArray ++ its2.toArray = (its ++ its2).toArray := by simp
  refine concat_meets ⟨_, ho, rfl⟩ ⟨_, ho2, rfl⟩ noFill_list_add seq_list_add PySem.F.slot_list_add PySem.F.entry_list_add (PySem.F.args_list_add_2 _ _) (list_addW l b its.toArray its2.toArray n n2 dd dd2 sl sl2 (by rw [List.size_toArray, List.size_toArray, ← el, ← el2]; exact hz)) ⟨ho, ho2, ?_⟩
  rw [e]
  exact ⟨.ref _, _, I.lnew (t' := s.toks) (r.append r2) (by rw [List.length_append]; exact hz), rfl, q _ I.fresh⟩

/-- sorted(xs), a list that reads as data -/
def sortPairs (zs : List (V × PyData)) : List (V × PyData) := zs.mergeSort (PySem.W.dataLe false fun p => p.2)
def rSortedD (K : PySem.W.Frag) : List V → Hp → VK → Prop := fun vs H Q => ∃ a xs ds, vs = [.ref a] ∧ SqL K H a xs ∧ L2.DpAll K H xs ds ∧ PySem.W.AllAlike ds ∧ PySem.W.Sortable ds ∧ (∀ d ∈ ds, d.depth ≤ 60) ∧
  ∀ p, H p = none → Q (.ref p) (upd H p (.lst ((sortPairs (xs.zip ds)).map (·.1))))
theorem l2_len {K : PySem.W.Frag} {G : Hp} : ∀ {vs : List V} {ds : List PyData}, L2.DpAll K G vs ds → vs.length = ds.length
  | _, _, .nil => rfl
  | _, _, .cons _ a => by rw [List.length_cons, List.length_cons, l2_len a]
theorem each_zip {K : PySem.W.Frag} {G : Hp} : ∀ {xs : List V} {ds : List PyData} {us : List Value}, L2.DpAll K G xs ds → Vals xs us → PySem.W.EachIs (fun v (p : V × PyData) => RelV p.1 v) us (xs.zip ds)
  | _, _, _, .nil, .nil => .nil
  | _, _, _, .cons _ a, .cons r t => .cons r (each_zip a t)
theorem each_reads {pins : List (Addr × Obj)} {σ : L2.St} {H : Hp} {s : Shared} (I : L2.Inv X pins σ H s) : ∀ {xs : List V} {ds : List PyData} {us : List Value}, L2.DpAll X.K H xs ds → Vals xs us → PySem.W.EachIs (fun v (p : V × PyData) => ∃ as, Reads s.heap v p.2 as) us (xs.zip ds)
  | _, _, _, .nil, .nil => .nil
  | _, _, _, .cons h a, .cons r t => .cons (L2.Dp.reads I _ _ _ h r) (each_reads I a t)
theorem each_vals : ∀ {us : List Value} {zs : List (V × PyData)}, PySem.W.EachIs (fun v (p : V × PyData) => RelV p.1 v) us zs → Vals (zs.map (·.1)) us
  | _, _, .nil => .nil
  | _, _, .cons r t => .cons r (each_vals t)
theorem zip_snd {K : PySem.W.Frag} {G : Hp} {xs : List V} {ds : List PyData} (a : L2.DpAll K G xs ds) : (xs.zip ds).map (·.2) = ds := by
  have h : (xs.zip ds).map Prod.snd = ds := List.map_snd_zip (Nat.le_of_eq (l2_len a).symm)
  exact h
theorem cr_sortedD (hu : X.A.units + 64 < cLine) : CallR X (.builtin "sorted") (rSortedD X.K) := by
  intro pins s σ H vs us Q I r h
  obtain ⟨a, xs, ds, rfl, hs, hd, al, so, dp, q⟩ := h
  obtain ⟨its, rv, hl, hz⟩ := I.list hs
  rw [Vals.ref1 r]
  have es : (xs.zip ds).map (fun p => p.2) = ds := zip_snd hd
  have el : (xs.zip ds).length = xs.length := by
    rw [List.length_zip, l2_len hd, Nat.min_self]
  refine PySem.W.sorted_data (enc := fun p : V × PyData => p.2) hl.isList (each_zip hd rv) (each_reads I hd rv) (by rw [es]; exact al) (by rw [es]; exact so) (by rw [el]; exact hz) (fun b hb => ?_) fun out ho eo => ?_
  · have h1 := dp b.2 (List.of_mem_zip (show (b.1, b.2) ∈ xs.zip ds from hb)).2
    omega
  · obtain ⟨ep, he'⟩ := PyProof.Rows.sortedAll_at s.heap its out.toArray
    have hv : Vals ((sortPairs (xs.zip ds)).map (·.1)) out := each_vals eo
    have hlen : ((sortPairs (xs.zip ds)).map (·.1)).length ≤ sizeLine := by
      rw [hv.length, ho, el]
      exact hz
    exact ⟨.ref _, upd H (s.heap.objs.size + 1) (.lst ((sortPairs (xs.zip ds)).map (·.1))), I.laid (t' := s.toks) (fun _ _ => PyProof.Rows.sortedAll_old) (Nat.le_succ _) ⟨hlen, out, ep, hv, he'⟩, rfl, q _ (I.hok.fresh (Nat.le_succ _))⟩
/-- t + u, the object known -/
def rCatF (K : PySem.W.Frag) : R2 := fun x y H Q => ∃ a b xs ys, x = .ref a ∧ y = .ref b ∧ SqT K H a xs ∧ SqT K H b ys ∧ xs.length + ys.length ≤ sizeLine ∧
  (xs = [] → Q (.ref b) H) ∧ (xs ≠ [] → ys = [] → Q (.ref a) H) ∧ (xs ≠ [] → ys ≠ [] → ∀ p o, H p = none → o.dict = none → Q (.ref p) (upd H p (.frz o (.tup (xs ++ ys)))))
theorem frz_new {pins : List (Addr × Obj)} {σ : L2.St} {H : Hp} {s : Shared} {xs : List V} {its : List Value} {t' : Nat} (I : L2.Inv X pins σ H s) (r : Vals xs its) (hz : xs.length ≤ sizeLine) :
    L2.Inv X pins σ (upd H s.heap.objs.size (.frz { cls := .type "tuple", data := .seq its.toArray } (.tup xs))) { s with heap := s.heap.push { cls := .type "tuple", data := .seq its.toArray }, toks := t' } :=
  I.laid (fun b ob q => Heap.get?_push_of_some _ q) (Nat.le_refl _) ⟨Heap.get?_push_size _ rfl, hz, its, r, IsTup.new _ _⟩
theorem op_catF : OpR X (binaryOp .Add) (rCatF X.K) := by
  intro pins s σ H x y v u Q I rx ry h
  obtain ⟨a, b, xs, ys, rfl, rfl, ha, hb, hz, q0, q1, q2⟩ := h
  cases rx
  cases ry
  obtain ⟨its, r1, p1, _⟩ := I.tuple ha
  obtain ⟨its2, r2, p2, _⟩ := I.tuple hb
  by_cases hx : xs = []
  · subst hx
    cases r1
    exact cat_tup0 p1 p2 ⟨.ref b, H, I, rfl, q0 rfl⟩
  · refine HT.cat_tup p1 p2 (fun z => hx (r1.nil_iff.mp z)) (fun z => ⟨.ref a, H, I, rfl, q1 hx (r2.nil_iff.mp z)⟩) (fun z => ?_) (by rw [← r1.length, ← r2.length]; exact hz)
    exact ⟨.ref s.heap.objs.size, _, frz_new (t' := s.toks) I (r1.append r2) (by rw [List.length_append]; exact hz), rfl, q2 hx (fun w => z (r2.nil_iff.mpr w)) _ _ (I.hok.fresh (Nat.le_refl _)) rfl⟩
/-- t[lo:hi], the object known -/
def rSlF (K : PySem.W.Frag) : V → Option Int → Option Int → Hp → VK → Prop := fun x lo hi H Q => ∃ a xs, x = .ref a ∧ SqT K H a xs ∧
  (HT.sIx xs.length 0 lo = 0 ∧ HT.sIx xs.length xs.length hi = xs.length → Q (.ref a) H) ∧ (¬ (HT.sIx xs.length 0 lo = 0 ∧ HT.sIx xs.length xs.length hi = xs.length) → ∀ p o, H p = none → o.dict = none → Q (.ref p) (upd H p (.frz o (.tup (cutV xs lo hi)))))
theorem sl_tupF : SlR X (rSlF X.K) := by
  intro pins s σ H x v vl vu lo hi sl Q I rx hs pl pu h
  obtain ⟨a, xs, rfl, hx, q1, q2⟩ := h
  cases rx
  obtain ⟨its, r, ht, hz⟩ := I.tuple hx
  have hlen : its.toArray.size = xs.length := by rw [List.size_toArray]; exact r.length.symm
  refine ⟨"tuple", _, PyProof.Rows.slot_tuple_getitem.lookup, ht.typeIs, ?_⟩
  by_cases hw : HT.sIx xs.length 0 lo = 0 ∧ HT.sIx xs.length xs.length hi = xs.length
  · exact getItem_tuple_whole ht hs pl pu (by rw [hlen]; exact hw) ⟨.ref a, H, I, rfl, q1 hw⟩
  · refine HT.getItem_tuple_cut ht hs pl pu (by rw [hlen]; exact hw) ?_ (by rw [hlen]; exact hz)
    rw [hlen]
    exact ⟨.ref s.heap.objs.size, _, frz_new (t' := s.toks) I ((r.drop (HT.sIx xs.length 0 lo)).take (HT.sIx xs.length xs.length hi - HT.sIx xs.length 0 lo)) (Nat.le_trans (cutV_length xs lo hi) hz), rfl, q2 hw _ _ (I.hok.fresh (Nat.le_refl _)) rfl⟩
/-- tuple(x), the object known -/
def rTupleF (K : PySem.W.Frag) : List V → Hp → VK → Prop := fun xs H Q => ∃ p ys, xs = [.ref p] ∧ ((SqL K H p ys ∧ ∀ l o, H l = none → o.dict = none → Q (.ref l) (upd H l (.frz o (.tup ys)))) ∨ (SqT K H p ys ∧ Q (.ref p) H))
theorem call_tupleF : CallR X (.type "tuple") (rTupleF X.K) := by
  intro pins s σ H xs us Q I r h
  obtain ⟨p, ys, rfl, h⟩ := h
  obtain ⟨u, rfl, rx⟩ := vals1 r
  cases rx
  rcases h with ⟨hq, q⟩ | ⟨hq, q⟩
  · obtain ⟨its, r', pl, hz⟩ := I.list hq
    have hlen := r'.length
    refine call_tuple_list pl.isList (fun h' kp => ?_) (by simp only [List.size_toArray] <;> omega)
    have I1 : L2.Inv X pins σ H { s with heap := h' } := I.kept (t' := s.toks) kp
    exact ⟨.ref h'.objs.size, _, frz_new (t' := s.toks) I1 r' hz, rfl, q _ _ (I1.hok.fresh (Nat.le_refl _)) rfl⟩
  · obtain ⟨its, r', pl, hz⟩ := I.tuple hq
    exact call_tuple_same pl ⟨.ref p, H, I, rfl, q⟩
end
/-- the sorted data -/
def sortD (ds : List PyData) : List PyData := ds.mergeSort (PySem.W.dataLe false fun d => d)
theorem dpa_of_pairs {K : PySem.W.Frag} {G : Hp} : ∀ {zs : List (V × PyData)}, (∀ p ∈ zs, Dp K G p.1 p.2) → DpAll K G (zs.map (·.1)) (zs.map (·.2))
  | [], _ => .nil
  | p :: zs, h => .cons (h p List.mem_cons_self) (dpa_of_pairs fun q hq => h q (List.mem_cons_of_mem _ hq))
theorem pairs_of_dpa {K : PySem.W.Frag} {G : Hp} : ∀ {xs : List V} {ds : List PyData}, DpAll K G xs ds → ∀ p ∈ xs.zip ds, Dp K G p.1 p.2
  | _, _, .nil, p, hp => by cases hp
  | _, _, .cons h a, p, hp => by
    rcases List.mem_cons.mp hp with z | z
    · rw [z]
      exact h
    · exact pairs_of_dpa a p z
theorem sort_dpa {K : PySem.W.Frag} {G : Hp} {xs : List V} {ds : List PyData} (a : DpAll K G xs ds) : DpAll K G ((sortPairs (xs.zip ds)).map (·.1)) (sortD ds) := by
  have h1 : (sortPairs (xs.zip ds)).map (·.2) = sortD ds := by
    have q := PySem.W.sort_maps (r := PySem.W.dataLe false fun p : V × PyData => p.2) (s := PySem.W.dataLe false fun d => d) (fun p : V × PyData => p.2) (l := xs.zip ds) fun a _ b _ => rfl
    rw [zip_snd (dpa_l2 a)] at q
    exact q
  rw [← h1]
  refine dpa_of_pairs fun p hp => pairs_of_dpa a p ?_
  exact List.mem_mergeSort.mp hp

/-! ### operations of data -/
section
variable {K : PySem.W.Frag}
theorem sh_int {G H : Hp} {v : V} {i : Int} (h : Sh K G H v (.int i)) : v = .int i := by
  have h : Dp K G v (.int i) := h
  cases h
  rfl
theorem sh_str {G H : Hp} {v : V} {x : Str} (h : Sh K G H v (.str x)) : v = .str x := by
  have h : Dp K G v (.str x) := h
  cases h
  rfl
theorem sh_bool {G H : Hp} {v : V} {b : Bool} (h : Sh K G H v (.bool b)) : v = .bl b := by
  have h : Dp K G v (.bool b) := h
  cases h
  rfl
def pI (C : Int → Int → Prop) (g : Int → Int → V) (a b d : PyData) : Prop := ∃ i j, a = .int i ∧ b = .int j ∧ C i j ∧ cV (g i j) = some d
instance opp_I0 {g : Int → Int → V} : OpP K (rI0 g) (pI (fun _ _ => True) g) := ⟨fun {G H v w a b d Q} le h1 h2 ⟨i, j, ea, eb, _, e⟩ q => by
  subst ea eb
  exact ⟨i, j, sh_int h1, sh_int h2, q _ _ (.same (cV_dp e))⟩⟩
instance opp_I {C : Int → Int → Prop} {g : Int → Int → V} : OpP K (rI C g) (pI C g) := ⟨fun {G H v w a b d Q} le h1 h2 ⟨i, j, ea, eb, hc, e⟩ q => by
  subst ea eb
  exact ⟨i, j, sh_int h1, sh_int h2, hc, q _ _ (.same (cV_dp e))⟩⟩
def pEq (a b d : PyData) : Prop := SeqAt.shaped a = true ∧ SeqAt.shaped b = true ∧ d = .bool (PyData.eqv a b)
def pNe (a b d : PyData) : Prop := SeqAt.shaped a = true ∧ SeqAt.shaped b = true ∧ d = .bool (!PyData.eqv a b)
instance opp_Eq : OpP K (rEqD K) pEq := ⟨fun {G H v w a b d Q} le h1 h2 ⟨s1, s2, e⟩ q => by
  subst e
  exact ⟨a, b, dp_l2 (h1.dp le), dp_l2 (h2.dp le), s1, s2, q _ _ (.same (.bl _))⟩⟩
instance opp_Ne : OpP K (rNeD K) pNe := ⟨fun {G H v w a b d Q} le h1 h2 ⟨s1, s2, e⟩ q => by
  subst e
  exact ⟨a, b, dp_l2 (h1.dp le), dp_l2 (h2.dp le), s1, s2, q _ _ (.same (.bl _))⟩⟩
def pLt (a b d : PyData) : Prop := PySem.W.alike a b = true ∧ a ≠ .none ∧ a.depth ≤ 60 ∧ d = .bool (PySem.W.dataLt a b)
instance opp_Lt : OpP K (rLtD K) pLt := ⟨fun {G H v w a b d Q} le h1 h2 ⟨s1, s2, s3, e⟩ q => by
  subst e
  exact ⟨a, b, dp_l2 (h1.dp le), dp_l2 (h2.dp le), s1, s2, s3, q _ _ (.same (.bl _))⟩⟩
/-- x + y: ints, texts, tuples, lists -/
def rAddStr : R2 := fun x y H Q => ∃ i j, x = .str i ∧ y = .str j ∧ i.length + j.length ≤ sizeLine ∧ Q (.str (i ++ j)) H
def rAddU (K : PySem.W.Frag) : R2 := fun x y H Q => rI0 (fun i j => .int (i + j)) x y H Q ∨ rAddStr x y H Q ∨ rCatF K x y H Q ∨ rCatS K x y H Q
theorem op_addU {X : Cx} : OpR X (binaryOp .Add) (rAddU X.K) := OpR.or op_add (OpR.or op_add_str (OpR.or op_catF op_catS))
def pAdd : PyData → PyData → PyData → Prop
  | .int i, .int j, d => d = .int (i + j)
  | .str x, .str y, d => x.length + y.length ≤ 1000000 ∧ d = .str (x ++ y)
  | .tuple xs, .tuple ys, d => xs.length + ys.length ≤ 1000000 ∧ d = .tuple (xs ++ ys)
  | .list xs, .list ys, d => xs.length + ys.length ≤ 1000000 ∧ d = .list (xs ++ ys)
  | _, _, _ => False
instance opp_Add : OpP K (rAddU K) pAdd := ⟨fun {G H v w a b d Q} le h1 h2 hp q => by
  cases a with
  | int i =>
    cases b with
    | int j =>
      have e : d = .int (i + j) := hp
      subst e
      exact .inl ⟨i, j, sh_int h1, sh_int h2, q _ _ (.same (.int _))⟩
    | _ => cases hp
  | str x =>
    cases b with
    | str y =>
      obtain ⟨hl, e⟩ := hp
      subst e
      exact .inr (.inl ⟨x, y, sh_str h1, sh_str h2, le_size hl, q _ _ (.same (.str _))⟩)
    | _ => cases hp
  | tuple xs =>
    cases b with
    | tuple ys =>
      obtain ⟨hl, e⟩ := hp
      subst e
      obtain ⟨p, us, ev, hq, ha, hd1⟩ := h1.tup le
      obtain ⟨p2, us2, ev2, hq2, ha2, hd2⟩ := h2.tup le
      refine .inr (.inr (.inl ⟨p, p2, us, us2, ev, ev2, hq, hq2, by rw [dpa_len ha, dpa_len ha2]; exact le_size hl, fun e => ?_, fun n e => ?_, fun n n2 pp ob hpp hob => ?_⟩))
      · have e1 : xs = [] := by
          have l := dpa_len ha
          rw [e] at l
          exact List.length_eq_zero_iff.mp l.symm
        rw [ev2] at hd2
        rw [e1] at q
        exact q _ _ (.same hd2)
      · have e1 : ys = [] := by
          have l := dpa_len ha2
          rw [e] at l
          exact List.length_eq_zero_iff.mp l.symm
        rw [ev] at hd1
        rw [e1, List.append_nil] at q
        exact q _ _ (.same hd1)
      · exact q _ _ (.tup hpp hob (dpa_append ha ha2))
    | _ => cases hp
  | list xs =>
    cases b with
    | list ys =>
      obtain ⟨hl, e⟩ := hp
      subst e
      obtain ⟨p, us, ev, hq, ha⟩ := h1
      obtain ⟨p2, us2, ev2, hq2, ha2⟩ := h2
      exact .inr (.inr (.inr ⟨p, p2, us, us2, ev, ev2, hq, hq2, by rw [dpa_len ha, dpa_len ha2]; exact le_size hl, fun pp hpp => q _ _ (.lst hpp (dpa_append ha ha2))⟩))
    | _ => cases hp
  | none => cases b <;> cases hp
  | bool _ => cases b <;> cases hp
  | dict _ => cases b <;> cases hp⟩
end
end PL

set_option maxHeartbeats 1000000
namespace PL
open PySem L2 PyProof.Rows
open GxR (TabG Tabbed)

/-! ### t[::-1] of a tuple -/
section
variable {prog : Program} {w : World} {A : Around} {E : Value → Shared → Prop} {s : Shared}
theorem adjust_rev (n : Nat) : Builtin.Slice.sliceAdjust none none (-1) (n : Int) = ((n : Int) - 1, -1) := by
  unfold Builtin.Slice.sliceAdjust
  simp
theorem places_rev (n : Nat) : Builtin.Slice.slicePlaces ((n : Int) - 1) (-1) (-1) = n := by
  unfold Builtin.Slice.slicePlaces
  have h1 : ¬ ((-1 : Int) > 0) := by omega
  simp only [h1, if_false]
  split
  · have e : ((n : Int) - 1 - -1 - 1) / - -1 = (n : Int) - 1 := by
      rw [show (- -1 : Int) = 1 by decide, Int.ediv_one]
      omega
    rw [e]
    omega
  · omega
theorem filterMap_eq {α β : Type} {f g : α → Option β} : ∀ {l : List α}, (∀ a ∈ l, f a = g a) → l.filterMap f = l.filterMap g
  | [], _ => rfl
  | a :: l, h => by
    rw [List.filterMap_cons, List.filterMap_cons, h a List.mem_cons_self, filterMap_eq fun b hb => h b (List.mem_cons_of_mem _ hb)]
theorem sliceApplied_rev {sl : Addr} {vl vu vs : Value} {n : Nat} {Q : Int × Int × Nat → Shared → Prop} (hs : s.heap.IsSliceOf sl vl vu vs) (pl : IsPart vl none) (pu : IsPart vu none) (ps : IsPart vs (some (-1)))
    (h : Q ((n : Int) - 1, -1, n) s) : wpAny (model prog w) A (Builtin.Slice.sliceApplied (.ref sl) (pure (n : Int))) Q E s := by
  obtain ⟨os, hos, hcs, hds⟩ := id hs
  unfold Builtin.Slice.sliceApplied Builtin.Slice.sliceFields
  refine wpAny_bind (wpAny_bind (wpAny_field hos hds (x := vl) rfl (wpAny_bind (wpAny_field hos hds (x := vu) rfl (wpAny_bind (wpAny_field hos hds (x := vs) rfl (wpAny_pure ?_)))))))
  refine wpAny_bind (HT.slicePart_ ps ?_)
  show wpAny _ _ (if ((-1 : Int) == 0) = true then _ else _) _ _ s
  rw [if_neg (by decide)]
  refine wpAny_bind (HT.slicePart_ pl (wpAny_bind (HT.slicePart_ pu (wpAny_bind (wpAny_pure ?_)))))
  show wpAny _ _ (match Builtin.Slice.sliceAdjust none none (-1) (n : Int) with | (lo, hi) => pure (lo, (-1 : Int), Builtin.Slice.slicePlaces lo hi (-1))) _ _ s
  rw [adjust_rev n]
  show wpAny _ _ (pure ((n : Int) - 1, (-1 : Int), Builtin.Slice.slicePlaces ((n : Int) - 1) (-1) (-1))) _ _ s
  rw [places_rev]
  exact wpAny_pure h
theorem pick_rev (xs : Array Value) : ((List.range xs.size).filterMap fun (m : Nat) => xs[(((xs.size : Int) - 1) + (m : Int) * (-1)).toNat]?).toArray = xs.toList.reverse.toArray := by
  have e : (List.range xs.size).filterMap (fun (m : Nat) => xs[(((xs.size : Int) - 1) + (m : Int) * (-1)).toNat]?) = ((List.range xs.size).map fun k => xs.size - 1 - k).filterMap (xs[·]?) := by
    rw [List.filterMap_map]
    refine filterMap_eq fun m hm => ?_
    have hm := List.mem_range.mp hm
    show xs[(((xs.size : Int) - 1) + (m : Int) * (-1)).toNat]? = xs[xs.size - 1 - m]?
    have : (((xs.size : Int) - 1) + (m : Int) * (-1)).toNat = xs.size - 1 - m := by omega
    rw [this]
  rw [e, PySem.W.krv_range, List.filterMap_reverse, PySem.W.krv_all]
theorem getItem_tuple_rev {t sl : Addr} {items : Array Value} {vl vu vs : Value} {Q : Value → Shared → Prop} (ht : IsTup s.heap t items) (hs : s.heap.IsSliceOf sl vl vu vs) (pl : IsPart vl none) (pu : IsPart vu none) (ps : IsPart vs (some (-1)))
    (h : Q (.ref s.heap.objs.size) { s with heap := s.heap.push { cls := .type "tuple", data := .seq items.toList.reverse.toArray } })
    (hsz : items.size ≤ sizeLine) : wpAny (model prog w) A (getItem (.ref t) (.ref sl)) Q E s := by
  have htake : sizeOk (.seq items.toList.reverse.toArray) := by
    show items.toList.reverse.toArray.size ≤ sizeLine
    rw [List.size_toArray, List.length_reverse, Array.length_toList]
    exact hsz
  obtain ⟨os, hos, hcs, hds⟩ := id hs
  have hTs : s.TypeIs (.ref sl) "slice" := ⟨os, hos, hcs⟩
  unfold getItem
  try with_reducible refine wpAny_holding ?_
  first | refine wpAny_bind (wpAny_pure ?_) | skip
  refine wpAny_bind (wpAny_sequenceKey ht.typeIs (by decide) ?_)
  refine wpAny_bind (wpAny_callSpecial?_slot (name := Str.ofString "__getitem__") ht.typeIs PyProof.Rows.slot_tuple_getitem
    (wpAny_call_entry PyProof.Rows.slot_tuple_getitem ht.typeIs entry_tuple_getitem ?_ (args_tuple_getitem _ _)))
  show wpAny _ _ (Builtin.Tuple.tupleItemsOf (.ref t) >>= _) _ _ s
  refine wpAny_bind (tupleItemsOf_ ht ?_)
  refine wpAny_bind (wpAny_typeOf hTs ?_)
  rw [if_pos (by decide)]
  refine wpAny_bind (sliceApplied_rev (n := items.size) hs pl pu ps ?_)
  have hno : ¬ (((((items.size : Int) - 1) == 0) && (-1 : Int) == 1 && items.size == items.size) = true) := by
    intro q
    rw [Bool.and_eq_true, Bool.and_eq_true] at q
    exact absurd (eq_of_beq q.1.2) (by decide)
  show wpAny _ _ (if ((((items.size : Int) - 1) == 0) && (-1 : Int) == 1 && items.size == items.size) = true then _ else _) _ _ s
  rw [if_neg hno, pick_rev]
  first
    | exact wpAny_bind (m := Builtin.Tuple.tupleExact _) (wpAny_newObj_type (wpAny_pure ⟨_, rfl, wpAny_pure h⟩) htake)
    | exact wpAny_bind (m := Builtin.Tuple.tupleExact _) (wpAny_newObj_type (wpAny_bind (wpAny_pure (wpAny_pure ⟨_, rfl, wpAny_pure h⟩))) htake)
    | exact wpAny_bind (wpAny_bind (m := Builtin.Tuple.tupleExact _) (wpAny_newObj_type (wpAny_pure (wpAny_pure ⟨_, rfl, wpAny_pure h⟩)) htake))
    | exact wpAny_bind (wpAny_bind (m := Builtin.Tuple.tupleExact _) (wpAny_newObj_type (wpAny_pure ⟨_, rfl, wpAny_pure h⟩) htake))
end
section
variable {X : Cx}
def tRevT (K : PySem.W.Frag) (te : TE) : TE := fun σ H Q => te σ H fun x H1 => ∃ a xs, x = .ref a ∧ SqT K H1 a xs ∧ ∀ p o, H1 p = none → o.dict = none → Q (.ref p) (upd H1 p (.frz o (.tup xs.reverse)))
theorem pe_revT {e : Expr} {te : TE} {k : Nat} {p1 p2 p3 pos : Pos} (he : PE X e te) : PE X (.Subscript e (.Slice none none (some (.UnaryOp .USub (.Constant (.int 1) k p1) p2)) p3) pos) (tRevT X.K te) := by
  refine ⟨fun pins s σ H Q I h => ?_⟩
  refine Subscript_ (thn (he.run pins s σ H _ I h) fun v s1 ⟨x, H1, I1, r1, q1⟩ => ?_)
  obtain ⟨a, xs, ex, hx, q⟩ := q1
  subst ex
  cases r1
  have hst : PO X (some (.UnaryOp .USub (.Constant (.int 1) k p1) p2)) (tPart (tUn (rU fun i => .int (-i)) (tC (.int 1)))) := po_some (pe_un un_neg pe_int)
  refine wpAny_Slice (thn (po_none.run pins s1 σ H1 (fun o H2 => o = none ∧ H2 = H1) I1 ⟨rfl, rfl⟩) fun vl s2 ⟨l, H2, I2, pl, el, e2⟩ => ?_)
  subst el e2
  refine thn (po_none.run pins s2 σ H2 (fun o H3 => o = none ∧ H3 = H2) I2 ⟨rfl, rfl⟩) fun vu s3 ⟨u, H3, I3, pu, eu, e3⟩ => ?_
  subst eu e3
  refine thn (hst.run pins s3 σ H3 (fun o H4 => o = some (-1) ∧ H4 = H3) I3 ⟨1, rfl, -1, rfl, rfl, rfl⟩) fun vs s4 ⟨o, H4, I4, ps, eo, e4⟩ => ?_
  subst eo e4
  have I5 : L2.Inv X pins σ H4 { s4 with heap := s4.heap.push { cls := .type "slice", data := .fields #[vl, vu, vs] } } := I4.kept (t' := s4.toks) fun b ob q => Heap.get?_push_of_some _ q
  obtain ⟨its, r, ht, hz⟩ := I5.tuple hx
  have hlen := r.length
  show wpAny (model X.prog X.w) X.A (subscriptTail e (.Slice none none (some (.UnaryOp .USub (.Constant (.int 1) k p1) p2)) p3) (.ref a) (.ref s4.heap.objs.size)) (EP X pins σ Q) X.xe { s4 with heap := s4.heap.push { cls := .type "slice", data := .fields #[vl, vu, vs] } }
  refine tail_any (ops := [.ref a, .ref s4.heap.objs.size]) ht.typeIs (PyProof.Rows.slot_tuple_getitem.lookup) ?_ (by with_unfolding_all rfl)
  refine getItem_tuple_rev ht (Heap.IsSliceOf.new _ vl vu vs) pl pu ps ?_ (by rw [List.size_toArray]; omega)
  exact ⟨.ref _, _, frz_new (t' := s4.toks) I5 r.reverse (by rw [List.length_reverse]; exact hz), rfl, q _ _ (I5.hok.fresh (Nat.le_refl _)) rfl⟩

/-- t.index(i), a tuple of ints: the first place -/
theorem flat_ints (ys : List Int) : (ys.map V.int).all flatV = true := by
  rw [List.all_map]
  exact List.all_eq_true.mpr fun _ _ => rfl
def rIndexTI (K : PySem.W.Frag) : V → List V → Hp → VK → Prop := fun x xs H Q => ∃ (p : Addr) (ys : List Int) (z : Int) (j : Nat), x = .ref p ∧ xs = [.int z] ∧ SqT K H p (ys.map V.int) ∧ ys[j]? = some z ∧ (∀ m, m < j → ys[m]? ≠ some z) ∧ Q (.int (j : Nat)) H
theorem mt_tup_indexI : MtR X "tuple.index" (rIndexTI X.K) := by
  intro pins s σ H x xs v us Q I rx rs h
  obtain ⟨p, ys, z, j, rfl, rfl, hq, hy, hno, q⟩ := h
  cases rx
  obtain ⟨u, rfl, t, rfl⟩ := vals1 rs
  obtain ⟨its, r, pl, hz⟩ := I.tuple hq
  obtain ⟨⟨cls, dd, dt, sl⟩, ho, hc, n, hd⟩ := pl
  simp only at hc hd
  subst hc
  subst hd
  have hl : its.toArray.size = ys.length := by rw [List.size_toArray, ← r.length, List.length_map]
  have hj : j < its.toArray.size := by rw [hl]; exact (List.getElem?_eq_some_iff.mp hy).1
  have at' : ∀ (m : Nat) (hm : m < its.toArray.size), ∃ y t', ys[m]? = some y ∧ its.toArray[m] = Value.int y t' := fun m hm => by
    have hm' : m < ys.length := by rw [← hl]; exact hm
    obtain ⟨w, hw, t', hw'⟩ := r.get (i := m) (x := .int ys[m]) (by simp [hm'])
    refine ⟨ys[m], t', List.getElem?_eq_getElem hm', ?_⟩
    have e := (List.getElem?_eq_some_iff.mp hw).2
    rw [← hw', ← e]
    simp
  refine call_meets PySem.F.slot_tuple_index ⟨_, ho, rfl⟩ PySem.F.entry_tuple_index (PySem.F.args_tuple_index_2 _ _) (TI.tuple_indexAt p its.toArray n dd sl (.int z t) (eqU (.int z)) j hj ?_ ?_)
    ⟨ho, fun w hw => mem_eqAt (x := .int z) ⟨t, rfl⟩ rfl r (flat_ints ys) w (by simpa using hw), ⟨.int (j : Nat), H, I.tok _, ⟨_, rfl⟩, q⟩⟩
  · obtain ⟨y, t', h1, h2⟩ := at' j hj
    rw [hy] at h1
    cases h1
    rw [h2]
    show (z == z) = true
    exact beq_self_eq_true z
  · intro m hm hmj
    obtain ⟨y, t', h1, h2⟩ := at' m hm
    rw [h2]
    have ne : y ≠ z := fun e => hno m hmj (by rw [h1, e])
    show (y == z) = false
    exact beq_eq_false_iff_ne.mpr ne
end
end PL

set_option maxHeartbeats 1000000
namespace PL
open PySem L2 PyProof.Rows
open GxR (TabG Tabbed)
open PySem.AutoSeq1 (wpAny_loadPart')

/-! ### enumerate of a tuple -/
theorem meets_enumerate_newT (l : Addr) (items : Array Value) (n : Nat) (dct : Option Addr) (sl : Array (Option Value)) :
    Meets (Builtin.«enumerate.__new__» ⟨[.type "enumerate", .ref l], []⟩) (fun _ R s => s.heap.get? l = some { cls := .type "tuple", dict := dct, data := .seq items n, slots := sl } ∧
      R (.ok (.ret (.ref (s.heap.push { cls := .type "tuple_iterator", data := .fields #[.ref l, .int 0 0] }).objs.size)))
        { s with heap := (s.heap.push { cls := .type "tuple_iterator", data := .fields #[.ref l, .int 0 0] }).push { cls := .type "enumerate", data := .fields #[.none, .bool false, .ref s.heap.objs.size, rawInt 0, .none, .none] } }) :=
  .of_wp fun prog w A R s h => by
    obtain ⟨hp, g, d, tk, os⟩ := s; obtain ⟨hl, h⟩ := h
    have hsub := sub_enumerate
    have hL : Heap.IsTuple (Shared.heap ⟨hp, g, d, tk, os⟩) l items := ⟨_, hl, rfl, n, rfl⟩
    wp_walk using wpAny_loadPart' hl
    refine wpAny_stack_any fun st => wpAny_pure ?_
    split
    · rename_i c _ _ _ _ _
      cases (c == Value.type "enumerate")
      · wp_walk using wpAny_loadPart' hl, wpAny_pyIter_tuple hL
        exact ⟨_, rfl, h⟩
      · wp_walk using wpAny_loadPart' hl, wpAny_pyIter_tuple hL
        exact ⟨_, rfl, h⟩
    · wp_walk using wpAny_loadPart' hl, wpAny_pyIter_tuple hL
      exact ⟨_, rfl, h⟩
section
variable {prog : Program} {w : World} {A : Around} {E : Value → Shared → Prop} {s : Shared}
theorem call_enumerate_tuple {l : Addr} {items : Array Value} {Q : Value → Shared → Prop} (hL : IsTup s.heap l items)
    (h : ∀ h', IsEnum h' (s.heap.objs.size + 1) s.heap.objs.size 0 .none → h'.IsTupleIter s.heap.objs.size l 0 → h'.objs.size = s.heap.objs.size + 2 →
      (∀ b o, s.heap.get? b = some o → h'.get? b = some o) → Q (.ref (s.heap.objs.size + 1)) { s with heap := h' }) :
    wpAny (model prog w) A (call (.type "enumerate") [.ref l]) Q E s := by
  obtain ⟨⟨c, dct, dt, sl⟩, hl, hc, n, hd⟩ := hL
  replace hc : c = .type "tuple" := hc
  replace hd : dt = .seq items n := hd
  subst hc hd
  refine callType_new F.called_enumerate (by decide) (F.typeCall_enumerate_1 _) (F.newCall_enumerate_1 _) (fun obj => F.args_object_init_2 obj _) F.entry_enumerate_new
    (meets_enumerate_newT l items n dct sl) ⟨hl, ?_⟩
  have hz : (s.heap.push { cls := .type "tuple_iterator", data := .fields #[.ref l, .int 0 0] }).objs.size = s.heap.objs.size + 1 := Heap.size_push ..
  show _ ∧ _
  rw [hz]
  have he : IsEnum ((s.heap.push { cls := .type "tuple_iterator", data := .fields #[.ref l, .int 0 0] }).push
      { cls := .type "enumerate", data := .fields #[.none, .bool false, .ref s.heap.objs.size, rawInt 0, .none, .none] }) (s.heap.objs.size + 1) s.heap.objs.size 0 .none := by
    have := Heap.get?_push_size (s.heap.push { cls := .type "tuple_iterator", data := .fields #[.ref l, .int 0 0] })
      (o := { cls := .type "enumerate", data := .fields #[.none, .bool false, .ref s.heap.objs.size, rawInt 0, .none, .none] }) rfl
    rw [hz] at this; exact this
  refine ⟨⟨_, he, rfl⟩, h _ he ⟨_, Heap.get?_push_of_some _ (Heap.get?_push_size _ rfl), rfl, rfl⟩ (by rw [Heap.size_push, hz]) fun b o x => Heap.get?_push_of_some _ (Heap.get?_push_of_some _ x)⟩
end
def IteT (K : PySem.W.Frag) (a : Addr) : It :=
  ⟨fun i H => ∃ (xs : List V) (x : V), SqT K H a xs ∧ xs[i]? = some x, fun i H v H' => ∃ T x, v = .ref T ∧ H T = none ∧ H' = upd H T (.tup [.int (i : Nat), x]) ∧ ∀ xs, SqT K H a xs → xs[i]? = some x, fun i H => ∃ xs : List V, SqT K H a xs ∧ xs.length = i⟩
theorem turn_enumT {P : Program} {w : World} {K : PySem.W.Frag} {elts : List Expr} {kk : Nat} {tpos : Pos} (a e it : Addr) (hai : a ≠ it) (hae : e ≠ a) :
    L2.Turn P w K (.Tuple elts kk tpos) (IteT K a) [e, it] e (fun i h => (∃ old, IsEnum h e it ((i : Nat) : Int) old) ∧ h.IsTupleIter it a i ∧ e ≠ it) where
  mem := by simp
  obj := fun i h st b hb => by
    obtain ⟨⟨old, he⟩, ⟨o, ho, hc, hd⟩, _⟩ := st
    have e' : b = e ∨ b = it := by simpa using hb
    rcases e' with z | z
    · rw [z]; exact ⟨_, he, fun v q => nomatch q⟩
    · rw [z]; exact ⟨o, ho, fun v q => by rw [hd] at q; cases q⟩
  keep := fun i h h' st k => let ⟨⟨old, he⟩, hi, hne⟩ := st; ⟨⟨old, k e (by simp) _ he⟩, hi.at fun o q => k it (by simp) o q, hne⟩
  item := by
    intro X hP hw hK hc i pins s σ H E I hf st hg
    subst hP hw hK
    obtain ⟨⟨old, he⟩, hit, hne⟩ := st
    obtain ⟨xs, x, hq, hx⟩ := hg
    obtain ⟨its, rv, p, hz⟩ := I.tuple hq
    obtain ⟨u, hu, ru⟩ := rv.get hx
    have hel : e < s.heap.objs.size := Heap.lt_size he
    have hil : it < s.heap.objs.size := by obtain ⟨_, q, _⟩ := hit; exact Heap.lt_size q
    have hlt : i < its.toArray.size := by
      rw [List.size_toArray]
      exact (List.getElem?_eq_some_iff.mp hu).1
    have hef : e ∉ [it, a] := by
      simp only [List.mem_cons, List.not_mem_nil, or_false, not_or]
      exact ⟨hne, hae⟩
    refine wpAny_pyNext_enum_itemD (Draws.tuple (A := X.A.in1) (show X.A.in1.handled = none from I.ok.hd hc) it a hai its.toArray) he ⟨hit, p⟩ hlt hne hef fun x1 h' tk hP1 ho hit' hT hsz hk => ?_
    have ex1 : x1 = u := by
      have hP2 : its.toArray[i]? = some x1 := hP1
      rw [List.getElem?_toArray, hu] at hP2
      exact (Option.some.inj hP2).symm
    subst ex1
    refine ⟨_, rfl, wpAny_letOwnedTupleGo_enum (s := { s with heap := h', toks := tk + 1 }) ho fun h'' he' sb => ?_⟩
    have hT2 : h''.get? s.heap.objs.size = some { cls := .type "tuple", data := .seq #[.int i tk, x1] } := (sb.2 _ (Nat.ne_of_gt hel)).trans hT
    have new : ObjOk X.prog X.w (upd H s.heap.objs.size (.tup [.int (i : Nat), x])) h'' s.heap.objs.size (.tup [.int (i : Nat), x]) :=
      ⟨by show 2 ≤ sizeLine; decide, [.int i tk, x1], .cons ⟨_, rfl⟩ (.cons ru .nil), ⟨_, hT2, rfl, _, rfl⟩⟩
    have I1 : L2.Inv X pins σ (upd H s.heap.objs.size (.tup [.int (i : Nat), x])) { s with heap := h'', toks := tk + 1 } :=
      I.turnedNew (ch := [e, it]) (fun b ob hb q => (sb.2 b (fun z => hb (by simp [z]))).trans (hk b ob (fun z => hb (by simp [z])) (fun z => hb (by simp [z])) q)) hf (Nat.le_refl _) new
    refine ⟨.ref s.heap.objs.size, _, I1, rfl, ⟨_, x, rfl, I.hok.fresh (Nat.le_refl _), rfl, fun ys hy => by rw [I.tuple_inj hy hq]; exact hx⟩, ⟨⟨x1, ?_⟩, hit'.1.at fun o q => (sb.2 it (Ne.symm hne)).trans q, hne⟩, fun b hb => ?_⟩
    · have e1 : ((i + 1 : Nat) : Int) = (i : Int) + 1 := by omega
      rw [e1]; exact he'
    · have hb' : b < s.heap.objs.size := by
        have e' : b = e ∨ b = it := by simpa using hb
        rcases e' with z | z
        · rw [z]; exact hel
        · rw [z]; exact hil
      rw [upd_ne (Nat.ne_of_lt hb')]
      exact (hf b hb).1
  done := by
    intro X hP hw hK hc i pins s σ H E I hf st hg
    subst hP hw hK
    obtain ⟨⟨old, he⟩, hit, hne⟩ := st
    obtain ⟨xs, hq, hx⟩ := hg
    obtain ⟨its, rv, p, hz⟩ := I.tuple hq
    obtain ⟨f0, f1, f2, f3, f4, f5⟩ := hf it (by simp)
    have hl := rv.length
    have hs : its.toArray.size = i := by
      rw [List.size_toArray, ← hl]
      exact hx
    exact wpAny_pyNext_enum_endD (Draws.tuple (A := X.A.in1) (show X.A.in1.handled = none from I.ok.hd hc) it a hai its.toArray) he (show s.heap.IsTupleIter it a its.toArray.size ∧ s.heap.IsTuple a its.toArray by rw [hs]; exact ⟨hit, p⟩) fun h' eb => ⟨rfl, I.turned (t' := s.toks) (fun b o hb q => eb b o hb q) f0 f1 f3 f4 f5⟩
  self := fun A i s Q E st h => let ⟨⟨_, he⟩, _⟩ := st; wpAny_pyIter_enum he h
def iEnumT (K : PySem.W.Frag) (ta : TA) : TI := fun σ H R => ta σ H fun vs H1 => ∃ a xs, vs = [.ref a] ∧ SqT K H1 a xs ∧ R (IteT K a) H1
theorem pi_enumT {X : Cx} {e : Expr} {ta : TA} {p pos tpos : Pos} {elts : List Expr} {kk : Nat} (hg : Gl X "enumerate") (hm : X.mg "enumerate" = none) (ha : PA X [e] ta) (hs : starEach [e] X.env = [(false, eval e X.env)] := by rfl) :
    PI X (.Tuple elts kk tpos) (.Call (.Name "enumerate" p) [e] [] pos) (iEnumT X.K ta) := by
  refine ⟨fun pins s σ H R I h => ?_⟩
  refine Call_ (ld_blt I hg hm boot_enumerate (PyProof.Rows.callWith_type1 (thn (ha.run pos pins s σ H _ I h) fun us s1 ⟨vs, H1, I1, r1, q1⟩ => ?_) hs rfl))
  obtain ⟨a, xs, ex, hq, q⟩ := q1
  subst ex
  cases r1 with
  | cons r rr =>
    cases rr
    cases r
    obtain ⟨its, rv, p', hz⟩ := I1.tuple hq
    refine call_enumerate_tuple p' fun h' he hit hsz hk => wpAny_pyIter_enum he ?_
    have I2 : L2.Inv X pins σ H1 { s1 with heap := h' } := I1.kept (t' := s1.toks) hk
    have al : a < s1.heap.objs.size := p'.lt
    refine ⟨s1.heap.objs.size + 1, [s1.heap.objs.size + 1, s1.heap.objs.size], _, _, H1, rfl, I2, turn_enumT a (s1.heap.objs.size + 1) s1.heap.objs.size (Nat.ne_of_lt al) (Nat.ne_of_gt (Nat.lt_succ_of_lt al)), ⟨⟨.none, he⟩, hit, Nat.succ_ne_self _⟩, fun b hb => ?_, q⟩
    have e' : b = s1.heap.objs.size + 1 ∨ b = s1.heap.objs.size := by simpa using hb
    rcases e' with z | z
    · rw [z]
      exact I1.fpOk (Nat.le_succ _) (I1.hok.fresh (Nat.le_succ _))
    · rw [z]
      exact I1.fpOk (Nat.le_refl _) (I1.hok.fresh (Nat.le_refl _))
/-- the pairs of an enumerate -/
def enumD (ds : List PyData) : List Itm := (List.range ds.length).map fun i => .two (.int (i : Nat)) (ds.getD i .none)
theorem enumD_len (ds : List PyData) : (enumD ds).length = ds.length := by
  unfold enumD
  rw [List.length_map, List.length_range]
theorem enumD_get {ds : List PyData} {i : Nat} {d : PyData} (h : ds[i]? = some d) : (enumD ds)[i]? = some (.two (.int (i : Nat)) d) := by
  have hi := (List.getElem?_eq_some_iff.mp h).1
  unfold enumD
  rw [List.getElem?_map, List.getElem?_range hi]
  show some (Itm.two (.int (i : Nat)) (ds.getD i .none)) = _
  rw [List.getD_eq_getElem?_getD, h]
  rfl
section
variable {K : PySem.W.Frag} {TL : List Addr} {F : Fm} {S : Sto} {E : List Sl} {Ki : List Itm → Sto → Prop}
theorem walk_enumT {a : Addr} {xs : List V} : Walk (IteT K a) xs.length (fun H => SqT K H a xs) (YPair (fun i => some (.int (i : Nat))) (fun i => xs[i]?)) := by
  refine ⟨fun i _ hi q => ⟨xs, xs[i], q, by simp [hi]⟩, fun _ q => ⟨xs, q, rfl⟩, fun i H v H' _ q y => ?_⟩
  obtain ⟨T, x, h1, h2, h3, h4⟩ := y
  exact ⟨T, .int (i : Nat), x, h1, h2, h3, rfl, h4 xs q⟩
theorem ix_enumT {tr : TA} (h : AX K TL F tr S E fun rs S1 => ∃ xs, rs = [.dat (.tuple xs)] ∧ Ki (enumD xs) S1) : IX K TL F (iEnumT K tr) S E Ki := fun σ H o R q =>
  h σ H o _ fun vs rs S1 H1 o1 e1 s1 v1 ⟨xs, er, k⟩ => by
    subst er
    cases v1 with
    | cons h1 v1 =>
      cases v1
      cases h1 with
      | @tup a us _ hq hn ha =>
        refine ⟨a, us, rfl, sqt_le hide_le hq, q _ (enumD xs) S1 H1 o1 e1 s1 ?_ k⟩
        rw [enumD_len, ← dpa_len ha]
        refine (walk_enumT (K := K) (a := a) (xs := us)).mono (fun H2 le => sqt_le le hq) fun i H2 x H3 hi le y => ?_
        obtain ⟨T, x1, x2, rfl, hT, rfl, g1, g2⟩ := y
        cases g1
        obtain ⟨d2, p3, p4⟩ := dpa_getV ha g2
        exact ⟨_, enumD_get p3, .pair hT (.int _) p4⟩
end
end PL

set_option maxHeartbeats 1000000
namespace PL
open PySem L2 PyProof.Rows
open GxR (TabG Tabbed)

/-! ### sum(lists, start), the start a list -/
theorem sub_list_str : isSubtype (.type "list") (.type "str") = pure false := by rw [isSubtype_type]; kernel_rfl
theorem sub_list_bytes : isSubtype (.type "list") (.type "bytes") = pure false := by rw [isSubtype_type]; kernel_rfl
theorem sub_list_bytearray : isSubtype (.type "list") (.type "bytearray") = pure false := by rw [isSubtype_type]; kernel_rfl
theorem args_sum2 (a b : Value) : argsOk "sum" ⟨[a, b], []⟩ := by unfold argsOk; kernel_rfl

section
variable {prog : Program} {w : World} {A : Around} {R : Result → Shared → Prop}
/-- a + b of two lists, over the bare heap -/
theorem add_bare {E : Value → Shared → Prop} {s : Shared} {l b : Addr} {vs ws : List Value} {Q : Value → Shared → Prop} (hl : s.heap.IsList l vs.toArray) (hb : s.heap.IsList b ws.toArray)
    (h : Q (.ref s.heap.objs.size) { s with heap := s.heap.push { cls := .type "list", data := .seq (vs ++ ws).toArray } }) (hsz : vs.length + ws.length ≤ sizeLine) : wpAny (model prog w) A (binaryOp .Add (.ref l) (.ref b)) Q E s := by
  obtain ⟨⟨cls, dd, data, sl⟩, ho, hc, n, hd⟩ := id hl
  obtain ⟨⟨cls2, dd2, data2, sl2⟩, ho2, hc2, n2, hd2⟩ := id hb
  simp only at hc hd hc2 hd2
  subst hc hd hc2 hd2
  have e : vs.toArray ++ ws.toArray = (vs ++ ws).toArray := by simp
  refine concat_meets ⟨_, ho, rfl⟩ ⟨_, ho2, rfl⟩ noFill_list_add seq_list_add PySem.F.slot_list_add PySem.F.entry_list_add (PySem.F.args_list_add_2 _ _) (list_addW l b vs.toArray ws.toArray n n2 dd dd2 sl sl2 (by simpa using hsz)) ⟨ho, ho2, ?_⟩
  rw [e]
  exact h
theorem sum_loop_lists {a I S : Addr} {h₀ : Heap} {items : List Value} {ls : List (List Value)} (hh : A.handled = none) (hIS : I ≠ S) (hI : h₀.objs.size ≤ I) (hS : h₀.objs.size ≤ S)
    (ha : h₀.IsList a items.toArray) (hls : ∀ (i : Nat) (v : Value), items[i]? = some v → ∃ (b : Addr) (us : List Value), v = Value.ref b ∧ ls[i]? = some us ∧ h₀.IsList b us.toArray) (hlen : ls.length = items.length) :
    ∀ (k i : Nat) (s : Shared) (T : Addr) (acc : List Value) (c : Nat), items.length - i = k → i ≤ items.length → (∀ b o, h₀.get? b = some o → s.heap.get? b = some o) → s.heap.IsListIter I a i →
      s.heap.get? S = some { cls := .type "list", dict := none, data := .seq #[.ref T] c, slots := #[] } → s.heap.IsList T acc.toArray → T ≠ S → T ≠ I → acc.length + (ls.drop i).flatten.length ≤ sizeLine →
      (i = items.length → ∀ s', (∀ b o, b ≠ I → s.heap.get? b = some o → s'.heap.get? b = some o) → s'.os = s.os → s'.gens = s.gens → R (.ok (.ret (.ref T))) s') →
      (i < items.length → ∀ s' T', (∀ b o, h₀.get? b = some o → s'.heap.get? b = some o) → s'.os = s.os → s'.gens = s.gens → h₀.objs.size ≤ T' → (∃ n, s'.heap.get? T' = some { cls := .type "list", dict := none, data := .seq (acc ++ (ls.drop i).flatten).toArray n, slots := #[] }) → R (.ok (.ret (.ref T'))) s') →
      codeAny (model prog w) A (.builtin "sum.loop" ⟨[.ref I, .ref S, rawInt 2, rawInt 0], []⟩) R s := by
  intro k
  induction k with
  | zero =>
    intro i s T acc c hk hi hkp hit hSx hT hTS hTI hsz hR0 hR1
    have hin : i = items.length := by omega
    refine codeAny_builtin F.entry_sum_loop ?_
    rw [Around.under_plainId F.plain_sum_loop _]
    show wpAny _ A.in1 (seqItems? (.ref S) >>= _) _ _ s
    refine wpAny_bind (wpAny_seqItems hSx rfl ?_)
    show wpAny _ A.in1 (tryCatch (pyNext (.ref I)) _ >>= _) _ _ s
    have haS : s.heap.IsList a items.toArray := let ⟨o, e, r⟩ := ha; ⟨o, hkp _ _ e, r⟩
    refine wpAny_bind (wpAny_tryCatch (wpAny_pyNext_list_end hh hit haS (by rw [List.getElem?_toArray]; exact List.getElem?_eq_none (by omega)) fun h' eb => ?_))
    exact wpAny_pure (hR0 hin _ (fun b o hb e => eb b o hb e) rfl rfl)
  | succ k ih =>
    intro i s T acc c hk hi hkp hit hSx hT hTS hTI hsz hR0 hR1
    have hlt : i < items.length := by omega
    have hv : items[i]? = some items[i] := List.getElem?_eq_getElem hlt
    obtain ⟨b, us, ev, hu, hb⟩ := hls i _ hv
    refine codeAny_builtin F.entry_sum_loop ?_
    rw [Around.under_plainId F.plain_sum_loop _]
    show wpAny _ A.in1 (seqItems? (.ref S) >>= _) _ _ s
    refine wpAny_bind (wpAny_seqItems hSx rfl ?_)
    show wpAny _ A.in1 (tryCatch (pyNext (.ref I)) _ >>= _) _ _ s
    have haS : s.heap.IsList a items.toArray := let ⟨o, e, r⟩ := ha; ⟨o, hkp _ _ e, r⟩
    refine wpAny_bind (wpAny_tryCatch (wpAny_pyNext_list_item hit haS (x := .ref b) (by rw [List.getElem?_toArray, hv, ev]) fun h' hit' sb => ?_))
    have sb' : ∀ b o, b ≠ I → s.heap.get? b = some o → h'.get? b = some o := fun b o hb e => sb.extBut b o hb e
    have old' : ∀ b o, h₀.get? b = some o → h'.get? b = some o := fun b o e => sb' b o (Nat.ne_of_lt (Nat.lt_of_lt_of_le (Heap.lt_size e) hI)) (hkp b o e)
    have hS' := sb' S _ (Ne.symm hIS) hSx
    have hT' : h'.IsList T acc.toArray := let ⟨o, e, r⟩ := hT; ⟨o, sb' T o hTI e, r⟩
    have hb' : h'.IsList b us.toArray := let ⟨o, e, r⟩ := hb; ⟨o, old' _ _ e, r⟩
    have edrop : ls.drop i = us :: ls.drop (i + 1) := by
      rw [List.drop_eq_getElem_cons (by omega)]
      congr 1
      rw [List.getElem?_eq_getElem (by omega)] at hu
      exact Option.some.inj hu
    have eflat : (ls.drop i).flatten = us ++ (ls.drop (i + 1)).flatten := by rw [edrop, List.flatten_cons]
    rw [eflat, List.length_append] at hsz
    show wpAny _ A.in1 ((holding [Value.ref b] (binaryOp .Add (.ref T) (.ref b))).attempt >>= _) _ _ _
    refine wpAny_bind (wpAny_attempt (wpAny_holding (add_bare (s := { s with heap := h' }) hT' hb' ?_ (by omega))))
    have hS2 : (h'.push { cls := .type "list", data := .seq (acc ++ us).toArray }).get? S = _ := Heap.get?_push_of_some _ hS'
    show wpAny _ A.in1 (updateSeq S (fun _ => #[.ref h'.objs.size]) >>= _) _ _ _
    refine wpAny_bind (wpAny_updateSeq hS2 rfl ?_)
    have hS3 := Heap.get?_update_self (Obj.mapSeq fun _ => #[Value.ref h'.objs.size]) hS2 rfl
    refine wpAny_bind (wpAny_letGo ?_)
    refine wpAny_bind (wpAny_updateSeq hS3 rfl (wpAny_pure ⟨plainId_quiet F.plain_sum_loop _, ?_⟩))
    have hS4 := Heap.get?_update_self (Obj.mapSeq fun _ => #[Value.ref h'.objs.size]) hS3 rfl
    have keep : ∀ b o, b ≠ S → h'.get? b = some o → (((h'.push { cls := .type "list", data := .seq (acc ++ us).toArray }).update S (Obj.mapSeq fun _ => #[Value.ref h'.objs.size])).update S (Obj.mapSeq fun _ => #[Value.ref h'.objs.size])).get? b = some o := fun b o hb e =>
      (Heap.get?_update_other _ _ (Ne.symm hb)).trans ((Heap.get?_update_other _ _ (Ne.symm hb)).trans (Heap.get?_push_of_some _ e))
    have nS : h'.objs.size ≠ S := fun z => by
      have q := Heap.lt_size hS'
      rw [← z] at q
      exact Nat.lt_irrefl _ q
    have nI : h'.objs.size ≠ I := fun z => by
      obtain ⟨o, q, _⟩ := hit'
      have q := Heap.lt_size q
      rw [← z] at q
      exact Nat.lt_irrefl _ q
    have hTn : (((h'.push { cls := .type "list", data := .seq (acc ++ us).toArray }).update S (Obj.mapSeq fun _ => #[Value.ref h'.objs.size])).update S (Obj.mapSeq fun _ => #[Value.ref h'.objs.size])).get? h'.objs.size = some { cls := .type "list", data := .seq (acc ++ us).toArray } :=
      (Heap.get?_update_other _ _ (Ne.symm nS)).trans ((Heap.get?_update_other _ _ (Ne.symm nS)).trans (Heap.get?_push_size _ rfl))
    have hge : h₀.objs.size ≤ h'.objs.size := by
      obtain ⟨o, q, _⟩ := hit'
      exact Nat.le_of_lt (Nat.lt_of_le_of_lt hI (Heap.lt_size q))
    refine ih (i + 1) _ h'.objs.size (acc ++ us) _ (by omega) hlt (fun b o e => keep b o (Nat.ne_of_lt (Nat.lt_of_lt_of_le (Heap.lt_size e) hS)) (old' b o e)) ?_ hS4 ⟨_, hTn, rfl, _, rfl⟩ nS nI (by rw [List.length_append]; omega) (fun e s' k' os' gs' => ?_) fun e s' T2 k' os' gs' ge2 hT2 => ?_
    · exact hit'.at fun o e => keep I o hIS e
    · refine hR1 hlt s' h'.objs.size (fun b o e => ?_) os' gs' hge ⟨0, ?_⟩
      · exact k' b o (Nat.ne_of_lt (Nat.lt_of_lt_of_le (Heap.lt_size e) hI)) (keep b o (Nat.ne_of_lt (Nat.lt_of_lt_of_le (Heap.lt_size e) hS)) (old' b o e))
      · have e2 : ls.drop (i + 1) = [] := List.drop_eq_nil_of_le (by omega)
        rw [eflat, e2, List.flatten_nil, List.append_nil]
        exact k' _ _ nI hTn
    · refine hR1 hlt s' T2 k' os' gs' ge2 ?_
      rw [eflat, ← List.append_assoc]
      exact hT2
end
section
variable {X : Cx}
/-- each of xs is a list that is read, as in yss -/
def Lists (K : PySem.W.Frag) (H : Hp) : List V → List (List V) → Prop := Paired fun x ys => ∃ b, x = .ref b ∧ SqL K H b ys
def rSumL (K : PySem.W.Frag) : List V → Hp → VK → Prop := fun vs H Q => ∃ (a b : Addr) (xs : List V) (yss : List (List V)) (zs : List V), vs = [.ref a, .ref b] ∧ SqL K H a xs ∧ Lists K H xs yss ∧ SqL K H b zs ∧ zs.length + yss.flatten.length ≤ sizeLine ∧
  (xs = [] → Q (.ref b) H) ∧ (xs ≠ [] → ∀ p, H p = none → Q (.ref p) (upd H p (.lst (zs ++ yss.flatten))))
theorem lists_its {pins : List (Addr × Obj)} {σ : L2.St} {H : Hp} {s : Shared} (I : L2.Inv X pins σ H s) : ∀ {xs : List V} {yss : List (List V)} {its : List Value}, Lists X.K H xs yss → Vals xs its →
    ∃ ls : List (List Value), ls.length = its.length ∧ Vals yss.flatten ls.flatten ∧ ∀ (i : Nat) (v : Value), its[i]? = some v → ∃ (b : Addr) (us : List Value), v = Value.ref b ∧ ls[i]? = some us ∧ s.heap.IsList b us.toArray
  | _, _, _, .nil, .nil => ⟨[], rfl, .nil, fun i v e => by simp at e⟩
  | _, _, _, .cons ⟨b, e, hq⟩ t, .cons r rt => by
    obtain ⟨ls, h1, h2, h3⟩ := lists_its I t rt
    subst e
    obtain ⟨us, ru, hl, _⟩ := I.list hq
    refine ⟨us :: ls, by rw [List.length_cons, List.length_cons, h1], ?_, fun i v ev => ?_⟩
    · rw [List.flatten_cons, List.flatten_cons]
      exact ru.append h2
    · cases i with
      | zero =>
        have ev := Option.some.inj ev
        exact ⟨b, us, ev.symm.trans r, rfl, hl.isList⟩
      | succ i => exact h3 i v ev
theorem call_sumL (hc : X.calm = true) : CallR X (.builtin "sum") (rSumL X.K) := by
  intro pins s σ H xs us Q I r h
  obtain ⟨a, b, xs, yss, zs, rfl, ha, hls, hb, hz, q0, q1⟩ := h
  obtain ⟨u1, u2, rfl, r1, r2⟩ := vals2 r
  cases (show u1 = Value.ref a from r1)
  cases (show u2 = Value.ref b from r2)
  obtain ⟨its, rv, hal, _⟩ := I.list ha
  obtain ⟨zts, rz, hbl, _⟩ := I.list hb
  obtain ⟨ls, hl1, hl2, hl3⟩ := lists_its I hls rv
  have elz := rz.length
  have elf := hl2.length
  refine call_function_tree F.kind_sum F.plain_sum F.entry_sum (args_sum2 _ _) ?_
  unfold Builtin.«sum»
  simp only [List.length_cons, List.length_nil]
  rw [if_neg (by decide)]
  refine wpAny_bind (wpAny_of_eq (show Builtin.Builtins.bindParams "sum" ["start"] 0 { pos := [Value.ref b] } = pure [some (Value.ref b)] from rfl) ?_)
  refine wpAny_bind (wpAny_pyIter_list hal.isList ?_)
  have k1 : ∀ c o, s.heap.get? c = some o → (s.heap.push { cls := .type "list_iterator", data := .fields #[.ref a, .int 0 0] }).get? c = some o := fun c o e => Heap.get?_push_of_some _ e
  refine wpAny_bind (wpAny_pure ?_)
  have hbt : ({ s with heap := s.heap.push { cls := .type "list_iterator", data := .fields #[.ref a, .int 0 0] } } : Shared).TypeIs (.ref b) "list" := by
    obtain ⟨o, e, hcl, _⟩ := hbl.isList
    exact ⟨o, k1 _ _ e, hcl⟩
  simp only [List.forIn_cons, List.forIn_nil]
  refine wpAny_bind (wpAny_bind (wpAny_bind (wpAny_isInstance (T := "list") (b := false) hbt sub_list_str ?_)))
  simp only [Bool.false_eq_true, if_false]
  refine wpAny_pure (wpAny_bind (wpAny_bind (wpAny_isInstance (T := "list") (b := false) hbt sub_list_bytes ?_)))
  simp only [Bool.false_eq_true, if_false]
  refine wpAny_pure (wpAny_bind (wpAny_bind (wpAny_isInstance (T := "list") (b := false) hbt sub_list_bytearray ?_)))
  simp only [Bool.false_eq_true, if_false]
  refine wpAny_pure (wpAny_pure ?_)
  refine wpAny_bind (wpAny_newObj_type ?_)
  have sz1 : (s.heap.push { cls := .type "list_iterator", data := .fields #[.ref a, .int 0 0] }).objs.size = s.heap.objs.size + 1 := Heap.size_push ..
  have bl : b < s.heap.objs.size := by obtain ⟨o, e, _⟩ := hbl.isList; exact Heap.lt_size e
  refine wpAny_pure ⟨plainId_quiet F.plain_sum_loop _, sum_loop_lists (a := a) (I := s.heap.objs.size) (S := (s.heap.push { cls := .type "list_iterator", data := .fields #[.ref a, .int 0 0] }).objs.size) (h₀ := s.heap) (items := its) (ls := ls) (I.ok.hd hc) (by rw [sz1]; exact Ne.symm (Nat.succ_ne_self _)) (Nat.le_refl _) (by rw [sz1]; exact Nat.le_succ _) hal.isList hl3 hl1 its.length 0 _ b zts 0 rfl (Nat.zero_le _) (fun c o e => Heap.get?_push_of_some _ (k1 c o e)) ?_ (Heap.get?_push_size _ rfl) ?_ (by rw [sz1]; exact Nat.ne_of_lt (Nat.lt_succ_of_lt bl)) (Nat.ne_of_lt bl) (by rw [List.drop_zero]; omega) (fun e0 s' k' os' gs' => ?_) fun e0 s' T' k' os' gs' ge' hT' => ?_⟩
  · exact ⟨_, Heap.get?_push_of_some _ (Heap.get?_push_size _ rfl), rfl, rfl⟩
  · obtain ⟨o, e, rr⟩ := hbl.isList
    exact ⟨o, Heap.get?_push_of_some _ (k1 _ _ e), rr⟩
  · have kk : ∀ c o, s.heap.get? c = some o → s'.heap.get? c = some o := fun c o e => k' c o (Nat.ne_of_lt (Heap.lt_size e)) (Heap.get?_push_of_some _ (k1 c o e))
    have ex : xs = [] := by
      have l := rv.length
      rw [← e0] at l
      exact List.length_eq_zero_iff.mp l
    exact ⟨.ref b, H, I.call' (ch := []) os' (Un.kept kk) (I.hok.kept kk) (by rw [gs']; exact I.bare) (fun c z => by simp at z), rfl, q0 ex⟩
  · have hn : H T' = none := I.hok.fresh ge'
    obtain ⟨n, hT'⟩ := hT'
    rw [List.drop_zero] at hT'
    have ex : xs ≠ [] := fun z => by
      have l := rv.length
      rw [z] at l
      have l : 0 = its.length := l
      omega
    refine ⟨.ref T', upd H T' (.lst (zs ++ yss.flatten)), I.call' (ch := []) os' (Un.laid k' ge' hn) (I.hok.laid k' ge' ?_) (by rw [gs']; exact I.bare) (fun c z => by simp at z), rfl, q1 ex T' hn⟩
    exact ⟨by rw [List.length_append]; omega, zts ++ ls.flatten, n, rz.append hl2, hT'⟩
end
end PL

set_option maxHeartbeats 1000000
namespace PL
open PySem L2 PyProof.Rows
open GxR (TabG Tabbed)

section
variable {K : PySem.W.Frag} {TL : List Addr} {F : Fm} {S S' S1 : Sto} {E : List Sl} {Kn : List PyData → Sto → Prop} {Kp : Sl → Sto → Prop} {N B C : Sto → List Sl → Prop} {R : Sl → Sto → Prop} {te tb tl th : TE} {ta : TA} {H H' : Hp}
/-! ### x[i] -/
theorem atI_dpa {G : Hp} {xs : List V} {ds : List PyData} {i : Int} {d : PyData} (a : DpAll K G xs ds) (h : atI ds i = some d) : ∃ v, atI xs i = some v ∧ Dp K G v d := by
  unfold atI at h ⊢
  rw [dpa_len a]
  cases q : ixN ds.length i with
  | none => rw [q] at h; cases h
  | some j =>
    rw [q] at h
    exact dpa_get a h
def pIx : PyData → PyData → PyData → Prop
  | .list ds, .int i, d => atI ds i = some d
  | .tuple ds, .int i, d => atI ds i = some d
  | .str z, .int i, d => z.length ≤ 1000000 ∧ ∃ c, atI z.cps.toList i = some c ∧ d = .str ⟨#[c]⟩
  | _, _, _ => False
instance opp_Ix : OpP K (rIx K) pIx := ⟨fun {G H v w a b d Q} le h1 h2 hp q => by
  cases a with
  | list ds =>
    cases b with
    | int i =>
      obtain ⟨p, us, ev, hq, ha⟩ := h1
      obtain ⟨z, hz, hd⟩ := atI_dpa ha hp
      exact .inl ⟨p, us, i, z, ev, sh_int h2, hq, hz, q _ _ (.same hd)⟩
    | _ => cases hp
  | tuple ds =>
    cases b with
    | int i =>
      obtain ⟨p, us, ev, hq, ha, _⟩ := h1.tup le
      obtain ⟨z, hz, hd⟩ := atI_dpa ha hp
      exact .inr (.inl ⟨p, us, i, z, ev, sh_int h2, hq, hz, q _ _ (.same hd)⟩)
    | _ => cases hp
  | str z =>
    cases b with
    | int i =>
      obtain ⟨hl, c, hc, e⟩ := hp
      subst e
      exact .inr (.inr ⟨z, i, c, sh_str h1, sh_int h2, le_size hl, hc, q _ _ (.same (.str _))⟩)
    | _ => cases hp
  | none => cases b <;> cases hp
  | bool _ => cases b <;> cases hp
  | int _ => cases b <;> cases hp
  | dict _ => cases b <;> cases hp⟩
/-! ### x in t, ints -/
def pIn (a b d : PyData) : Prop := ∃ (i : Int) (ns : List Int), a = .int i ∧ b = .tuple (ns.map .int) ∧ d = .bool (decide (i ∈ ns))
theorem inV_ints (i : Int) : ∀ ns : List Int, inV (.int i) (ns.map V.int) = decide (i ∈ ns)
  | [] => rfl
  | n :: ns => by
    have ih := inV_ints i ns
    unfold inV at ih ⊢
    rw [List.map_cons, List.any_cons, ih]
    have e : eqV (.int n) (.int i) = decide (i = n) := by
      show (n == i) = decide (i = n)
      by_cases h : n = i
      · rw [h]
        simp
      · have h2 : ¬ i = n := fun z => h z.symm
        rw [decide_eq_false h2]
        exact beq_eq_false_iff_ne.mpr h
    rw [e, ← Bool.decide_or]
    congr 1
    exact propext List.mem_cons.symm
instance opp_In : OpP K (rIn K false) pIn := ⟨fun {G H v w a b d Q} le h1 h2 ⟨i, ns, ea, eb, e⟩ q => by
  subst ea eb e
  obtain ⟨p, us, ev, hq, ha, _⟩ := h2.tup le
  have eu := dpa_ints ha
  subst eu
  refine ⟨p, ns.map V.int, ev, .inr hq, by rw [sh_int h1]; rfl, flat_ints ns, ?_⟩
  rw [sh_int h1]
  show Q (.bl (inV (.int i) (ns.map V.int))) H
  rw [inV_ints]
  exact q _ _ (.same (.bl _))⟩

/-! ### slices -/
def OX (K : PySem.W.Frag) (TL : List Addr) (F : Fm) (to : TO) (S : Sto) (E : List Sl) (Ko : Option Int → Sto → Prop) : Prop := ∀ σ H, Ok K TL F S E σ H → ∀ Q : Option Int → Hp → Prop,
  (∀ o S' H', Ok K TL F S' E σ H' → dom S' = dom S → Step (Own S) H H' → Ko o S' → Q o H') → to σ H Q
theorem ox_none {Ko : Option Int → Sto → Prop} (k : Ko none S) : OX K TL F tNoPart S E Ko := fun σ H o Q q => q none S H o rfl (Step.refl _ _) k
theorem ox_some {Ko : Option Int → Sto → Prop} (h : EX K TL F te S E fun r S1 => ∃ i, r = .dat (.int i) ∧ Ko (some i) S1) : OX K TL F (tPart te) S E Ko := fun σ H o Q q =>
  h σ H o _ fun v r S1 H1 o1 e1 s1 v1 ⟨i, er, k⟩ => by
    subst er
    cases v1
    exact ⟨i, rfl, q (some i) S1 H1 o1 e1 s1 k⟩
def rSlU (K : PySem.W.Frag) : V → Option Int → Option Int → Hp → VK → Prop := fun x lo hi H Q => rSlL K x lo hi H Q ∨ rSlF K x lo hi H Q ∨ rSlS x lo hi H Q
theorem sl_U {X : Cx} : SlR X (rSlU X.K) := SlR.or sl_list (SlR.or sl_tupF sl_str)
def cutD (ds : List PyData) (lo hi : Option Int) : List PyData := (ds.drop (HT.sIx ds.length 0 lo)).take (HT.sIx ds.length ds.length hi - HT.sIx ds.length 0 lo)
theorem dpa_cut {G : Hp} {xs : List V} {ds : List PyData} (lo hi : Option Int) (a : DpAll K G xs ds) : DpAll K G (cutV xs lo hi) (cutD ds lo hi) := by
  unfold cutV cutD
  rw [dpa_len a]
  exact dpa_take _ (dpa_drop _ a)
def pSl : PyData → Option Int → Option Int → PyData → Prop
  | .list ds, lo, hi, d => d = .list (cutD ds lo hi)
  | .tuple ds, lo, hi, d => d = .tuple (cutD ds lo hi)
  | .str z, lo, hi, d => z.length ≤ 1000000 ∧ d = .str (cutS z lo hi)
  | _, _, _, _ => False
theorem cut_whole {ds : List PyData} {lo hi : Option Int} (h1 : HT.sIx ds.length 0 lo = 0) (h2 : HT.sIx ds.length ds.length hi = ds.length) : cutD ds lo hi = ds := by
  unfold cutD
  rw [h1, h2, List.drop_zero, Nat.sub_zero]
  exact List.take_length
theorem ex_sl {tlo thi : TO} (h : EX K TL F te S E fun a S1 => OX K TL F tlo S1 E fun lo S2 => OX K TL F thi S2 E fun hi S3 => ∃ d1 d, view S3 a = some d1 ∧ pSl d1 lo hi d ∧ Kp (.dat d) S3) :
    EX K TL F (tSl (rSlU K) te tlo thi) S E Kp := fun σ H o Q q =>
  h σ H o _ fun v a S1 H1 o1 e1 s1 v1 k1 => k1 σ H1 o1 _ fun lo S2 H2 o2 e2 s2 k2 => k2 σ H2 o2 _ fun hi S3 H3 o3 e3 s3 ⟨d1, d, hv, hp, k⟩ => by
    have s12 : Step (Own S) H H2 := s1.trans (by rw [← own_eq e1]; exact s2)
    have s13 : Step (Own S) H H3 := s12.trans (by rw [← own_eq (e2.trans e1)]; exact s3)
    have e13 : dom S3 = dom S := e3.trans (e2.trans e1)
    have sh := o3.sh ((v1.le (step_le s2 e2)).le (step_le s3 e3)) hv
    have dn : ∀ z H4, Res K (hide (F.OS S3) H3) H3 z d H4 → Q z H4 := fun z H4 r => Res.done (Kp := Kp) o3 r (fun v r S' H' q1 q2 q3 q4 q5 => q v r S' H' q1 (q2.trans e13) (s13.trans (by rw [← own_eq e13]; exact q3)) q4 q5) k
    cases d1 with
    | list ds =>
      have e : d = .list (cutD ds lo hi) := hp
      subst e
      obtain ⟨p, us, ev, hq, ha⟩ := sh
      exact .inl ⟨p, us, ev, hq, fun pp hpp => dn _ _ (.lst hpp (dpa_cut lo hi ha))⟩
    | tuple ds =>
      have e : d = .tuple (cutD ds lo hi) := hp
      subst e
      obtain ⟨p, us, ev, hq, ha, hd⟩ := sh.tup hide_le
      refine .inr (.inl ⟨p, us, ev, hq, fun hw => ?_, fun _ pp ob hpp hob => dn _ _ (.tup hpp hob (dpa_cut lo hi ha))⟩)
      rw [dpa_len ha] at hw
      rw [cut_whole hw.1 hw.2] at dn
      rw [ev] at hd
      exact dn _ _ (.same hd)
    | str z =>
      obtain ⟨hl, e⟩ := hp
      subst e
      exact .inr (.inr ⟨z, sh_str sh, le_size hl, dn _ _ (.same (.str _))⟩)
    | none => cases hp
    | bool _ => cases hp
    | int _ => cases hp
    | dict _ => cases hp
theorem ex_revT (h : EX K TL F te S E fun a S1 => ∃ ds, view S1 a = some (.tuple ds) ∧ Kp (.dat (.tuple ds.reverse)) S1) : EX K TL F (tRevT K te) S E Kp := fun σ H o Q q =>
  h σ H o _ fun v a S1 H1 o1 e1 s1 v1 ⟨ds, hv, k⟩ => by
    obtain ⟨p, us, ev, hq, ha, _⟩ := (o1.sh v1 hv).tup hide_le
    refine ⟨p, us, ev, hq, fun pp ob hpp hob => ?_⟩
    exact Res.done (Kp := Kp) o1 (.tup hpp hob (dpa_rev ha)) (fun v r S' H' q1 q2 q3 q4 q5 => q v r S' H' q1 (q2.trans e1) (s1.trans (by rw [← own_eq e1]; exact q3)) q4 q5) k
/-- a new list of ours, when data told it -/
theorem laid_own {σ : St} {Q : VK} {p : Addr} {xs : List V} {ds : List PyData} (o1 : Ok K TL F S1 E σ H') (e1 : dom S1 = dom S) (s1 : Step (Own S) H H') (hp : H' p = none) (a : DpAll K (hide (F.OS S1) H') xs ds)
    (q : ∀ p ds S' H', F.H p = none → Ok K TL F ((p, ds) :: S') E σ H' → dom S' = dom S → Step (Own S) H H' → Kn ds S' → Q (.ref p) H') (k : Kn ds S1) : Q (.ref p) (upd H' p (.lst xs)) := by
  obtain ⟨o2, hp2⟩ := o1.laidOwn hp a
  exact q p ds S1 _ hp2 o2 e1 (s1.trans (Step.new hp)) k
theorem en_revL (h : EX K TL F te S E fun a S1 => ∃ ds, view S1 a = some (.list ds) ∧ Kn ds.reverse S1) : EN K TL F (tRevL K te) S E Kn := fun σ H o Q q =>
  h σ H o _ fun v a S1 H1 o1 e1 s1 v1 ⟨ds, hv, k⟩ => by
    obtain ⟨p, us, ev, hq, ha⟩ := o1.sh v1 hv
    exact ⟨p, us, ev, hq, fun pp hpp => laid_own o1 e1 s1 hpp (dpa_rev ha) q k⟩

/-! ### calls of built-ins -/
def rLen (K : PySem.W.Frag) : List V → Hp → VK → Prop := fun xs H Q => ∃ x n, xs = [x] ∧ LenV K x H n ∧ Q (.int n) H
theorem call_lenU {X : Cx} : CallR X (.builtin "len") (rLen X.K) := call_len
def lenD : PyData → Option Nat
  | .list ds => some ds.length
  | .tuple ds => some ds.length
  | .str z => if z.length ≤ 1000000 then some z.length else none
  | _ => none
theorem ex_len (h : EX K TL F te S E fun r S1 => ∃ d n, view S1 r = some d ∧ lenD d = some n ∧ Kp (.dat (.int (n : Nat))) S1) : EX K TL F (tCB (rLen K) (tCons te tNil)) S E Kp := fun σ H o Q q =>
  h σ H o _ fun v r S1 H1 o1 e1 s1 v1 ⟨d, n, hv, hn, k⟩ => by
    have sh := o1.sh v1 hv
    refine ⟨v, n, rfl, ?_, q (.int n) (.dat (.int n)) S1 H1 o1 e1 s1 (Dp.int _) k⟩
    cases d with
    | list ds =>
      cases hn
      obtain ⟨p, us, ev, hq, ha⟩ := sh
      subst ev
      exact .inl ⟨us, hq, (dpa_len ha).symm⟩
    | tuple ds =>
      cases hn
      obtain ⟨p, us, ev, hq, ha, _⟩ := sh.tup hide_le
      subst ev
      exact .inr ⟨us, hq, (dpa_len ha).symm⟩
    | str z =>
      have ev := sh_str sh
      subst ev
      have hn : (if z.length ≤ 1000000 then some z.length else none) = some n := hn
      by_cases hl : z.length ≤ 1000000
      · rw [if_pos hl] at hn
        cases hn
        exact ⟨le_size hl, rfl⟩
      · rw [if_neg hl] at hn
        cases hn
    | none => cases hn
    | bool _ => cases hn
    | int _ => cases hn
    | dict _ => cases hn
def rListOf (K : PySem.W.Frag) : List V → Hp → VK → Prop := fun xs H Q => ∃ p ys, xs = [.ref p] ∧ (SqL K H p ys ∨ SqT K H p ys) ∧ ∀ l, H l = none → Q (.ref l) (upd H l (.lst ys))
theorem call_listU {X : Cx} : CallR X (.type "list") (rListOf X.K) := call_list_of
theorem en_list (h : EX K TL F te S E fun r S1 => ∃ ds, (view S1 r = some (.list ds) ∨ view S1 r = some (.tuple ds)) ∧ Kn ds S1) : EN K TL F (tCB (rListOf K) (tCons te tNil)) S E Kn := fun σ H o Q q =>
  h σ H o _ fun v r S1 H1 o1 e1 s1 v1 ⟨ds, hv, k⟩ => by
    rcases hv with hv | hv
    · obtain ⟨p, us, ev, hq, ha⟩ := o1.sh v1 hv
      subst ev
      exact ⟨p, us, rfl, .inl hq, fun pp hpp => laid_own o1 e1 s1 hpp ha q k⟩
    · obtain ⟨p, us, ev, hq, ha, _⟩ := (o1.sh v1 hv).tup hide_le
      subst ev
      exact ⟨p, us, rfl, .inr hq, fun pp hpp => laid_own o1 e1 s1 hpp ha q k⟩
theorem ex_tuple (h : EX K TL F te S E fun r S1 => ∃ ds, (view S1 r = some (.list ds) ∨ view S1 r = some (.tuple ds)) ∧ Kp (.dat (.tuple ds)) S1) : EX K TL F (tCB (rTupleF K) (tCons te tNil)) S E Kp := fun σ H o Q q =>
  h σ H o _ fun v r S1 H1 o1 e1 s1 v1 ⟨ds, hv, k⟩ => by
    have dn : ∀ z H4, Res K (hide (F.OS S1) H1) H1 z (.tuple ds) H4 → Q z H4 := fun z H4 r => Res.done (Kp := Kp) o1 r (fun v r S' H' q1 q2 q3 q4 q5 => q v r S' H' q1 (q2.trans e1) (s1.trans (by rw [← own_eq e1]; exact q3)) q4 q5) k
    rcases hv with hv | hv
    · obtain ⟨p, us, ev, hq, ha⟩ := o1.sh v1 hv
      subst ev
      exact ⟨p, us, rfl, .inl ⟨hq, fun pp ob hpp hob => dn _ _ (.tup hpp hob ha)⟩⟩
    · obtain ⟨p, us, ev, hq, ha, hd⟩ := (o1.sh v1 hv).tup hide_le
      subst ev
      exact ⟨p, us, rfl, .inr ⟨hq, dn _ _ (.same hd)⟩⟩
def rMax2 : List V → Hp → VK → Prop := fun xs H Q => ∃ i j, xs = [.int i, .int j] ∧ Q (.int (if j > i then j else i)) H
theorem call_maxU {X : Cx} (hc : X.calm = true) : CallR X (.builtin "max") rMax2 := call_max2 hc
theorem ex_max2 (h : AX K TL F ta S E fun rs S1 => ∃ i j : Int, rs = [.dat (.int i), .dat (.int j)] ∧ Kp (.dat (.int (if j > i then j else i))) S1) : EX K TL F (tCB rMax2 ta) S E Kp := fun σ H o Q q =>
  h σ H o _ fun vs rs S1 H1 o1 e1 s1 v1 ⟨i, j, er, k⟩ => by
    subst er
    cases v1 with
    | cons h1 v1 =>
      cases v1 with
      | cons h2 v1 =>
        cases v1
        cases h1
        cases h2
        exact ⟨i, j, rfl, q (.int _) (.dat (.int _)) S1 H1 o1 e1 s1 (Dp.int _) k⟩
theorem en_sorted (h : EX K TL F te S E fun r S1 => ∃ ds, view S1 r = some (.list ds) ∧ PySem.W.AllAlike ds ∧ PySem.W.Sortable ds ∧ (∀ d ∈ ds, d.depth ≤ 60) ∧ Kn (sortD ds) S1) : EN K TL F (tCB (rSortedD K) (tCons te tNil)) S E Kn := fun σ H o Q q =>
  h σ H o _ fun v r S1 H1 o1 e1 s1 v1 ⟨ds, hv, al, so, dp, k⟩ => by
    obtain ⟨p, us, ev, hq, ha⟩ := o1.sh v1 hv
    subst ev
    exact ⟨p, us, ds, rfl, hq, dpa_l2 (dpa_le hide_le ha), al, so, dp, fun pp hpp => laid_own o1 e1 s1 hpp (sort_dpa ha) q k⟩
theorem dpa_lists {G : Hp} (le : Le G H) : ∀ {xs : List V} {dss : List (List PyData)}, DpAll K G xs (dss.map PyData.list) → ∃ yss : List (List V), Lists K H xs yss ∧ DpAll K G yss.flatten dss.flatten ∧ xs.length = yss.length
  | _, [], .nil => ⟨[], .nil, .nil, rfl⟩
  | _, ds :: dss, .cons h a => by
    obtain ⟨yss, h1, h2, h3⟩ := dpa_lists le a
    cases h with
    | @lst b us _ hq ha => exact ⟨us :: yss, .cons ⟨b, rfl, sql_le le hq⟩ h1, by rw [List.flatten_cons, List.flatten_cons]; exact dpa_append ha h2, by rw [List.length_cons, List.length_cons, h3]⟩
/-- sum(lists, []) -/
theorem ex_sumL (h : AX K TL F ta S E fun rs S1 => ∃ (dss : List (List PyData)) (ds : List PyData), rs = [.dat (.list (dss.map PyData.list)), .dat (.list ds)] ∧ ds.length + dss.flatten.length ≤ 1000000 ∧ Kp (.dat (.list (ds ++ dss.flatten))) S1) : EX K TL F (tCB (rSumL K) ta) S E Kp := fun σ H o Q q =>
  h σ H o _ fun vs rs S1 H1 o1 e1 s1 v1 ⟨dss, ds, er, hl, k⟩ => by
    subst er
    cases v1 with
    | cons h1 v1 =>
      cases v1 with
      | cons h2 v1 =>
        cases v1
        cases h1 with
        | @lst a xs _ hq ha =>
          have h2' := h2
          cases h2 with
          | @lst b zs _ hq2 ha2 =>
            obtain ⟨yss, g1, g2, g3⟩ := dpa_lists hide_le ha
            have dn : ∀ z H4, Res K (hide (F.OS S1) H1) H1 z (.list (ds ++ dss.flatten)) H4 → Q z H4 := fun z H4 r => Res.done (Kp := Kp) o1 r (fun v r S' H' q1 q2 q3 q4 q5 => q v r S' H' q1 (q2.trans e1) (s1.trans (by rw [← own_eq e1]; exact q3)) q4 q5) k
            refine ⟨a, b, xs, yss, zs, rfl, sql_le hide_le hq, g1, sql_le hide_le hq2, by rw [dpa_len ha2, dpa_len g2]; exact le_size hl, fun e => ?_, fun _ p hp => dn _ _ (.lst hp (dpa_append ha2 g2))⟩
            have ey : yss = [] := List.length_eq_zero_iff.mp (by rw [← g3, e]; rfl)
            rw [ey] at g2
            have ed : dss.flatten = [] := by
              generalize dss.flatten = q at g2
              cases g2
              rfl
            rw [ed, List.append_nil] at dn
            exact dn _ _ (.same h2')
/-- list(range(a, b)) -/
theorem rgV_dpa {G : Hp} (a b : Int) : DpAll K G (rgV a b) (rgD a b) := by
  unfold rgV rgD
  generalize (b - a).toNat = n
  induction n with
  | zero => exact .nil
  | succ n ih =>
    rw [List.range_succ, List.map_append, List.map_append]
    exact dpa_append ih (.cons (.int _) .nil)
theorem en_listRg2 (h : EX K TL F te S E fun r S1 => EX K TL F tb S1 E fun r2 S2 => ∃ i j : Int, r = .dat (.int i) ∧ r2 = .dat (.int j) ∧ (-1000000 ≤ i ∧ i ≤ 1000000 ∧ -1000000 ≤ j ∧ j ≤ 1000000) ∧ Kn (rgD i j) S2) : EN K TL F (tLstRg (tRg2 te tb)) S E Kn := fun σ H o Q q =>
  h σ H o _ fun v r S1 H1 o1 e1 s1 v1 k1 => k1 σ H1 o1 _ fun w r2 S2 H2 o2 e2 s2 v2 ⟨i, j, er, er2, hb, k⟩ => by
    subst er er2
    cases v1
    cases v2
    refine ⟨i, j, rfl, rfl, ⟨by omega, by omega, by omega, by omega, by omega⟩, fun pp hpp => ?_⟩
    exact laid_own o2 (e2.trans e1) (s1.trans (by rw [← own_eq e1]; exact s2)) hpp (rgV_dpa i j) q k

/-! ### isinstance -/
def tyN : PyData → String
  | .none => "NoneType"
  | .bool _ => "bool"
  | .int _ => "int"
  | .str _ => "str"
  | .list _ => "list"
  | .tuple _ => "tuple"
  | .dict _ => "dict"
theorem sh_ty {G : Hp} {v : V} {d : PyData} (le : Le G H) (h : Sh K G H v d) : TyX K H v (.type (tyN d)) := by
  cases d with
  | none =>
    have h : Dp K G v .none := h
    cases h
    exact .base .non
  | bool b =>
    rw [sh_bool h]
    exact .base (.bl b)
  | int i =>
    rw [sh_int h]
    exact .base (.int i)
  | str x =>
    rw [sh_str h]
    exact .base (.str x)
  | list ds =>
    obtain ⟨a, xs, rfl, hq, _⟩ := h
    rcases hq with (e | ⟨o, e⟩) | ⟨o, its, n, hk, hc, _⟩
    · exact .base (.lst e)
    · exact .base (.frz e)
    · exact .kList hk hc
  | tuple ds =>
    obtain ⟨a, xs, rfl, hq, _⟩ := h.tup le
    rcases hq with (e | ⟨o, e⟩) | ⟨o, its, n, hk, hc, _⟩
    · exact .base (.tup e)
    · exact .fTuple e
    · exact .kTuple hk hc
  | dict kvs =>
    have h : Dp K G v (.dict kvs) := h
    cases h
def isTy : String → PyData → Bool
  | "int", .int _ => true
  | "int", .bool _ => true
  | "bool", .bool _ => true
  | "str", .str _ => true
  | "list", .list _ => true
  | "tuple", .tuple _ => true
  | _, _ => false
def TyOk (T : String) : Prop := ∀ d, (∀ kvs, d ≠ PyData.dict kvs) → kitB (tyN d) T = some (isTy T d)
theorem ok_int : TyOk "int" := fun d h => by
  cases d with
  | dict kvs => exact absurd rfl (h kvs)
  | none => exact (by decide +kernel : kitB "NoneType" "int" = some false)
  | bool _ => exact (by decide +kernel : kitB "bool" "int" = some true)
  | int _ => exact (by decide +kernel : kitB "int" "int" = some true)
  | str _ => exact (by decide +kernel : kitB "str" "int" = some false)
  | list _ => exact (by decide +kernel : kitB "list" "int" = some false)
  | tuple _ => exact (by decide +kernel : kitB "tuple" "int" = some false)
theorem ok_bool : TyOk "bool" := fun d h => by
  cases d with
  | dict kvs => exact absurd rfl (h kvs)
  | none => exact (by decide +kernel : kitB "NoneType" "bool" = some false)
  | bool _ => exact (by decide +kernel : kitB "bool" "bool" = some true)
  | int _ => exact (by decide +kernel : kitB "int" "bool" = some false)
  | str _ => exact (by decide +kernel : kitB "str" "bool" = some false)
  | list _ => exact (by decide +kernel : kitB "list" "bool" = some false)
  | tuple _ => exact (by decide +kernel : kitB "tuple" "bool" = some false)
theorem ok_str : TyOk "str" := fun d h => by
  cases d with
  | dict kvs => exact absurd rfl (h kvs)
  | none => exact (by decide +kernel : kitB "NoneType" "str" = some false)
  | bool _ => exact (by decide +kernel : kitB "bool" "str" = some false)
  | int _ => exact (by decide +kernel : kitB "int" "str" = some false)
  | str _ => exact (by decide +kernel : kitB "str" "str" = some true)
  | list _ => exact (by decide +kernel : kitB "list" "str" = some false)
  | tuple _ => exact (by decide +kernel : kitB "tuple" "str" = some false)
theorem ok_list : TyOk "list" := fun d h => by
  cases d with
  | dict kvs => exact absurd rfl (h kvs)
  | none => exact (by decide +kernel : kitB "NoneType" "list" = some false)
  | bool _ => exact (by decide +kernel : kitB "bool" "list" = some false)
  | int _ => exact (by decide +kernel : kitB "int" "list" = some false)
  | str _ => exact (by decide +kernel : kitB "str" "list" = some false)
  | list _ => exact (by decide +kernel : kitB "list" "list" = some true)
  | tuple _ => exact (by decide +kernel : kitB "tuple" "list" = some false)
theorem ok_tuple : TyOk "tuple" := fun d h => by
  cases d with
  | dict kvs => exact absurd rfl (h kvs)
  | none => exact (by decide +kernel : kitB "NoneType" "tuple" = some false)
  | bool _ => exact (by decide +kernel : kitB "bool" "tuple" = some false)
  | int _ => exact (by decide +kernel : kitB "int" "tuple" = some false)
  | str _ => exact (by decide +kernel : kitB "str" "tuple" = some false)
  | list _ => exact (by decide +kernel : kitB "list" "tuple" = some false)
  | tuple _ => exact (by decide +kernel : kitB "tuple" "tuple" = some true)
theorem sh_nodict {G : Hp} {v : V} {d : PyData} (h : Sh K G H v d) : ∀ kvs, d ≠ .dict kvs := fun kvs e => by
  subst e
  have h : Dp K G v (.dict kvs) := h
  cases h
theorem ex_isi {T : String} (hT : TyOk T) (h : EX K TL F te S E fun r S1 => ∃ d, view S1 r = some d ∧ Kp (.dat (.bool (isTy T d))) S1) : EX K TL F (tCB (rIsi K) (tCons te (tCons (tC (.ty T)) tNil))) S E Kp := fun σ H o Q q =>
  h σ H o _ fun v r S1 H1 o1 e1 s1 v1 ⟨d, hv, k⟩ => by
    have sh := o1.sh v1 hv
    exact ⟨v, .ty T, .type (tyN d), .type T, isTy T d, rfl, .ty T, sh_ty hide_le sh, kit_ty (hT d (sh_nodict sh)), q (.bl _) (.dat (.bool _)) S1 H1 o1 e1 s1 (Dp.bl _) k⟩
theorem ex_isi2 {T1 T2 : String} (h1 : TyOk T1) (h2 : TyOk T2) (h : EX K TL F te S E fun r S1 => ∃ d, view S1 r = some d ∧ Kp (.dat (.bool (isTy T1 d || isTy T2 d))) S1) : EX K TL F (tCB (rIsiT K) (tCons te (tCons (tTup (tCons (tC (.ty T1)) (tCons (tC (.ty T2)) tNil))) tNil))) S E Kp := fun σ H o Q q =>
  h σ H o _ fun v r S1 H1 o1 e1 s1 v1 ⟨d, hv, k⟩ => by
    have sh := o1.sh v1 hv
    refine ⟨by show 2 ≤ sizeLine; decide, fun p hp => ?_⟩
    have o2 := o1.laid (u := .tup [.ty T1, .ty T2]) hp
    have v2 : VOk K (hide (F.OS S1) (upd H1 p (.tup [.ty T1, .ty T2]))) v r := v1.le (laid_le hp)
    have sh2 := o2.sh v2 hv
    refine ⟨v, p, [.ty T1, .ty T2], .type (tyN d), [.type T1, .type T2], isTy T1 d || isTy T2 d, rfl, upd_same, .cons (.ty T1) (.cons (.ty T2) .nil), sh_ty hide_le sh2, ?_, q (.bl _) (.dat (.bool _)) S1 _ o2 e1 (s1.trans (Step.new hp)) (Dp.bl _) k⟩
    refine kitAny_cons (kit_ty (h1 d (sh_nodict sh))) (fun e => ?_) fun e => by rw [e]; rfl
    refine kitAny_cons (kit_ty (h2 d (sh_nodict sh))) (fun e2 => ?_) fun e2 => by rw [e2, Bool.or_true]
    rw [e, e2]
    rfl

/-! ### methods -/
/-- o.m(e, ..) of a tuple whose object is known -/
def tBMT (K : PySem.W.Frag) (r : V → List V → Hp → VK → Prop) (to : TE) (t : TA) : TE := fun σ H Q => to σ H fun x H1 => (∃ a xs, x = .ref a ∧ SqT K H1 a xs ∧ NoD K H1 a) ∧ t σ H1 fun xs H2 => r x xs H2 Q
theorem pe_bmT {X : Cx} {o e : Expr} {es : List Expr} {to : TE} {t : TA} {name : Str} {apos cpos : Pos} {id : String} {r : V → List V → Hp → VK → Prop} (slot : Slot "tuple" name id) (hty : typeOf (.builtin id) = pure (.type "method_descriptor")) (hm : MtR X id r) (ho : PE X o to) (ha : PA X (e :: es) t)
    (hbase : attributeBase o name X.env (eval o X.env) = eval o X.env := by rfl)
    (hfew : ((backTo cpos (starEach (e :: es) X.env)).all (fun x => !x.1) && (backToKw cpos (keywordEach [] X.env)).all (fun x => x.1.isSome)
      && decide ((e :: es).length + ([] : List Keyword).length + (if ([] : List Keyword).isEmpty then 0 else 1) < 30)) = true := by rfl)
    (hline : (apos.endLine == cpos.line) = true := by rfl) (hs : starEach (e :: es) X.env = (false, eval e X.env) :: starEach es X.env := by rfl) (hplain : (backTo cpos (starEach es X.env)).any (·.1) = false := by rfl) :
    PE X (.Call (.Attribute o name apos) (e :: es) [] cpos) (tBMT X.K r to t) := by
  refine ⟨fun pins s σ H Q I h => ?_⟩
  refine wpAny_Call_method_late hbase hfew hline rfl (thn (ho.run pins s σ H _ I h) fun v s1 ⟨x, H1, I1, r1, ⟨a, xs, ex, hq, hn⟩, q1⟩ => ?_)
  subst ex
  cases r1
  obtain ⟨its, _, p, _⟩ := I1.tuple hq
  refine ⟨"tuple", id, PySem.F.plainAttrs_tuple, slot, hty, p.typeIs, fun b eb => ?_, ?_⟩
  · cases eb
    rcases hn with ⟨ob, u, h1, h2⟩ | ⟨ob, h1, h2⟩
    · obtain ⟨g, _⟩ := I1.hok a _ h1
      exact ⟨ob, g, h2⟩
    · exact ⟨ob, I1.kIn a ob h1, h2⟩
  · have hA := ha.run cpos pins s1 σ H1 _ I1 q1
    rw [hs] at hA ⊢
    refine Calls.callWith_builtin (by show (false || (backTo cpos (starEach es X.env)).any (·.1)) = false; rw [hplain] <;> rfl) (Calls.evalArgs_plain ?_)
    exact thn hA fun us s2 ⟨vs, H2, I2, r2, q2⟩ => hm pins s2 σ H2 (.ref a) vs (.ref a) us Q I2 rfl r2 q2
theorem ex_index (h : EX K TL F te S E fun r S1 => (∃ ds, r = .dat (.tuple ds)) ∧ EX K TL F tb S1 E fun r2 S2 => ∃ (ns : List Int) (i : Int) (j : Nat), r = .dat (.tuple (ns.map .int)) ∧ r2 = .dat (.int i) ∧ ns[j]? = some i ∧ (∀ m, m < j → ns[m]? ≠ some i) ∧ Kp (.dat (.int (j : Nat))) S2) :
    EX K TL F (tBMT K (rIndexTI K) te (tCons tb tNil)) S E Kp := fun σ H o Q q =>
  h σ H o _ fun v r S1 H1 o1 e1 s1 v1 ⟨⟨ds, er⟩, k1⟩ => by
    subst er
    have v1' := v1
    cases v1 with
    | @tup a us _ hq hn ha =>
      refine ⟨⟨a, us, rfl, sqt_le hide_le hq, hn.le hide_le⟩, k1 σ H1 o1 _ fun w r2 S2 H2 o2 e2 s2 v2 ⟨ns, i, j, er, er2, hj, hno, k⟩ => ?_⟩
      subst er2
      cases v2
      have er : PyData.tuple ds = .tuple (ns.map .int) := by
        injection er
      injection er with er
      subst er
      have eu := dpa_ints ha
      subst eu
      have hq2 : SqT K H2 a (ns.map V.int) := sqt_le hide_le (sqt_le (step_le (F := F) s2 e2) hq)
      exact ⟨a, ns, i, j, rfl, rfl, hq2, hj, hno, q (.int j) (.dat (.int j)) S2 H2 o2 (e2.trans e1) (s1.trans (by rw [← own_eq e1]; exact s2)) (Dp.int _) k⟩
/-- xs.pop(i), the item forgotten; xs.insert(i, y) -/
theorem sx_popAt (h : EX K TL F te S E fun a S1 => ∃ p, a = .own p ∧ p ∈ dom S1 ∧ EX K TL F tb S1 E fun r S2 => ∃ (i : Nat) (ds : List PyData), r = .dat (.int (i : Nat)) ∧ get S2 p = some ds ∧ i < ds.length ∧ ds.length ≤ 1000000 ∧ N (put S2 p (ds.eraseIdx i)) E) :
    SX K TL F (tDrop (tBM K "list" rPopAt te (tCons tb tNil))) S E N R B C := fun σ H o D n r b c =>
  h σ H o _ fun v a S1 H1 o1 e1 s1 v1 ⟨p, ea, hp, k1⟩ => by
    subst ea
    have ev : v = .ref p := v1
    subst ev
    obtain ⟨zs, hz⟩ := o1.dom_at hp
    refine ⟨tyV_own hz, k1 σ H1 o1 _ fun w r2 S2 H2 o2 e2 s2 v2 ⟨i, ds, er, hg, hi, hl, k2⟩ => ?_⟩
    subst er
    cases v2
    obtain ⟨hm, xs, hx, hd⟩ := own_at o2 hg
    have hlen := dpa_len hd
    have hi' : i < xs.length := by rw [hlen]; exact hi
    have hx' : ixN xs.length (i : Int) = some i := by
      unfold ixN
      rw [if_pos (by omega), if_pos (by omega), Int.toNat_natCast]
    exact ⟨p, xs, i, i, xs[i], rfl, rfl, hx, by omega, by omega, (ixN_seq hx').1, List.getElem?_eq_getElem hi', n _ _ _ _ (o2.write hm (dpa_erase i hd)) k2⟩
def rInsert : V → List V → Hp → VK → Prop := fun x vs H Q => ∃ (l : Addr) (xs : List V) (i : Int) (y : V), x = .ref l ∧ vs = [.int i, y] ∧ H l = some (.lst xs) ∧ xs.length < sizeLine ∧ 0 ≤ i ∧ i < 2 ^ 63 ∧ Q .non (upd H l (.lst (xs.take i.toNat ++ [y] ++ xs.drop i.toNat)))
theorem mt_insertU {X : Cx} : MtR X "list.insert" rInsert := mt_insert
theorem sx_insert {td : TE} (h : EX K TL F te S E fun a S1 => ∃ p, a = .own p ∧ p ∈ dom S1 ∧ EX K TL F tb S1 E fun r S2 => EX K TL F td S2 E fun r2 S3 => ∃ (i : Nat) (d : PyData) (ds : List PyData), r = .dat (.int (i : Nat)) ∧ r2 = .dat d ∧ get S3 p = some ds ∧ i ≤ 1000000 ∧ ds.length < 1000000 ∧ N (put S3 p (ds.take i ++ [d] ++ ds.drop i)) E) :
    SX K TL F (tDrop (tBM K "list" rInsert te (tCons tb (tCons td tNil)))) S E N R B C := fun σ H o D n r b c =>
  h σ H o _ fun v a S1 H1 o1 e1 s1 v1 ⟨p, ea, hp, k1⟩ => by
    subst ea
    have ev : v = .ref p := v1
    subst ev
    obtain ⟨zs, hz⟩ := o1.dom_at hp
    refine ⟨tyV_own hz, k1 σ H1 o1 _ fun w r2 S2 H2 o2 e2 s2 v2 k2 => k2 σ H2 o2 _ fun y r3 S3 H3 o3 e3 s3 v3 ⟨i, d, ds, er, er2, hg, hi, hl, kk⟩ => ?_⟩
    subst er er2
    cases v2
    obtain ⟨hm, xs, hx, hd⟩ := own_at o3 hg
    have hlen := dpa_len hd
    refine ⟨p, xs, i, y, rfl, rfl, hx, by rw [hlen]; exact lt_size hl, by omega, by omega, n _ _ _ _ (o3.write hm ?_) kk⟩
    rw [Int.toNat_natCast]
    exact dpa_append (dpa_append (dpa_take i hd) (.cons v3 .nil)) (dpa_drop i hd)
end
end PL

set_option maxHeartbeats 1000000
namespace PL
open PySem PySem.Spec PyProof.Rows L2
open GxR (TabG Tabbed)
/-- a def that keeps a promise, by its name -/
structure Fu (P : Program) (w : World) (K : PySem.W.Frag) (mg : Str → Option Value) (base : Heap) (x : Str) (k : Nat) (ps : List Str) (sp : Sp) : Prop where
  ex : ∃ f fd, FnOk P w K mg base CX0 k f fd ps sp ∧ mg x = some (.ref f) ∧ PySem.W.keepIn K (.ref f) = true ∧ Binds K fd ps []
section
variable {X : Cx} {x : Str} {k : Nat} {ps : List Str} {sp : Sp} {e : Expr} {es : List Expr} {t : TA} {p pos : Pos}
theorem pe_fu (F : Fu X.prog X.w X.K X.mg X.base x k ps sp) (hr : Room k X.A) (hg : Gl X x) (ha : PA X (e :: es) t) (hdb : (x == ("__debug__" : Str)) = false := by decide)
    (he : starEach (e :: es) X.env = (false, eval e X.env) :: starEach es X.env := by rfl) (hpl : (backTo pos (starEach es X.env)).any (·.1) = false := by rfl) : PE X (.Call (.Name x p) (e :: es) [] pos) (tCall sp [] E0 t) := by
  obtain ⟨f, fd, h1, h2, h3, h4⟩ := F.ex
  exact pe_call h1 hr hg h2 h3 h4 .nil L2.pass0 ha hdb he hpl
end
/-- a def whose code object is known -/
theorem okC {P : Program} {w : World} {K : PySem.W.Frag} {mg : Str → Option Value} {base : Heap} {x qual : Str} {params : Arguments} {body : List Stmt} {scope : Scope} {dvs : List V} {kws : List (Str × V)} {p : He.Defn} {fd : FuncData} {CX : CXT} {N ps : List Str} {k : Nat} {sp : Sp}
    (F : FunD K x qual params body scope dvs kws (He.fAd K p) fd) (S : FnScope N ps scope) (len : ∀ vs H Q E, sp vs H Q E → vs.length = ps.length)
    (hbody : ∀ (A : Around) (outer : List Env) (s : Shared) (H : Hp) (vs : List V) (Q : VK) (E : XK), Room k (A.deeper (envOfC qual scope s.heap.objs.size (He.fAd K p) (.ref (He.cT K p).1))) → sp vs H Q E →
      ∃ t, PSs (cxOf CX P w K mg base N qual scope (He.fAd K p) (.ref (He.cT K p).1) A outer s H E) body t ∧ t { nx := fun _ H' => Q .non H', rt := Q } (start N vs) H) : FnOk P w K mg base CX (k + 1) (He.fAd K p) fd ps sp := by
  obtain ⟨oc, od, dV, kV, doc, pm, an, cdv, ct, osl, rfl, lk, hcd, _, _⟩ := F.ex
  obtain ⟨c, rfl⟩ := He.codeIn_ref hcd
  have e : (He.cT K p).1 = c := He.codeOf_eq lk rfl
  rw [e] at hbody
  exact fn_of lk hcd S len fun A outer s H vs Q E hr hsp => hbody A outer s H vs Q E hr hsp
/-! ### more operators in one -/
def pMul (a b d : PyData) : Prop := ∃ i j : Int, a = .int i ∧ b = .int j ∧ (CMul i j ∨ CMulW i j) ∧ d = .int (i * j)
def rMulU : R2 := fun x y H Q => rI CMul (fun i j => .int (i * j)) x y H Q ∨ rI CMulW (fun i j => .int (i * j)) x y H Q
theorem op_mulU {X : Cx} : OpR X (binaryOp .Mult) rMulU := OpR.or op_mul op_mulW
instance opp_Mul {K : PySem.W.Frag} : OpP K rMulU pMul := ⟨fun {G H v w a b d Q} le h1 h2 ⟨i, j, ea, eb, hc, e⟩ q => by
  subst ea eb e
  rcases hc with hc | hc
  · exact .inl ⟨i, j, sh_int h1, sh_int h2, hc, q _ _ (.same (.int _))⟩
  · exact .inr ⟨i, j, sh_int h1, sh_int h2, hc, q _ _ (.same (.int _))⟩⟩
def pNeg (a d : PyData) : Prop := ∃ i : Int, a = .int i ∧ d = .int (-i)
instance unp_Neg {K : PySem.W.Frag} : UnP K (rU fun i => .int (-i)) pNeg := ⟨fun {G H v a d Q} le h1 ⟨i, ea, e⟩ q => by
  subst ea e
  exact ⟨i, sh_int h1, q _ _ (.same (.int _))⟩⟩
end PL

set_option maxHeartbeats 1000000
namespace PL
open PySem PySem.Spec PyProof.Rows L2
open GxR (TabG Tabbed)

/-! ### data that is small -/
inductive Gd (m : Nat) : Nat → PyData → Prop
  | non (n : Nat) : Gd m n .none
  | bl (n : Nat) (b : Bool) : Gd m n (.bool b)
  | int (n : Nat) (i : Int) : Gd m n (.int i)
  | str (n : Nat) (x : Str) : x.length ≤ m → (∀ c ∈ x.cps.toList, c < 0x110000) → Gd m n (.str x)
  | lst (n : Nat) (ds : List PyData) : ds.length ≤ m → (∀ d ∈ ds, Gd m n d) → Gd m (n + 1) (.list ds)
  | tup (n : Nat) (ds : List PyData) : ds.length ≤ m → (∀ d ∈ ds, Gd m n d) → Gd m (n + 1) (.tuple ds)
theorem Gd.mono {m m' : Nat} (hm : m ≤ m') {n : Nat} {d : PyData} (h : Gd m n d) : ∀ {n' : Nat}, n ≤ n' → Gd m' n' d := by
  induction h with
  | non n => exact fun _ => .non _
  | bl n b => exact fun _ => .bl _ b
  | int n i => exact fun _ => .int _ i
  | str n x h1 h2 => exact fun _ => .str _ x (by omega) h2
  | lst n ds h1 h2 ih =>
    intro n' hn
    cases n' with
    | zero => omega
    | succ n' => exact .lst n' ds (by omega) fun d hd => ih d hd (by omega)
  | tup n ds h1 h2 ih =>
    intro n' hn
    cases n' with
    | zero => omega
    | succ n' => exact .tup n' ds (by omega) fun d hd => ih d hd (by omega)
theorem depthAll_le {n : Nat} : ∀ {ds : List PyData}, (∀ d ∈ ds, d.depth ≤ n) → PyData.depthAll ds ≤ n
  | [], _ => by simp [PyData.depthAll]
  | d :: ds, h => by
    have h1 := h d List.mem_cons_self
    have h2 := depthAll_le fun e he => h e (List.mem_cons_of_mem _ he)
    simp only [PyData.depthAll]
    omega
theorem canAll_of : ∀ {ds : List PyData}, (∀ d ∈ ds, PyData.canLay0 d = true) → PyData.canLayAll0 ds = true
  | [], _ => by simp [PyData.canLayAll0]
  | d :: ds, h => by
    simp only [PyData.canLayAll0, h d List.mem_cons_self, canAll_of fun e he => h e (List.mem_cons_of_mem _ he), Bool.and_self]
theorem Gd.depth {m n : Nat} {d : PyData} (h : Gd m n d) : d.depth ≤ n := by
  induction h with
  | non n => simp [PyData.depth]
  | bl n b => simp [PyData.depth]
  | int n i => simp [PyData.depth]
  | str n x h1 h2 => simp [PyData.depth]
  | lst n ds h1 h2 ih =>
    have := depthAll_le ih
    simp only [PyData.depth]
    omega
  | tup n ds h1 h2 ih =>
    have := depthAll_le ih
    simp only [PyData.depth]
    omega
theorem Gd.can {m n : Nat} {d : PyData} (h : Gd m n d) : PyData.canLay0 d = true := by
  induction h with
  | non n => simp [PyData.canLay0]
  | bl n b => simp [PyData.canLay0]
  | int n i => simp [PyData.canLay0]
  | str n x h1 h2 =>
    simp only [PyData.canLay0, PyData.strOk]
    rw [Array.all_eq_true_iff_forall_mem]
    intro c hc
    simpa using h2 c (by simpa using hc)
  | lst n ds h1 h2 ih =>
    simp only [PyData.canLay0]
    exact canAll_of ih
  | tup n ds h1 h2 ih =>
    simp only [PyData.canLay0]
    exact canAll_of ih
theorem Gd.shaped {m n : Nat} {d : PyData} (h : Gd m n d) (hn : n ≤ 64) : SeqAt.shaped d = true := by
  unfold SeqAt.shaped
  rw [h.can, Bool.true_and, decide_eq_true_iff]
  have := h.depth
  omega
theorem Gd.items {m n : Nat} {ds : List PyData} (h : Gd m (n + 1) (.tuple ds)) : ds.length ≤ m ∧ ∀ d ∈ ds, Gd m n d := by
  cases h with
  | tup _ _ h1 h2 => exact ⟨h1, h2⟩
theorem Gd.itemsL {m n : Nat} {ds : List PyData} (h : Gd m (n + 1) (.list ds)) : ds.length ≤ m ∧ ∀ d ∈ ds, Gd m n d := by
  cases h with
  | lst _ _ h1 h2 => exact ⟨h1, h2⟩
theorem Gd.tupN {m n : Nat} {ds : List PyData} (h : Gd m n (.tuple ds)) : ds.length ≤ m ∧ ∀ d ∈ ds, Gd m n d := by
  cases h with
  | tup k _ h1 h2 => exact ⟨h1, fun d hd => (h2 d hd).mono (Nat.le_refl _) (by omega)⟩
theorem Gd.lstN {m n : Nat} {ds : List PyData} (h : Gd m n (.list ds)) : ds.length ≤ m ∧ ∀ d ∈ ds, Gd m n d := by
  cases h with
  | lst k _ h1 h2 => exact ⟨h1, fun d hd => (h2 d hd).mono (Nat.le_refl _) (by omega)⟩
theorem gd_ints {m : Nat} (n : Nat) (ns : List Int) (h : ns.length ≤ m) : Gd m (n + 1) (.list (ns.map .int)) := .lst n _ (by rw [List.length_map]; exact h) fun d hd => by
  obtain ⟨i, _, rfl⟩ := List.mem_map.mp hd
  exact .int n i
theorem gd_intsT {m : Nat} (n : Nat) (ns : List Int) (h : ns.length ≤ m) : Gd m (n + 1) (.tuple (ns.map .int)) := .tup n _ (by rw [List.length_map]; exact h) fun d hd => by
  obtain ⟨i, _, rfl⟩ := List.mem_map.mp hd
  exact .int n i
theorem shaped_int (i : Int) : SeqAt.shaped (.int i) = true := (Gd.int (m := 0) 0 i).shaped (by decide)
theorem shaped_bool (b : Bool) : SeqAt.shaped (.bool b) = true := (Gd.bl (m := 0) 0 b).shaped (by decide)
theorem shaped_nil : SeqAt.shaped (.list []) = true := (Gd.lst (m := 0) 0 [] (Nat.le_refl 0) (fun d hd => by cases hd)).shaped (by decide)
theorem shaped_nilT : SeqAt.shaped (.tuple []) = true := (Gd.tup (m := 0) 0 [] (Nat.le_refl 0) (fun d hd => by cases hd)).shaped (by decide)
theorem shaped_ints (ns : List Int) : SeqAt.shaped (.list (ns.map .int)) = true := (gd_ints (m := ns.length) 0 ns (Nat.le_refl _)).shaped (by decide)

/-! ### comparisons -/
theorem pLt_int (i j : Int) : pLt (.int i) (.int j) (.bool (decide (i < j))) := ⟨by simp [PySem.W.alike], by simp, by simp [PyData.depth], by rw [PySem.W.dataLt_int]⟩
theorem eqv_int (i j : Int) : PyData.eqv (.int i) (.int j) = decide (i = j) := by
  simp only [PyData.eqv]
  exact Bool.beq_eq_decide_eq i j
theorem eqv_bool (i j : Bool) : PyData.eqv (.bool i) (.bool j) = (i == j) := by simp only [PyData.eqv]
theorem pEq_int (i j : Int) : pEq (.int i) (.int j) (.bool (decide (i = j))) := ⟨shaped_int i, shaped_int j, by rw [eqv_int]⟩
theorem pNe_int (i j : Int) : pNe (.int i) (.int j) (.bool (!decide (i = j))) := ⟨shaped_int i, shaped_int j, by rw [eqv_int]⟩
theorem pEq_bool (i j : Bool) : pEq (.bool i) (.bool j) (.bool (i == j)) := ⟨shaped_bool i, shaped_bool j, by rw [eqv_bool]⟩
theorem pNe_bool (i j : Bool) : pNe (.bool i) (.bool j) (.bool (!(i == j))) := ⟨shaped_bool i, shaped_bool j, by rw [eqv_bool]⟩
theorem eqv_nil (ds : List PyData) : PyData.eqv (.list ds) (.list []) = ds.isEmpty := by
  cases ds <;> simp [PyData.eqv, PyData.eqvAll]
theorem eqv_nilT (ds : List PyData) : PyData.eqv (.tuple ds) (.tuple []) = ds.isEmpty := by
  cases ds <;> simp [PyData.eqv, PyData.eqvAll]
theorem eqvAll_ints : ∀ ns ms : List Int, PyData.eqvAll (ns.map .int) (ms.map .int) = decide (ns = ms)
  | [], [] => by simp [PyData.eqvAll]
  | [], _ :: _ => by simp [PyData.eqvAll]
  | _ :: _, [] => by simp [PyData.eqvAll]
  | n :: ns, m :: ms => by
    rw [List.map_cons, List.map_cons, PyData.eqvAll, eqv_int, eqvAll_ints ns ms]
    by_cases h1 : n = m <;> by_cases h2 : ns = ms <;> simp [h1, h2]
theorem rgD_ints (lo hi : Int) : rgD lo hi = ((List.range (hi - lo).toNat).map fun (i : Nat) => lo + (i : Int)).map .int := by
  unfold rgD
  rw [List.map_map]
  rfl
theorem gd_refl : ∀ {m n : Nat} {d : PyData}, Gd m n d → PyData.eqv d d = true := by
  intro m n d h
  induction h with
  | non n => simp [PyData.eqv]
  | bl n b => simp [PyData.eqv]
  | int n i => simp [PyData.eqv]
  | str n x h1 h2 => simp [PyData.eqv]
  | lst n ds h1 h2 ih =>
    simp only [PyData.eqv]
    clear h1 h2
    induction ds with
    | nil => simp [PyData.eqvAll]
    | cons d ds ihd => simp only [PyData.eqvAll, ih d List.mem_cons_self, ihd fun e he => ih e (List.mem_cons_of_mem _ he), Bool.and_self]
  | tup n ds h1 h2 ih =>
    simp only [PyData.eqv]
    clear h1 h2
    induction ds with
    | nil => simp [PyData.eqvAll]
    | cons d ds ihd => simp only [PyData.eqvAll, ih d List.mem_cons_self, ihd fun e he => ih e (List.mem_cons_of_mem _ he), Bool.and_self]
/-! ### places -/
theorem atI_nat {α : Type} {xs : List α} {i : Nat} {x : α} (h : xs[i]? = some x) : atI xs (i : Int) = some x := by
  have hi : i < xs.length := (List.getElem?_eq_some_iff.mp h).1
  unfold atI ixN
  rw [if_pos (by omega), if_pos (by omega), Int.toNat_natCast]
  exact h
theorem ixN_nat {n i : Nat} (h : i < n) : ixN n (i : Int) = some i := by
  unfold ixN
  rw [if_pos (by omega), if_pos (by omega), Int.toNat_natCast]
theorem atI_lt {α : Type} {xs : List α} {i : Int} (h0 : 0 ≤ i) (h1 : i < xs.length) : ∃ x, atI xs i = some x ∧ x ∈ xs ∧ xs[i.toNat]? = some x := by
  have hi : i.toNat < xs.length := by omega
  refine ⟨xs[i.toNat], ?_, List.getElem_mem hi, List.getElem?_eq_getElem hi⟩
  unfold atI ixN
  rw [if_pos h0, if_pos h1]
  exact List.getElem?_eq_getElem hi
theorem atI_last {α : Type} {xs : List α} (h : xs ≠ []) : ∃ x, atI xs (-1) = some x ∧ x ∈ xs := by
  have hl : 0 < xs.length := List.length_pos_iff.mpr h
  have hi : xs.length - 1 < xs.length := by omega
  refine ⟨xs[xs.length - 1], ?_, List.getElem_mem hi⟩
  unfold atI ixN
  rw [if_neg (by omega), if_pos (by omega)]
  have e : ((-1 : Int) + xs.length).toNat = xs.length - 1 := by omega
  show xs[((-1 : Int) + xs.length).toNat]? = _
  rw [e]
  exact List.getElem?_eq_getElem hi
theorem cut_lo (ds : List PyData) (k : Nat) : cutD ds (some (k : Int)) none = ds.drop k := by
  unfold cutD
  rw [HT.sIx_nat, HT.sIx_none]
  by_cases h : k ≤ ds.length
  · rw [Nat.min_eq_left h]
    exact List.take_of_length_le (by rw [List.length_drop]; omega)
  · rw [Nat.min_eq_right (by omega), List.drop_length, List.drop_eq_nil_of_le (by omega)]
    simp
theorem cut_hi (ds : List PyData) (k : Nat) : cutD ds none (some (k : Int)) = ds.take k := by
  unfold cutD
  rw [HT.sIx_nat, HT.sIx_none, List.drop_zero, Nat.sub_zero]
  by_cases h : k ≤ ds.length
  · rw [Nat.min_eq_left h]
  · rw [Nat.min_eq_right (by omega), List.take_length, List.take_of_length_le (by omega)]
theorem spD_len {K : PySem.W.Frag} {TL : List Addr} {pre : List PyData → Prop} {post : List PyData → PyData → Prop} {n : Nat} (hp : ∀ ds, pre ds → ds.length = n) (vs : List V) (H : Hp) (Q : VK) (E : XK) (h : spD K TL pre post vs H Q E) : vs.length = n := by
  obtain ⟨O, ds, _, _, a, p, _⟩ := h
  rw [dpa_len a]
  exact hp ds p
theorem spN_len {K : PySem.W.Frag} {TL : List Addr} {pre : List PyData → Prop} {post : List PyData → List PyData → Prop} {n : Nat} (hp : ∀ ds, pre ds → ds.length = n) (vs : List V) (H : Hp) (Q : VK) (E : XK) (h : spN K TL pre post vs H Q E) : vs.length = n := by
  obtain ⟨O, ds, _, _, a, p, _⟩ := h
  rw [dpa_len a]
  exact hp ds p
theorem spT_len {K : PySem.W.Frag} {TL : List Addr} {pre : List PyData → List PyData → Prop} {post : List PyData → List PyData → PyData → List PyData → Prop} {n : Nat} (hp : ∀ c ds, pre c ds → ds.length = n) (vs : List V) (H : Hp) (Q : VK) (E : XK) (h : spT K TL pre post vs H Q E) : vs.length = n + 1 := by
  obtain ⟨O, t, c, ws, ds, rfl, _, _, _, _, a, p, _⟩ := h
  rw [List.length_cons, dpa_len a, hp c ds p]

/-! ### rising -/
def riseB : List PyData → Bool
  | a :: b :: r => PySem.W.dataLt a b && riseB (b :: r)
  | _ => true
def AdjOk (xs : List PyData) : Prop := PySem.W.AllAlike xs ∧ ∀ d ∈ xs, d ≠ .none ∧ d.depth ≤ 60
def ltI : Itm → Bool
  | .two a b => PySem.W.dataLt a b
  | .one _ => true
theorem rise_zip : ∀ xs : List PyData, (zipD xs (xs.drop 1)).all ltI = riseB xs
  | [] => rfl
  | [_] => rfl
  | a :: b :: r => by
    have ih := rise_zip (b :: r)
    unfold zipD at ih ⊢
    simp only [List.drop_succ_cons, List.drop_zero, List.zip_cons_cons, List.map_cons, List.all_cons, riseB] at ih ⊢
    rw [ih]
    rfl
theorem rise_take {xs : List PyData} : ∀ {i : Nat} {a b : PyData}, xs[i]? = some a → xs[i + 1]? = some b → riseB (xs.take (i + 2)) = (riseB (xs.take (i + 1)) && PySem.W.dataLt a b) := by
  induction xs with
  | nil => intro i a b h1 h2; cases h1
  | cons x xs ih =>
    intro i a b h1 h2
    cases i with
    | zero =>
      cases h1
      cases xs with
      | nil => cases h2
      | cons y ys =>
        cases h2
        simp [riseB]
    | succ i =>
      have h1' : xs[i]? = some a := h1
      have h2' : xs[i + 1]? = some b := h2
      have e := ih h1' h2'
      cases xs with
      | nil => cases h1'
      | cons y ys =>
        have t2 : (x :: y :: ys).take (i + 1 + 2) = x :: y :: ys.take (i + 1) := rfl
        have t1 : (x :: y :: ys).take (i + 1 + 1) = x :: y :: ys.take i := rfl
        have t2' : (y :: ys).take (i + 2) = y :: ys.take (i + 1) := rfl
        have t1' : (y :: ys).take (i + 1) = y :: ys.take i := rfl
        rw [t2', t1'] at e
        rw [t2, t1, riseB, riseB, e, Bool.and_assoc]
end PL

set_option maxHeartbeats 1000000
namespace PL
open PySem PySem.Spec PyProof.Rows L2
open GxR (TabG Tabbed)
section
variable {K : PySem.W.Frag} {TL : List Addr} {F : Fm} {S S' S1 : Sto} {E : List Sl} {Kn : List PyData → Sto → Prop} {Kp : Sl → Sto → Prop} {Kb : Bool → Sto → Prop} {te : TE} {tt : TT} {g g1 : TG} {wi wi1 : TI}
theorem tx_yes (k : Kb true S) : TX K TL F tYes S E Kb := fun σ H o Q q => q true S H o rfl (Step.refl _ _) k
theorem ex_weak {Kp' : Sl → Sto → Prop} (h : EX K TL F te S E Kp') (k : ∀ r S', Kp' r S' → Kp r S') : EX K TL F te S E Kp := fun σ H o Q q => h σ H o Q fun v r S' H' a b c d e => q v r S' H' a b c d (k r S' e)
theorem tx_weak {Kb' : Bool → Sto → Prop} (h : TX K TL F tt S E Kb') (k : ∀ r S', Kb' r S' → Kb r S') : TX K TL F tt S E Kb := fun σ H o Q q => h σ H o Q fun v S' H' a b c e => q v S' H' a b c (k v S' e)
theorem ix_weak {Ki Ki' : List Itm → Sto → Prop} (h : IX K TL F wi S E Ki') (k : ∀ r S', Ki' r S' → Ki r S') : IX K TL F wi S E Ki := fun σ H o Q q => h σ H o Q fun J its S' H' a b c d e => q J its S' H' a b c d (k its S' e)
theorem gx_weak {d : Itm} {vs : List Nat} {Kg Kg' : List Sl → Prop} (h : GX K TL F g d S E vs Kg') (k : ∀ E', Kg' E' → Kg E') : GX K TL F g d S E vs Kg := fun σ H v o hv Q q => h σ H v o hv Q fun σ' E' a b c e => q σ' E' a b c (k E' e)
/-- a comprehension that is a plain function -/
theorem en_lcP (vs : List Nat) (p : Itm → Bool) (f : Itm → PyData) (h : IX K TL F wi S E fun ds S1 => ds.length ≤ 1000000 ∧
      (∀ F d, d ∈ ds → GX K TL F g d S1 (wipeE E vs) vs fun E2 => TX K TL F tt S1 E2 fun b S2 => b = p d ∧ S2 = S1 ∧ (b = true → EX K TL F te S1 E2 fun r S3 => r = .dat (f d) ∧ S3 = S1)) ∧
      Kn ((ds.filter p).map f) S1) : EN K TL F (tLc wi g tt te vs) S E Kn := by
  refine en_lc vs (ix_weak h fun ds S1 ⟨hl, hs, hk⟩ => ⟨hl, fun i acc S' => S' = S1 ∧ acc = ((ds.take i).filter p).map f, ⟨rfl, by simp⟩, fun F i d acc S' hd ⟨hS, ha⟩ => ?_, fun acc S' ⟨hS, ha⟩ => ?_⟩)
  · subst hS
    have et : ((ds.take (i + 1)).filter p).map f = ((ds.take i).filter p).map f ++ (if p d = true then [f d] else []) := by
      rw [List.take_add_one, hd, List.filter_append, List.map_append]
      congr 1
      cases hp : p d <;> simp [hp]
    refine gx_weak (hs F d (List.mem_of_getElem? hd)) fun E2 h2 => tx_weak h2 fun b S2 ⟨hb, hS2, he⟩ => ?_
    subst hS2
    cases b with
    | true =>
      refine iteT (ex_weak (he rfl) fun r S3 ⟨hr, hS3⟩ => ⟨f d, hr, hS3, ?_⟩)
      rw [et, ha, if_pos hb.symm]
    | false =>
      refine iteF ⟨rfl, ?_⟩
      rw [et, ha, if_neg (by rw [← hb]; exact Bool.false_ne_true), List.append_nil]
  · rw [hS, ha, List.take_length]
    exact hk
/-- .. of two fors -/
theorem en_lc2P (vs vs1 : List Nat) (fi : Itm → List Itm) (f : Itm → Itm → PyData) (h : IX K TL F wi S E fun ds S1 => (ds.flatMap fun d => (fi d).map (f d)).length < 1000000 ∧
      (∀ F d, d ∈ ds → GX K TL F g d S1 (wipeE E vs) vs fun E2 => IX K TL F wi1 S1 E2 fun es S3 => es = fi d ∧ S3 = S1 ∧
        ∀ F e, e ∈ es → GX K TL F g1 e S1 (wipeE E2 vs1) vs1 fun E3 => EX K TL F te S1 E3 fun r S6 => r = .dat (f d e) ∧ S6 = S1) ∧
      Kn (ds.flatMap fun d => (fi d).map (f d)) S1) : EN K TL F (tLc2 wi g tYes wi1 g1 tYes te vs vs1) S E Kn := by
  refine en_lc2 vs vs1 (ix_weak h fun ds S1 ⟨hl, hs, hk⟩ => ⟨fun i acc S' => S' = S1 ∧ acc = (ds.take i).flatMap fun d => (fi d).map (f d), ⟨rfl, by simp⟩, fun F i d acc S' hd ⟨hS, ha⟩ => ?_, fun acc S' ⟨hS, ha⟩ => ?_⟩)
  · subst hS
    have et : ((ds.take (i + 1)).flatMap fun d => (fi d).map (f d)) = ((ds.take i).flatMap fun d => (fi d).map (f d)) ++ (fi d).map (f d) := by
      rw [List.take_add_one, hd, List.flatMap_append]
      simp
    have lb : (((ds.take i).flatMap fun d => (fi d).map (f d)) ++ (fi d).map (f d)).length < 1000000 := by
      rw [← et]
      refine Nat.lt_of_le_of_lt ?_ hl
      conv => rhs; rw [← List.take_append_drop (i + 1) ds, List.flatMap_append]
      rw [List.length_append]
      omega
    refine gx_weak (hs F d (List.mem_of_getElem? hd)) fun E2 h2 => tx_yes (iteT (ix_weak h2 fun es S3 ⟨hes, hS3, he⟩ => ⟨fun j acc' S4 => S4 = S' ∧ acc' = acc ++ ((fi d).take j).map (f d), ⟨hS3, by simp⟩, fun F j e acc' S4 hj ⟨hS4, ha4⟩ => ?_, fun acc' S4 ⟨hS4, ha4⟩ => ?_⟩))
    · subst hS4 hes
      refine ⟨?_, gx_weak (he F e (List.mem_of_getElem? hj)) fun E3 h3 => tx_yes (iteT (ex_weak h3 fun r S6 ⟨hr, hS6⟩ => ⟨f d e, hr, hS6, ?_⟩))⟩
      · have hjl : j < (fi d).length := (List.getElem?_eq_some_iff.mp hj).1
        rw [ha4, ha]
        rw [List.length_append] at lb ⊢
        rw [List.length_map, List.length_take]
        rw [List.length_map] at lb
        omega
      · rw [ha4, List.take_add_one, hj, List.map_append, List.append_assoc]
        rfl
    · subst hes
      refine ⟨hS4, ?_⟩
      rw [ha4, List.take_length, ha, et]
  · rw [hS, ha, List.take_length]
    exact hk
end
end PL

set_option maxHeartbeats 1000000
namespace PL
open PySem PySem.Spec PyProof.Rows L2
theorem get_tl {S : Sto} {p a : Addr} {ds : List PyData} (h : p ≠ a) : get ((p, ds) :: S) a = get S a := by
  unfold get
  rw [List.find?_cons_of_neg (by simpa using h)]
theorem put_tl {S : Sto} {p a : Addr} {ds c : List PyData} (h : p ≠ a) : put ((p, ds) :: S) a c = (p, ds) :: put S a c := by
  unfold put
  rw [List.map_cons, if_neg (by simpa using h)]
theorem put_hd {S : Sto} {p : Addr} {ds es : List PyData} (h : p ∉ dom S) : put ((p, ds) :: S) p es = (p, es) :: S := put_cons_same S p ds es h
theorem put_one {p : Addr} {ds es : List PyData} : put [(p, ds)] p es = [(p, es)] := put_hd (by simp [dom])
theorem get_one' {p : Addr} {ds : List PyData} : get [(p, ds)] p = some ds := get_cons_same _ _ _
theorem mem_dom_hd {S : Sto} {p : Addr} {ds : List PyData} : p ∈ dom ((p, ds) :: S) := List.mem_cons_self
section
variable {K : PySem.W.Frag} {TL : List Addr} {F : Fm} {S S' S1 : Sto} {E : List Sl} {N B C : Sto → List Sl → Prop} {R : Sl → Sto → Prop} {Kn : List PyData → Sto → Prop} {te : TE} {t : TS}
theorem sx_asgN2 {i : Nat} (h : EN K TL F te S E fun ds S' => ∀ p, F.H p = none → p ∉ dom S' → N ((p, ds) :: S') (E.set i (.own p))) : SX K TL F (tAsg te (gName i)) S E N R B C := fun σ H o D n r b c =>
  h σ H o _ fun p ds S' H' hp o' e' s' k => n _ _ _ H' (o'.set i (s := .own p) rfl) (k p hp (List.nodup_cons.mp (show (p :: dom S').Nodup from o'.nd)).1)
theorem en_weak {Kn' : List PyData → Sto → Prop} (h : EN K TL F te S E Kn') (k : ∀ r S', Kn' r S' → Kn r S') : EN K TL F te S E Kn := fun σ H o Q q => h σ H o Q fun p ds S' H' a b c d e => q p ds S' H' a b c d (k ds S' e)
end
end PL

set_option maxHeartbeats 1000000
namespace PL
open PySem PySem.Spec PyProof.Rows L2
open GxR (TabG Tabbed)
/-- tape first, a promise for each g -/
def spTG (K : PySem.W.Frag) (TL : List Addr) {G : Type} (P : G → Prop) (pre : G → List PyData → List PyData → Prop) (post : G → List PyData → List PyData → PyData → List PyData → Prop) : Sp := fun vs H Q E => ∃ g, P g ∧ spT K TL (pre g) (post g) vs H Q E
def spNo : Sp := fun _ _ _ _ => False
section
variable {K : PySem.W.Frag} {TL : List Addr} {F : Fm} {S S' S1 : Sto} {E : List Sl} {Kp : Sl → Sto → Prop} {ta : TA} {H H' : Hp}
theorem ex_callTG {G : Type} {P : G → Prop} {pre : G → List PyData → List PyData → Prop} {post : G → List PyData → List PyData → PyData → List PyData → Prop} {XX : XK}
    (h : AX K TL F ta S E fun rs S1 => ∃ g, P g ∧ ∃ t rs' c ds, rs = .own t :: rs' ∧ get S1 t = some c ∧ dats rs' = some ds ∧ pre g c ds ∧ ∀ d c', post g c ds d c' → Kp (.dat d) (put S1 t c')) :
    EX K TL F (tCall (spTG K TL P pre post) [] XX ta) S E Kp := fun σ H o Q q =>
  h σ H o _ fun vs rs S1 H1 o1 e1 s1 v1 ⟨g, hg, t, rs', c, ds, er, hget, hr, hp, k⟩ => by
    subst er
    rw [dats_eq hr] at v1
    cases v1 with
    | @cons v r ws _ hv v1 =>
      have hv : v = .ref t := hv
      subst hv
      obtain ⟨hm, xs, hx, hd⟩ := own_at o1 hget
      refine ⟨g, hg, F.OS S1, t, c, ws, ds, by rw [List.append_nil], .inr hm, fun a ha => o1.os_live ha, o1.tab, ⟨xs, hx, hd⟩, v1.dats, hp, fun v d c' H' st tb hc hd' hpost => ?_⟩
      have le : Le (hide (F.OS S1) H1) (hide (F.OS S1) H') := hide_mono st (fun a z => by rw [z]; exact .inr hm) fun _ _ _ z => z
      have ed : dom (put S1 t c') = dom S1 := put_dom _ _ _
      have eo : F.OS (put S1 t c') = F.OS S1 := os_eq ed
      refine q v (.dat d) (put S1 t c') H' ⟨tb, ⟨fun a u n e nt => ?_, fun a e => o1.step.old a (st.old a e)⟩, fun r hr => ?_, fun r hr => ?_, by rw [ed]; exact o1.nd, o1.ent, o1.sub, o1.len, fun i s e => by rw [eo]; exact (o1.env i s e).le le⟩ (ed.trans e1) (s1.trans (st.mono fun a z => by rw [z]; show t ∈ dom S; rw [← e1]; exact hm)) (by rw [eo]; exact hd') (k d c' hpost)
      · refine st.keep a u (fun z => ?_) (o1.step.keep a u n e nt) nt
        rcases o1.may t hm with m | m
        · exact n (by rw [z]; exact m)
        · rw [z, m] at e
          cases e
      · rw [eo]
        rcases mem_put hr with ⟨z, _⟩ | ⟨z, nz⟩
        · rw [z]
          exact hc
        · obtain ⟨ys, r1, r2⟩ := o1.own r z
          exact ⟨ys, st.keep _ _ nz r1 (fun ps z => by cases z), dpa_le le r2⟩
      · rw [ed] at hr
        exact o1.may r hr
end
end PL

set_option maxHeartbeats 1000000
namespace PL
open PySem PySem.Spec PyProof.Rows L2
section
variable {K : PySem.W.Frag} {TL : List Addr} {F : Fm} {S S1 : Sto} {E : List Sl} {Kn : List PyData → Sto → Prop} {ta tb : TE}
/-- xs + ys, a new list of ours -/
theorem en_catL (h : EX K TL F ta S E fun a S1 => EX K TL F tb S1 E fun b S2 => ∃ xs ys, view S2 a = some (.list xs) ∧ view S2 b = some (.list ys) ∧ xs.length + ys.length ≤ 1000000 ∧ Kn (xs ++ ys) S2) : EN K TL F (tOp (rAddU K) ta tb) S E Kn := fun σ H o Q q =>
  h σ H o _ fun v a S1 H1 o1 e1 s1 v1 k1 => k1 σ H1 o1 _ fun w b S2 H2 o2 e2 s2 v2 ⟨xs, ys, h1, h2, hl, k⟩ => by
    have hs : Step (Own S) H H2 := s1.trans (by rw [← own_eq e1]; exact s2)
    obtain ⟨p, us, ev, hq, ha⟩ := o2.sh (v1.le (step_le s2 e2)) h1
    obtain ⟨p2, us2, ev2, hq2, ha2⟩ := o2.sh v2 h2
    exact .inr (.inr (.inr ⟨p, p2, us, us2, ev, ev2, hq, hq2, by rw [dpa_len ha, dpa_len ha2]; exact le_size hl, fun pp hpp => laid_own o2 (e2.trans e1) hs hpp (dpa_append ha ha2) q k⟩))
end
end PL

set_option maxHeartbeats 1000000
namespace PL
open PySem PySem.Spec PyProof.Rows L2
theorem hu65 {k : Nat} {A : Around} (hr : Room k A) : A.units + 65 < cLine := by
  have := hr.un
  omega
/-! ### max(t), t a tuple of ints -/
def rMaxT (K : PySem.W.Frag) : List V → Hp → VK → Prop := fun vs H Q => ∃ (a : Addr) (n : Int) (ns : List Int), vs = [V.ref a] ∧ SqT K H a ((n :: ns).map V.int) ∧ Q (.int (ns.foldl max n)) H
theorem l2_ints {K : PySem.W.Frag} {G : Hp} : ∀ ns : List Int, L2.DpAll K G (ns.map V.int) (ns.map PyData.int)
  | [] => .nil
  | n :: ns => .cons (.int n) (l2_ints ns)
theorem call_maxT {X : Cx} (hu : X.A.units + 65 < cLine) (hc : X.calm = true) : CallR X (.builtin "max") (rMaxT X.K) := by
  intro pins s σ H vs us Q I r h
  obtain ⟨a, n, ns, rfl, hs, q⟩ := h
  obtain ⟨its, rv, hl, _⟩ := I.tuple hs
  rw [Vals.ref1 r]
  obtain ⟨as, ra⟩ := Dp.readsAll I ((n :: ns).map PyData.int) ((n :: ns).map V.int) its (l2_ints (n :: ns)) rv
  have al : PySem.W.AlikeAll (PyData.int n :: ns.map PyData.int) := by
    rw [← List.map_cons]
    refine ⟨fun x hx y hy => ?_, fun x hx => ?_⟩
    · obtain ⟨i, _, rfl⟩ := List.mem_map.mp hx
      obtain ⟨j, _, rfl⟩ := List.mem_map.mp hy
      simp [PySem.W.alike]
    · obtain ⟨i, _, rfl⟩ := List.mem_map.mp hx
      simp
  have dz : PyData.depthAll (PyData.int n :: ns.map PyData.int) ≤ 0 := by
    rw [← List.map_cons]
    refine depthAll_le fun d hd => ?_
    obtain ⟨i, _, rfl⟩ := List.mem_map.mp hd
    simp [PyData.depth]
  refine PySem.W.max_tuple_data (I.ok.hd hc) hl (x := .int n) (xs := ns.map .int) ra al (by omega) fun i v h' tk bs hv rd hk => ?_
  rw [PySem.W.maxD_ints] at rd
  cases rd with
  | int _ t => exact ⟨.int _, H, I.kept hk, ⟨_, rfl⟩, q⟩
section
variable {K : PySem.W.Frag} {TL : List Addr} {F : Fm} {S S1 : Sto} {E : List Sl} {N B C : Sto → List Sl → Prop} {R : Sl → Sto → Prop} {Kn : List PyData → Sto → Prop} {Kp : Sl → Sto → Prop} {Kb : Bool → Sto → Prop} {Ki : List Itm → Sto → Prop} {ta tb te : TE} {tr : TA}
theorem ex_maxT (h : EX K TL F te S E fun r S1 => ∃ (n : Int) (ns : List Int), r = .dat (.tuple ((n :: ns).map .int)) ∧ Kp (.dat (.int (ns.foldl max n))) S1) : EX K TL F (tCB (rMaxT K) (tCons te tNil)) S E Kp := fun σ H o Q q =>
  h σ H o _ fun v r S1 H1 o1 e1 s1 v1 ⟨n, ns, er, k⟩ => by
    subst er
    cases v1 with
    | @tup a xs _ hq hn ha =>
      have ex := dpa_ints ha
      subst ex
      exact ⟨a, n, ns, rfl, sqt_le hide_le hq, q (.int _) (.dat (.int _)) S1 H1 o1 e1 s1 (Dp.int _) k⟩
/-! ### in, not in -/
def pInD (a b d : PyData) : Prop := ∃ ds, b = .list ds ∧ SeqAt.shaped a = true ∧ SeqAt.shaped (.list ds) = true ∧ d = .bool (ds.any fun z => PyData.eqv z a)
def pNotInD (a b d : PyData) : Prop := ∃ ds, b = .list ds ∧ SeqAt.shaped a = true ∧ SeqAt.shaped (.list ds) = true ∧ d = .bool (!ds.any fun z => PyData.eqv z a)
instance opp_InD : OpP K (rInD K) pInD := ⟨fun {G H v w a b d Q} le h1 h2 ⟨ds, eb, s1, s2, e⟩ q => by
  subst eb e
  exact ⟨a, ds, dp_l2 (h1.dp le), dp_l2 (h2.dp le), s1, s2, q _ _ (.same (.bl _))⟩⟩
instance opp_NotInD : OpP K (rNotInD K) pNotInD := ⟨fun {G H v w a b d Q} le h1 h2 ⟨ds, eb, s1, s2, e⟩ q => by
  subst eb e
  exact ⟨a, ds, dp_l2 (h1.dp le), dp_l2 (h2.dp le), s1, s2, q _ _ (.same (.bl _))⟩⟩
def pNotIn (a b d : PyData) : Prop := ∃ (i : Int) (ns : List Int), a = .int i ∧ b = .tuple (ns.map .int) ∧ d = .bool (!decide (i ∈ ns))
instance opp_NotIn : OpP K (rIn K true) pNotIn := ⟨fun {G H v w a b d Q} le h1 h2 ⟨i, ns, ea, eb, e⟩ q => by
  subst ea eb e
  obtain ⟨p, us, ev, hq, ha, _⟩ := h2.tup le
  have eu := dpa_ints ha
  subst eu
  refine ⟨p, ns.map V.int, ev, .inr hq, by rw [sh_int h1]; rfl, PL.flat_ints ns, ?_⟩
  rw [sh_int h1]
  show Q (.bl (!inV (.int i) (ns.map V.int))) H
  rw [inV_ints]
  exact q _ _ (.same (.bl _))⟩
/-! ### x is None -/
def isNone : PyData → Bool
  | .none => true
  | _ => false
theorem tx_isN (h : EX K TL F te S E fun r S1 => ∃ d, r = .dat d ∧ Kb (isNone d) S1) : TX K TL F (tB (tIsN te)) S E Kb := fun σ H o Q q =>
  h σ H o _ fun v r S1 H1 o1 e1 s1 v1 ⟨d, er, k⟩ => by
    subst er
    refine ⟨_, rfl, q _ S1 H1 o1 e1 s1 ?_⟩
    have e : decide (v = V.non) = isNone d := by
      have v1 : Dp K (hide (F.OS S1) H1) v d := v1
      cases v1 <;> simp [isNone]
    rw [e]
    exact k
/-! ### xs.extend(new list) -/
theorem sx_extend (h : EX K TL F ta S E fun a S1 => ∃ p, a = .own p ∧ p ∈ dom S1 ∧ EN K TL F te S1 E fun es S2 => ∃ ds, get S2 p = some ds ∧ ds.length + es.length ≤ 1000000 ∧ N (put S2 p (ds ++ es)) E) :
    SX K TL F (tDrop (tBM K "list" rExtend ta (tCons te tNil))) S E N R B C := fun σ H o D n r b c =>
  h σ H o _ fun v a S1 H1 o1 e1 s1 v1 ⟨p, ea, hp, k1⟩ => by
    subst ea
    have ev : v = .ref p := v1
    subst ev
    obtain ⟨zs, hz⟩ := o1.dom_at hp
    refine ⟨tyV_own hz, k1 σ H1 o1 _ fun q es S2 H2 hq o2 e2 s2 ⟨ds, hg, hl, k2⟩ => ?_⟩
    have nq : q ∉ dom S2 := (List.nodup_cons.mp (show (q :: dom S2).Nodup from o2.nd)).1
    have hqp : q ≠ p := fun z => nq (by rw [z]; exact List.mem_map.mpr ⟨_, get_mem hg, rfl⟩)
    obtain ⟨hm, xs, hx, hd⟩ := own_at o2 (show get ((q, es) :: S2) p = some ds by rw [get_tl hqp]; exact hg)
    obtain ⟨us, hu, hdu⟩ := o2.own (q, es) List.mem_cons_self
    have o3 := o2.write hm (dpa_append hd hdu)
    rw [put_tl hqp] at o3
    exact ⟨p, q, xs, us, rfl, rfl, hx, hu, by rw [dpa_len hd, dpa_len hdu]; exact le_size hl, n _ _ _ _ (o3.release hq).1 k2⟩
/-! ### enumerate(list) -/
theorem walk_enumL {a : Addr} {xs : List V} : L2.Walk (Ite K a) xs.length (fun H => SqL K H a xs) (YPair (fun i => some (.int (i : Nat))) (fun i => xs[i]?)) := by
  refine ⟨fun i _ hi q => ⟨xs, xs[i], q, by simp [hi]⟩, fun _ q => ⟨xs, q, Nat.le_refl _⟩, fun i H v H' _ q y => ?_⟩
  obtain ⟨T, x, h1, h2, h3, h4⟩ := y
  exact ⟨T, .int (i : Nat), x, h1, h2, h3, rfl, h4 xs q⟩
theorem ix_enumL (h : AX K TL F tr S E fun rs S1 => ∃ xs, rs = [.dat (.list xs)] ∧ Ki (enumD xs) S1) : IX K TL F (iEnum K tr) S E Ki := fun σ H o R q =>
  h σ H o _ fun vs rs S1 H1 o1 e1 s1 v1 ⟨xs, er, k⟩ => by
    subst er
    cases v1 with
    | cons h1 v1 =>
      cases v1
      cases h1 with
      | @lst a us _ hq ha =>
        refine ⟨a, us, rfl, sql_le hide_le hq, q _ (enumD xs) S1 H1 o1 e1 s1 ?_ k⟩
        rw [enumD_len, ← dpa_len ha]
        refine (walk_enumL (K := K) (a := a) (xs := us)).mono (fun H2 le => sql_le le hq) fun i H2 x H3 hi le y => ?_
        obtain ⟨T, x1, x2, rfl, hT, rfl, g1, g2⟩ := y
        cases g1
        obtain ⟨d2, p3, p4⟩ := dpa_getV ha g2
        exact ⟨_, enumD_get p3, .pair hT (.int _) p4⟩
end
end PL

set_option maxHeartbeats 1000000
namespace PL
open PySem PySem.Spec PyProof.Rows L2
section
variable {K : PySem.W.Frag} {TL : List Addr} {F : Fm} {S S1 : Sto} {E : List Sl} {Kn : List PyData → Sto → Prop} {te : TE} {tt1 : TT} {g g1 : TG} {wi wi1 : TI}
/-- two fors, a test behind the second -/
theorem en_lc2F (vs vs1 : List Nat) (fi : Itm → List Itm) (p : Itm → Itm → Bool) (f : Itm → Itm → PyData) (h : IX K TL F wi S E fun ds S1 => (ds.flatMap fun d => ((fi d).filter (p d)).map (f d)).length < 1000000 ∧
      (∀ F d, d ∈ ds → GX K TL F g d S1 (wipeE E vs) vs fun E2 => IX K TL F wi1 S1 E2 fun es S3 => es = fi d ∧ S3 = S1 ∧
        ∀ F e, e ∈ es → GX K TL F g1 e S1 (wipeE E2 vs1) vs1 fun E3 => TX K TL F tt1 S1 E3 fun b S5 => b = p d e ∧ S5 = S1 ∧ (b = true → EX K TL F te S1 E3 fun r S6 => r = .dat (f d e) ∧ S6 = S1)) ∧
      Kn (ds.flatMap fun d => ((fi d).filter (p d)).map (f d)) S1) : EN K TL F (tLc2 wi g tYes wi1 g1 tt1 te vs vs1) S E Kn := by
  refine en_lc2 vs vs1 (ix_weak h fun ds S1 ⟨hl, hs, hk⟩ => ⟨fun i acc S' => S' = S1 ∧ acc = (ds.take i).flatMap fun d => ((fi d).filter (p d)).map (f d), ⟨rfl, by simp⟩, fun F i d acc S' hd ⟨hS, ha⟩ => ?_, fun acc S' ⟨hS, ha⟩ => ?_⟩)
  · subst hS
    have et : ((ds.take (i + 1)).flatMap fun d => ((fi d).filter (p d)).map (f d)) = ((ds.take i).flatMap fun d => ((fi d).filter (p d)).map (f d)) ++ ((fi d).filter (p d)).map (f d) := by
      rw [List.take_add_one, hd, List.flatMap_append]
      simp
    have lb : (((ds.take i).flatMap fun d => ((fi d).filter (p d)).map (f d)) ++ ((fi d).filter (p d)).map (f d)).length < 1000000 := by
      rw [← et]
      refine Nat.lt_of_le_of_lt ?_ hl
      conv => rhs; rw [← List.take_append_drop (i + 1) ds, List.flatMap_append]
      rw [List.length_append]
      omega
    refine gx_weak (hs F d (List.mem_of_getElem? hd)) fun E2 h2 => tx_yes (iteT (ix_weak h2 fun es S3 ⟨hes, hS3, he⟩ => ⟨fun j acc' S4 => S4 = S' ∧ acc' = acc ++ (((fi d).take j).filter (p d)).map (f d), ⟨hS3, by simp⟩, fun F j e acc' S4 hj ⟨hS4, ha4⟩ => ?_, fun acc' S4 ⟨hS4, ha4⟩ => ?_⟩))
    · subst hS4 hes
      have e4 : (((fi d).take (j + 1)).filter (p d)).map (f d) = (((fi d).take j).filter (p d)).map (f d) ++ (if p d e = true then [f d e] else []) := by
        rw [List.take_add_one, hj, List.filter_append, List.map_append]
        congr 1
        cases hp : p d e <;> simp [hp]
      by_cases hp : p d e = true
      · refine ⟨?_, gx_weak (he F e (List.mem_of_getElem? hj)) fun E3 h3 => tx_weak h3 fun b S5 ⟨hb, hS5, h5⟩ => ?_⟩
        · have h6 : ((((fi d).take (j + 1)).filter (p d)).map (f d)).length ≤ (((fi d).filter (p d)).map (f d)).length := by
            rw [List.length_map, List.length_map]
            exact (List.Sublist.filter (p d) (List.take_sublist (j + 1) (fi d))).length_le
          rw [e4, if_pos hp, List.length_append] at h6
          rw [ha4, ha]
          rw [List.length_append] at lb ⊢
          have h7 : [f d e].length = 1 := rfl
          omega
        · rw [hp] at hb
          subst hb hS5
          refine iteT (ex_weak (h5 rfl) fun r S6 ⟨hr, hS6⟩ => ⟨f d e, hr, hS6, ?_⟩)
          rw [ha4, e4, if_pos hp, List.append_assoc]
      · have hpf : p d e = false := by
          cases q : p d e with
          | true => exact absurd q hp
          | false => rfl
        refine ⟨?_, gx_weak (he F e (List.mem_of_getElem? hj)) fun E3 h3 => tx_weak h3 fun b S5 ⟨hb, hS5, h5⟩ => ?_⟩
        · have h6 : ((((fi d).take j).filter (p d)).map (f d)).length ≤ (((fi d).filter (p d)).map (f d)).length := by
            rw [List.length_map, List.length_map]
            exact (List.Sublist.filter (p d) (List.take_sublist j (fi d))).length_le
          rw [ha4, ha]
          rw [List.length_append] at lb ⊢
          omega
        · rw [hpf] at hb
          subst hb
          refine iteF ⟨hS5, ?_⟩
          rw [ha4, e4, if_neg hp, List.append_nil]
    · subst hes
      refine ⟨hS4, ?_⟩
      rw [ha4, List.take_length, ha, et]
  · rw [hS, ha, List.take_length]
    exact hk
end
end PL

set_option maxHeartbeats 4000000
namespace K1
open PySem PySem.Spec PyProof.Rows L2 PL

/-! ### is_whole -/
def N_is_whole : List Str := ["thing"]
def t_is_whole (K : PySem.W.Frag) : TS := (tRet (tAndV (tCB (rIsi K) (tCons (tVar 0) (tCons (tC (.ty "int")) tNil))) (tNotV (tCB (rIsi K) (tCons (tVar 0) (tCons (tC (.ty "bool")) tNil))))))

/-! ### is_rising -/
def N_is_rising : List Str := ["things", "lower", "upper"]
def t_is_rising (K : PySem.W.Frag) (PT : Addr) : TS := (tRet (NG.tAllG PT (RZ.iZipA K (tCons (tVar 0) (tCons (tSl (rSlU K) (tVar 0) (tPart (tC (.int 1))) tNoPart) tNil))) (gTup K 2 (gCons (gName 1) (gCons (gName 2) gNil))) (tOp (rLtD K) (tVar 1) (tVar 2)) [1, 2]))

/-! ### is_stack -/
def N_is_stack : List Str := ["thing", "doll"]
def t_is_stack (K : PySem.W.Frag) (s_is_whole : Sp) (s_is_rising : Sp) (PT : Addr) : TS := (tSeq (tIfS (tOr (tNot (tB (tCB (rIsi K) (tCons (tVar 0) (tCons (tC (.ty "tuple")) tNil))))) (tTest (tOp (rEqD K) (tCB (PL.rLen K) (tCons (tVar 0) tNil)) (tC (.int 0))))) (tRet (tC (.bl false))) tNext) (tRet (tAndV (NG.tAllG PT (iTup K (tVar 0)) (gName 1) (tCall s_is_whole [] E0 (tCons (tVar 1) tNil)) [1]) (tCall s_is_rising [] E0 (tCons (tVar 0) tNil)))))

/-! ### is_standing -/
def N_is_standing : List Str := ["thing", "dolls", "many", "stack"]
def t_is_standing (K : PySem.W.Frag) (s_is_stack : Sp) (s_dolls_of : Sp) (s_is_rising : Sp) (PT : Addr) : TS := (tSeq (tIfS (tOr (tNot (tB (tCB (rIsi K) (tCons (tVar 0) (tCons (tC (.ty "tuple")) tNil))))) (tNot (tB (NG.tAllG PT (iTup K (tVar 0)) (gName 3) (tCall s_is_stack [] E0 (tCons (tVar 3) tNil)) [3])))) (tRet (tC (.bl false))) tNext) (tSeq (tAsg (tCall s_dolls_of [] E0 (tCons (tVar 0) tNil)) (gName 1)) (tSeq (tAsg (tCB (PL.rLen K) (tCons (tVar 1) tNil)) (gName 2)) (tSeq (tIfS (tOr (tTest (tOp (rLtD K) (tVar 2) (tC (.int 1)))) (tTest (tOp (rI0 fun i j => .bl (decide (j < i))) (tVar 2) (tC (.int 6))))) (tRet (tC (.bl false))) tNext) (tRet (tAndV (tOp (rEqD K) (tVar 1) (tLstRg (tRg2 (tC (.int 1)) (tOp (rAddU K) (tVar 2) (tC (.int 1)))))) (tCall s_is_rising [] E0 (tCons (tVar 0) tNil))))))))

/-! ### dolls_of -/
def N_dolls_of : List Str := ["standing", "stack", "doll"]
def t_dolls_of (K : PySem.W.Frag) : TS := (tRet (tCB (rSortedD K) (tCons (tLc2 (iTup K (tVar 0)) (gName 1) tYes (iTup K (tVar 1)) (gName 2) tYes (tVar 2) [1, 2] [2]) tNil)))

/-! ### standings -/
def N_standings : List Str := ["many", "told", "doll", "standing", "grown"]
def t_standings (K : PySem.W.Frag) (s_grown_by : Sp) : TS := (tSeq (tIfS (tOr (tTest (tOp (rLtD K) (tVar 0) (tC (.int 1)))) (tTest (tOp (rI0 fun i j => .bl (decide (j < i))) (tVar 0) (tC (.int 6))))) (tRet (tLst tNil)) tNext) (tSeq (tAsg (tLst (tCons (tTupF tNil) tNil)) (gName 1)) (tSeq (tFor (iRng2 (tCons (tC (.int 1)) (tCons (tOp (rAddU K) (tVar 0) (tC (.int 1))) tNil))) (gName 2) (tAsg (tLc2 (iList K (tVar 1)) (gName 3) tYes (iList K (tCall s_grown_by [] E0 (tCons (tVar 3) (tCons (tVar 2) tNil)))) (gName 4) tYes (tVar 4) [3, 4] [4]) (gName 1))) (tRet (tCB (rSortedD K) (tCons (tVar 1) tNil))))))

/-! ### grown_by -/
def N_grown_by : List Str := ["standing", "doll", "ways", "at", "stack"]
def t_grown_by (K : PySem.W.Frag) : TS := (tSeq (tAsg (tLst (tCons (tTupF (StX.tStar K (tVar 0) (tCons (tTupF (tCons (tVar 1) tNil)) tNil))) tNil)) (gName 2)) (tSeq (tFor (iEnumT K (tCons (tVar 0) tNil)) (gTup K 2 (gCons (gName 3) (gCons (gName 4) gNil))) (tDrop (tBM K "list" rAppend (tVar 2) (tCons (tOp (rAddU K) (tOp (rAddU K) (tSl (rSlU K) (tVar 0) tNoPart (tPart (tVar 3))) (tTupF (tCons (tTupF (StX.tStar K (tVar 4) (tCons (tVar 1) tNil))) tNil))) (tSl (rSlU K) (tVar 0) (tPart (tOp (rAddU K) (tVar 3) (tC (.int 1)))) tNoPart)) tNil)))) (tRet (tVar 2))))

/-! ### within -/
def N_within : List Str := ["standing", "doll", "stack"]
def t_within (K : PySem.W.Frag) : TS := (tSeq (tFor (iTup K (tVar 0)) (gName 2) (tIfS (tTest (tOp (rIn K false) (tVar 1) (tVar 2))) (tRet (tSl (rSlU K) (tVar 2) tNoPart (tPart (tBMT K (rIndexTI K) (tVar 2) (tCons (tVar 1) tNil))))) tNext)) (tRet (tTupF tNil)))

/-! ### _law_draw -/
def N__law_draw : List Str := ["tape", "many", "prime", "cell", "found"]
def t__law_draw (K : PySem.W.Frag) : TS := (tSeq (tAsg (tC (.int 2305843009213693951)) (gName 2)) (tSeq (tIfS (tTest (tOp (rLtD K) (tOp (rIx K) (tVar 0) (tC (.int 2))) (tVar 1))) (tSeq (tAsg (tC (.int 0)) (gName 3)) (tSeq (tIfS (tTest (tOp (rI0 fun i j => .bl (decide (j < i))) (tCB (PL.rLen K) (tCons (tOp (rIx K) (tVar 0) (tC (.int 0))) tNil)) (tC (.int 0)))) (tAsg (tOp (rIx K) (tOp (rIx K) (tVar 0) (tC (.int 0))) (tOp (rI (fun _ j => 0 < j) fun i j => .int (i % j)) (tOp (rIx K) (tVar 0) (tC (.int 1))) (tCB (PL.rLen K) (tCons (tOp (rIx K) (tVar 0) (tC (.int 0))) tNil)))) (gName 3)) tNext) (tSeq (tIfS (tOr (tTest (tOp (rI0 fun i j => .bl (decide (j ≤ i))) (tOp (rIx K) (tVar 0) (tC (.int 1))) (tCB (PL.rLen K) (tCons (tOp (rIx K) (tVar 0) (tC (.int 0))) tNil)))) (tTest (tOp (rLtD K) (tVar 3) (tOp (rI CPow fun i j => .int (i ^ j.toNat)) (tC (.int 10)) (tC (.int 18)))))) (tSeq (tAsg (tOp (rI (fun _ j => 0 < j) fun i j => .int (i % j)) (tOp (rAddU K) (tVar 3) (tOp (rMulU) (tC (.int 1000003)) (tOp (rIx K) (tVar 0) (tC (.int 1))))) (tVar 2)) (gName 3)) (tSeq (tAsg (tOp (rI (fun _ j => 0 < j) fun i j => .int (i % j)) (tOp (rAddU K) (tOp (rAddU K) (tOp (rMulU) (tVar 3) (tVar 3)) (tOp (rMulU) (tC (.int 1181783497276652981)) (tVar 3))) (tC (.int 2049848353892358983))) (tVar 2)) (gName 3)) (tAsg (tOp (rI (fun _ j => 0 < j) fun i j => .int (i % j)) (tOp (rAddU K) (tOp (rMulU) (tVar 3) (tVar 3)) (tC (.int 1442695040888963407))) (tVar 2)) (gName 3)))) tNext) (tSeq (tAsg (tOp (rAddU K) (tOp (rIx K) (tVar 0) (tC (.int 1))) (tC (.int 1))) (gSub (tVar 0) (tC (.int 1)) rSetL)) (tAsg (tVar 3) (gSub (tVar 0) (tC (.int 2)) rSetL)))))) tNext) (tSeq (tAsg (tOp (rI (fun _ j => 0 < j) fun i j => .int (i % j)) (tOp (rIx K) (tVar 0) (tC (.int 2))) (tVar 1)) (gName 4)) (tSeq (tAsg (tOp (rI CDivW fun i j => .int (i / j)) (tOp (rIx K) (tVar 0) (tC (.int 2))) (tVar 1)) (gSub (tVar 0) (tC (.int 2)) rSetL)) (tRet (tVar 4))))))

/-! ### _law_whole -/
def N__law_whole : List Str := ["item"]
def t__law_whole (K : PySem.W.Frag) : TS := (tRet (tAndV (tCB (rIsi K) (tCons (tVar 0) (tCons (tC (.ty "int")) tNil))) (tNotV (tCB (rIsi K) (tCons (tVar 0) (tCons (tC (.ty "bool")) tNil))))))

/-! ### _law_within -/
def N__law_within : List Str := ["item", "low", "high"]
def t__law_within (K : PySem.W.Frag) (s__law_whole : Sp) : TS := (tRet (tAndV (tCall s__law_whole [] E0 (tCons (tVar 0) tNil)) (tChain (rI0 fun i j => .bl (decide (i ≤ j))) (rI0 fun i j => .bl (decide (i ≤ j))) (tVar 1) (tVar 0) (tVar 2))))

/-! ### _law_like -/
def N__law_like : List Str := ["one", "two", "k"]
def t__law_like (K : PySem.W.Frag) (s__law_like : Sp) : TS := (tSeq (tIfS (tB (tCB (rIsiT K) (tCons (tVar 0) (tCons (tTup (tCons (tC (.ty "list")) (tCons (tC (.ty "tuple")) tNil))) tNil)))) (tSeq (tIfS (tOr (tTest (tOp (rNeD K) (tCB (rIsi K) (tCons (tVar 0) (tCons (tC (.ty "list")) tNil))) (tCB (rIsi K) (tCons (tVar 1) (tCons (tC (.ty "list")) tNil))))) (tTest (tOp (rNeD K) (tCB (rIsi K) (tCons (tVar 0) (tCons (tC (.ty "tuple")) tNil))) (tCB (rIsi K) (tCons (tVar 1) (tCons (tC (.ty "tuple")) tNil)))))) (tRet (tC (.bl false))) tNext) (tSeq (tIfS (tTest (tOp (rNeD K) (tCB (PL.rLen K) (tCons (tVar 0) tNil)) (tCB (PL.rLen K) (tCons (tVar 1) tNil)))) (tRet (tC (.bl false))) tNext) (tRet (tOp (rEqD K) (tLc (iRng1 (tCons (tCB (PL.rLen K) (tCons (tVar 0) tNil)) tNil)) (gName 2) (tNot (tB (tCall s__law_like [] E0 (tCons (tOp (rIx K) (tVar 0) (tVar 2)) (tCons (tOp (rIx K) (tVar 1) (tVar 2)) tNil))))) (tVar 2) [2]) (tLst tNil))))) tNext) (tSeq (tIfS (tB (tCB (rIsiT K) (tCons (tVar 1) (tCons (tTup (tCons (tC (.ty "list")) (tCons (tC (.ty "tuple")) tNil))) tNil)))) (tRet (tC (.bl false))) tNext) (tRet (tAndV (tOp (rEqD K) (tCB (rIsi K) (tCons (tVar 0) (tCons (tC (.ty "bool")) tNil))) (tCB (rIsi K) (tCons (tVar 1) (tCons (tC (.ty "bool")) tNil)))) (tOp (rEqD K) (tVar 0) (tVar 1))))))

/-! ### _law_spoilt -/
def N__law_spoilt : List Str := ["tape", "item", "k", "rest", "course", "at"]
def t__law_spoilt (K : PySem.W.Frag) (s__law_draw : Sp) (s__law_spoilt : Sp) (s__law_any : Sp) (s__law_whole : Sp) : TS := (tSeq (tIfS (tAnd (tB (tCB (rIsiT K) (tCons (tVar 1) (tCons (tTup (tCons (tC (.ty "tuple")) (tCons (tC (.ty "list")) tNil))) tNil)))) (tAnd (tTest (tOp (rI0 fun i j => .bl (decide (j < i))) (tCB (PL.rLen K) (tCons (tVar 1) tNil)) (tC (.int 0)))) (tTest (tOp (rI0 fun i j => .bl (decide (j < i))) (tCall s__law_draw [] E0 (tCons (tVar 0) (tCons (tC (.int 7)) tNil))) (tC (.int 0)))))) (tSeq (tAsg (tCall s__law_draw [] E0 (tCons (tVar 0) (tCons (tCB (PL.rLen K) (tCons (tVar 1) tNil)) tNil))) (gName 2)) (tSeq (tAsg (tCB (rListOf K) (tCons (tVar 1) tNil)) (gName 3)) (tSeq (tAsg (tCall s__law_draw [] E0 (tCons (tVar 0) (tCons (tC (.int 12)) tNil))) (gName 4)) (tSeq (tIfS (tTest (tOp (rLtD K) (tVar 4) (tC (.int 8)))) (tAsg (tCall s__law_spoilt [] E0 (tCons (tVar 0) (tCons (tOp (rIx K) (tVar 3) (tVar 2)) tNil))) (gSub (tVar 3) (tVar 2) rSetL)) (tIfS (tTest (tOp (rEqD K) (tVar 4) (tC (.int 8)))) (tDrop (tBM K "list" rPopAt (tVar 3) (tCons (tVar 2) tNil))) (tIfS (tTest (tOp (rEqD K) (tVar 4) (tC (.int 9)))) (tDrop (tBM K "list" PL.rInsert (tVar 3) (tCons (tVar 2) (tCons (tOp (rIx K) (tVar 3) (tCall s__law_draw [] E0 (tCons (tVar 0) (tCons (tCB (PL.rLen K) (tCons (tVar 3) tNil)) tNil)))) tNil)))) (tIfS (tTest (tOp (rEqD K) (tVar 4) (tC (.int 10)))) (tAsg (tRevL K (tVar 3)) (gName 3)) (tDrop (tBM K "list" PL.rInsert (tVar 3) (tCons (tVar 2) (tCons (tCall s__law_any [] E0 (tCons (tVar 0) (tCons (tC (.int 1)) tNil))) tNil)))))))) (tRet (tIf (tB (tCB (rIsi K) (tCons (tVar 1) (tCons (tC (.ty "tuple")) tNil)))) (tCB (rTupleF K) (tCons (tVar 3) tNil)) (tVar 3))))))) tNext) (tSeq (tIfS (tAnd (tB (tCall s__law_whole [] E0 (tCons (tVar 1) tNil))) (tTest (tOp (rI0 fun i j => .bl (decide (j < i))) (tCall s__law_draw [] E0 (tCons (tVar 0) (tCons (tC (.int 6)) tNil))) (tC (.int 0))))) (tRet (tOp (rAddU K) (tVar 1) (tOp (rIx K) (tLst (tCons (tC (.int 1)) (tCons (tUn (rU fun i => .int (-i)) (tC (.int 1))) (tCons (tC (.int 2)) (tCons (tUn (rU fun i => .int (-i)) (tC (.int 2))) (tCons (tC (.int 9)) (tCons (tC (.int 1000)) tNil))))))) (tCall s__law_draw [] E0 (tCons (tVar 0) (tCons (tC (.int 6)) tNil)))))) tNext) (tSeq (tIfS (tAnd (tB (tCB (rIsi K) (tCons (tVar 1) (tCons (tC (.ty "str")) tNil)))) (tTest (tOp (rI0 fun i j => .bl (decide (j < i))) (tCall s__law_draw [] E0 (tCons (tVar 0) (tCons (tC (.int 3)) tNil))) (tC (.int 0))))) (tSeq (tAsg (tCall s__law_draw [] E0 (tCons (tVar 0) (tCons (tOp (rAddU K) (tCB (PL.rLen K) (tCons (tVar 1) tNil)) (tC (.int 1))) tNil))) (gName 5)) (tRet (tOp (rAddU K) (tOp (rAddU K) (tSl (rSlU K) (tVar 1) tNoPart (tPart (tVar 5))) (tOp (rIx K) (tLst (tCons (tC (.str " ")) (tCons (tC (.str "z")) (tCons (tC (.str "A")) (tCons (tC (.str "|")) (tCons (tC (.str "abcdefgh")) (tCons (tC (.str "")) tNil))))))) (tCall s__law_draw [] E0 (tCons (tVar 0) (tCons (tC (.int 6)) tNil))))) (tSl (rSlU K) (tVar 1) (tPart (tVar 5)) tNoPart)))) tNext) (tSeq (tIfS (tAnd (tB (tCB (rIsiT K) (tCons (tVar 1) (tCons (tTup (tCons (tC (.ty "tuple")) (tCons (tC (.ty "list")) tNil))) tNil)))) (tTest (tOp (rEqD K) (tCall s__law_draw [] E0 (tCons (tVar 0) (tCons (tC (.int 2)) tNil))) (tC (.int 0))))) (tRet (tIf (tB (tCB (rIsi K) (tCons (tVar 1) (tCons (tC (.ty "tuple")) tNil)))) (tCB (rListOf K) (tCons (tVar 1) tNil)) (tCB (rTupleF K) (tCons (tVar 1) tNil)))) tNext) (tRet (tCall s__law_any [] E0 (tCons (tVar 0) (tCons (tC (.int 2)) tNil))))))))

/-! ### _law_rises -/
def N__law_rises : List Str := ["some", "k"]
def t__law_rises (K : PySem.W.Frag) : TS := (tRet (tOp (rEqD K) (tLc (iRng2 (tCons (tC (.int 1)) (tCons (tCB (PL.rLen K) (tCons (tVar 0) tNil)) tNil))) (gName 1) (tNot (tTest (tOp (rLtD K) (tOp (rIx K) (tVar 0) (tOp (rI0 fun i j => .int (i - j)) (tVar 1) (tC (.int 1)))) (tOp (rIx K) (tVar 0) (tVar 1))))) (tVar 1) [1]) (tLst tNil)))

/-! ### _law_any -/
def N__law_any : List Str := ["tape", "deep", "course", "some", "k"]
def t__law_any (K : PySem.W.Frag) (s__law_draw : Sp) (s__law_any : Sp) : TS := (tSeq (tAsg (tCall s__law_draw [] E0 (tCons (tVar 0) (tCons (tC (.int 13)) tNil))) (gName 2)) (tSeq (tIfS (tAnd (tTest (tOp (rLtD K) (tVar 2) (tC (.int 4)))) (tTest (tOp (rI0 fun i j => .bl (decide (j < i))) (tVar 1) (tC (.int 0))))) (tSeq (tAsg (tLc (iRng1 (tCons (tCall s__law_draw [] E0 (tCons (tVar 0) (tCons (tC (.int 4)) tNil))) tNil)) (gName 4) tYes (tCall s__law_any [] E0 (tCons (tVar 0) (tCons (tOp (rI0 fun i j => .int (i - j)) (tVar 1) (tC (.int 1))) tNil))) [4]) (gName 3)) (tRet (tOp (rIx K) (tLst (tCons (tVar 3) (tCons (tCB (rTupleF K) (tCons (tVar 3) tNil)) (tCons (tCB (rTupleF K) (tCons (tVar 3) tNil)) (tCons (tCB (rTupleF K) (tCons (tVar 3) tNil)) tNil))))) (tVar 2)))) tNext) (tSeq (tIfS (tTest (tOp (rLtD K) (tVar 2) (tC (.int 8)))) (tRet (tOp (rIx K) (tLst (tCons (tOp (rI0 fun i j => .int (i - j)) (tCall s__law_draw [] E0 (tCons (tVar 0) (tCons (tC (.int 12)) tNil))) (tC (.int 2))) (tCons (tCall s__law_draw [] E0 (tCons (tVar 0) (tCons (tOp (rI CPow fun i j => .int (i ^ j.toNat)) (tC (.int 10)) (tC (.int 12))) tNil))) (tCons (tC (.int 0)) (tCons (tC (.int 7)) tNil))))) (tCB (PL.rMax2) (tCons (tC (.int 0)) (tCons (tOp (rI0 fun i j => .int (i - j)) (tVar 2) (tC (.int 4))) tNil))))) tNext) (tSeq (tAsg (tLst (tCons (tC (.str "")) (tCons (tC (.str " ")) (tCons (tC (.str "a")) (tCons (tC (.str "open")) (tCons (tC (.str "nest")) (tCons (tC (.str "1")) (tCons (tC (.str "A")) (tCons (tC (.str "a\nb")) tNil))))))))) (gName 3)) (tRet (tOp (rIx K) (tLst (tCons (tC (.bl true)) (tCons (tC (.bl false)) (tCons (tC .non) (tCons (tOp (rIx K) (tVar 3) (tCall s__law_draw [] E0 (tCons (tVar 0) (tCons (tC (.int 8)) tNil)))) (tCons (tTupF (tCons (tC (.int 1)) (tCons (tC (.int 2)) tNil))) tNil)))))) (tOp (rI0 fun i j => .int (i - j)) (tVar 2) (tC (.int 8)))))))))

/-! ### _law_standing -/
def N__law_standing : List Str := ["tape", "many", "stacks", "doll", "at"]
def t__law_standing (K : PySem.W.Frag) (s__law_draw : Sp) : TS := (tSeq (tAsg (tLst tNil) (gName 2)) (tSeq (tFor (iRng2 (tCons (tC (.int 1)) (tCons (tOp (rAddU K) (tVar 1) (tC (.int 1))) tNil))) (gName 3) (tSeq (tAsg (tCall s__law_draw [] E0 (tCons (tVar 0) (tCons (tOp (rAddU K) (tCB (PL.rLen K) (tCons (tVar 2) tNil)) (tC (.int 1))) tNil))) (gName 4)) (tIfS (tTest (tOp (rLtD K) (tVar 4) (tCB (PL.rLen K) (tCons (tVar 2) tNil)))) (tAsg (tOp (rAddU K) (tOp (rIx K) (tVar 2) (tVar 4)) (tTupF (tCons (tVar 3) tNil))) (gSub (tVar 2) (tVar 4) rSetL)) (tDrop (tBM K "list" rAppend (tVar 2) (tCons (tTupF (tCons (tVar 3) tNil)) tNil)))))) (tRet (tCB (rTupleF K) (tCons (tCB (rSortedD K) (tCons (tVar 2) tNil)) tNil)))))

/-! ### _law_in -/
def N__law_in : List Str := ["standing", "doll", "stack", "one"]
def t__law_in (K : PySem.W.Frag) : TS := (tSeq (tFor (iTup K (tVar 0)) (gName 2) (tIfS (tTest (tOp (rIn K false) (tVar 1) (tVar 2))) (tRet (tCB (rTupleF K) (tCons (tLc (iTup K (tVar 2)) (gName 3) (tTest (tOp (rLtD K) (tVar 3) (tVar 1))) (tVar 3) [3]) tNil))) tNext)) (tRet (tC .non)))

/-! ### _law_every -/
def N__law_every : List Str := ["many", "found", "doll", "longer", "stacks", "at"]
def t__law_every (K : PySem.W.Frag) : TS := (tSeq (tAsg (tLst (tCons (tLst tNil) tNil)) (gName 1)) (tSeq (tFor (iRng2 (tCons (tC (.int 1)) (tCons (tOp (rAddU K) (tVar 0) (tC (.int 1))) tNil))) (gName 2) (tSeq (tAsg (tLst tNil) (gName 3)) (tSeq (tFor (iList K (tVar 1)) (gName 4) (tSeq (tDrop (tBM K "list" rAppend (tVar 3) (tCons (tOp (rAddU K) (tVar 4) (tLst (tCons (tTupF (tCons (tVar 2) tNil)) tNil))) tNil))) (tFor (iRng1 (tCons (tCB (PL.rLen K) (tCons (tVar 4) tNil)) tNil)) (gName 5) (tDrop (tBM K "list" rAppend (tVar 3) (tCons (tOp (rAddU K) (tOp (rAddU K) (tSl (rSlU K) (tVar 4) tNoPart (tPart (tVar 5))) (tLst (tCons (tOp (rAddU K) (tOp (rIx K) (tVar 4) (tVar 5)) (tTupF (tCons (tVar 2) tNil))) tNil))) (tSl (rSlU K) (tVar 4) (tPart (tOp (rAddU K) (tVar 5) (tC (.int 1)))) tNoPart)) tNil)))))) (tAsg (tVar 3) (gName 1))))) (tRet (tCB (rSortedD K) (tCons (tLc (iList K (tVar 1)) (gName 4) tYes (tCB (rTupleF K) (tCons (tCB (rSortedD K) (tCons (tVar 4) tNil)) tNil)) [4]) tNil)))))

/-! ### _law_is_standing -/
def N__law_is_standing : List Str := ["item", "stack", "some", "one"]
def t__law_is_standing (K : PySem.W.Frag) (s__law_within : Sp) (s__law_rises : Sp) : TS := (tSeq (tIfS (tOr (tNot (tB (tCB (rIsi K) (tCons (tVar 0) (tCons (tC (.ty "tuple")) tNil))))) (tTest (tOp (rEqD K) (tVar 0) (tTupF tNil)))) (tRet (tC (.bl false))) tNext) (tSeq (tFor (iTup K (tVar 0)) (gName 1) (tSeq (tIfS (tOr (tNot (tB (tCB (rIsi K) (tCons (tVar 1) (tCons (tC (.ty "tuple")) tNil))))) (tOr (tTest (tOp (rEqD K) (tVar 1) (tTupF tNil))) (tTest (tOp (rNeD K) (tLc (iTup K (tVar 1)) (gName 3) (tNot (tB (tCall s__law_within [] E0 (tCons (tVar 3) (tCons (tC (.int 1)) (tCons (tC (.int 6)) tNil)))))) (tC (.int 1)) [3]) (tLst tNil))))) (tRet (tC (.bl false))) tNext) (tIfS (tNot (tB (tCall s__law_rises [] E0 (tCons (tVar 1) tNil)))) (tRet (tC (.bl false))) tNext))) (tSeq (tAsg (tCB (rSortedD K) (tCons (tCB (rSumL K) (tCons (tLc (iTup K (tVar 0)) (gName 1) tYes (tCB (rListOf K) (tCons (tVar 1) tNil)) [1]) (tCons (tLst tNil) tNil))) tNil)) (gName 2)) (tRet (tAndV (tCall s__law_rises [] E0 (tCons (tVar 0) tNil)) (tOp (rEqD K) (tVar 2) (tLstRg (tRg2 (tC (.int 1)) (tOp (rAddU K) (tC (.int 1)) (tCB (PL.rLen K) (tCons (tVar 2) tNil)))))))))))

/-! ### law -/
def N_law : List Str := ["script", "tape", "turn", "many", "standing", "things", "k", "thing", "doll", "most"]
def t_law (K : PySem.W.Frag) (s__law_draw : Sp) (s__law_standing : Sp) (s__law_any : Sp) (s__law_spoilt : Sp) (s__law_like : Sp) (s__law_is_standing : Sp) (s_is_standing : Sp) (s__law_in : Sp) (s_within : Sp) (s__law_every : Sp) (s_standings : Sp) : TS := (tSeq (tAsg (tLst (tCons (tCB (rListOf K) (tCons (tVar 0) tNil)) (tCons (tC (.int 0)) (tCons (tC (.int 0)) tNil)))) (gName 1)) (tSeq (tFor (iRng1 (tCons (tC (.int 4)) tNil)) (gName 2) (tSeq (tAsg (tOp (rAddU K) (tC (.int 1)) (tCall s__law_draw [] E0 (tCons (tVar 1) (tCons (tC (.int 6)) tNil)))) (gName 3)) (tSeq (tAsg (tCall s__law_standing [] E0 (tCons (tVar 1) (tCons (tVar 3) tNil))) (gName 4)) (tSeq (tAsg (tLst (tCons (tVar 4) (tCons (tCB (rListOf K) (tCons (tVar 4) tNil)) (tCons (tRevT K (tVar 4)) (tCons (tSl (rSlU K) (tVar 4) (tPart (tC (.int 1))) tNoPart) (tCons (tTupF tNil) (tCons (tTupF (tCons (tTupF tNil) tNil)) (tCons (tTupF (tCons (tTupF (tCons (tC (.int 7)) tNil)) tNil)) tNil)))))))) (gName 5)) (tSeq (tDrop (tBM K "list" rAppend (tVar 5) (tCons (tOp (rAddU K) (tVar 4) (tTupF (tCons (tTupF (tCons (tOp (rAddU K) (tVar 3) (tC (.int 1))) tNil)) tNil))) tNil))) (tSeq (tAsg (tOp (rAddU K) (tVar 5) (tLst (tCons (tTupF (tCons (tTupF (tCons (tC (.bl true)) tNil)) tNil)) (tCons (tTupF (tCons (tTupF (tCons (tC (.int 1)) (tCons (tC (.int 1)) tNil))) tNil)) (tCons (tTupF (tCons (tTupF (tCons (tC (.int 2)) (tCons (tC (.int 1)) tNil))) tNil)) (tCons (tCall s__law_any [] E0 (tCons (tVar 1) (tCons (tC (.int 3)) tNil))) tNil)))))) (gName 5)) (tSeq (tDrop (tBM K "list" rAppend (tVar 5) (tCons (tCB (rTupleF K) (tCons (tLc (iRng2 (tCons (tC (.int 1)) (tCons (tC (.int 8)) tNil))) (gName 8) tYes (tTupF (tCons (tVar 8) tNil)) [8]) tNil)) tNil))) (tSeq (tFor (iRng1 (tCons (tC (.int 10)) tNil)) (gName 6) (tSeq (tDrop (tBM K "list" rAppend (tVar 5) (tCons (tCall s__law_spoilt [] E0 (tCons (tVar 1) (tCons (tVar 4) tNil))) tNil))) (tDrop (tBM K "list" rAppend (tVar 5) (tCons (tCall s__law_spoilt [] E0 (tCons (tVar 1) (tCons (tOp (rIx K) (tVar 5) (tUn (rU fun i => .int (-i)) (tC (.int 1)))) tNil))) tNil))))) (tSeq (tFor (iList K (tVar 5)) (gName 7) (tIfS (tNot (tB (tCall s__law_like [] E0 (tCons (tCall s_is_standing [] E0 (tCons (tVar 7) tNil)) (tCons (tCall s__law_is_standing [] E0 (tCons (tVar 7) tNil)) tNil))))) (tRet (tC (.bl false))) tNext)) (tFor (iRng2 (tCons (tC (.int 1)) (tCons (tOp (rAddU K) (tVar 3) (tC (.int 1))) tNil))) (gName 8) (tIfS (tNot (tB (tCall s__law_like [] E0 (tCons (tCall s_within [] E0 (tCons (tVar 4) (tCons (tVar 8) tNil))) (tCons (tCall s__law_in [] E0 (tCons (tVar 4) (tCons (tVar 8) tNil))) tNil))))) (tRet (tC (.bl false))) tNext))))))))))) (tSeq (tAsg (tOp (rIx K) (tLst (tCons (tC (.int 1)) (tCons (tC (.int 2)) (tCons (tC (.int 3)) (tCons (tC (.int 4)) (tCons (tC (.int 5)) (tCons (tC (.int 6)) tNil))))))) (tCall s__law_draw [] E0 (tCons (tVar 1) (tCons (tC (.int 6)) tNil)))) (gName 9)) (tRet (tAndV (tCall s__law_like [] E0 (tCons (tCall s_standings [] E0 (tCons (tVar 9) tNil)) (tCons (tCall s__law_every [] E0 (tCons (tVar 9) tNil)) tNil))) (tOp (rEqD K) (tCB (PL.rLen K) (tCons (tCall s_standings [] E0 (tCons (tVar 9) tNil)) tNil)) (tOp (rIx K) (tTupF (tCons (tC (.int 1)) (tCons (tC (.int 2)) (tCons (tC (.int 5)) (tCons (tC (.int 15)) (tCons (tC (.int 52)) (tCons (tC (.int 203)) tNil))))))) (tOp (rI0 fun i j => .int (i - j)) (tVar 9) (tC (.int 1))))))))))
end K1

set_option maxHeartbeats 4000000
namespace K1
open PySem PySem.Spec PyProof.Rows L2 PL
def top (i : Nat) : Stmt := PySem.Challenge.pw_nestdolls_k01_standings_known_and_all_to.main.body.getD i (.Pass ⟨0, 0, 0, 0⟩)
theorem boot_all : bootBuiltins "all" = some (.builtin "all") := by decide +kernel
structure Blt (mg : Str → Option Value) (cv : Str → Value) : Prop where
  b_all : mg "all" = none
  b_bool : mg "bool" = none
  b_enumerate : mg "enumerate" = none
  b_int : mg "int" = none
  b_isinstance : mg "isinstance" = none
  b_len : mg "len" = none
  b_list : mg "list" = none
  b_max : mg "max" = none
  b_range : mg "range" = none
  b_sorted : mg "sorted" = none
  b_str : mg "str" = none
  b_sum : mg "sum" = none
  b_tuple : mg "tuple" = none
  b_zip : mg "zip" = none
  c_MOST_DOLLS : mg "MOST_DOLLS" = some (cv "MOST_DOLLS") ∧ RelV (.int 6) (cv "MOST_DOLLS")
theorem sc_is_whole : FnScope N_is_whole ["thing"] (defScope (top 2)) := ⟨rfl, rfl, rfl, by decide +kernel, rfl, by decide +kernel, by decide +kernel⟩
theorem d_is_whole {P : Program} {w : World} {K : PySem.W.Frag} {mg : Str → Option Value} {base : Heap} {f : Addr} {A : Around} {outer : List Env} {s : Shared} {H : Hp} {E : XK} {k : Nat} {cv : Str → Value} {cdv : Value} (B : Blt mg cv) (hr : Room k (A.deeper (envOfC "is_whole" (defScope (top 2)) s.heap.objs.size f cdv))) : PSs (cxOf CX0 P w K mg base N_is_whole "is_whole" (defScope (top 2)) f cdv A outer s H E).nox (defBody (top 2)) (t_is_whole K) :=
  (pss_one (ps_ret (pe_and (pe_callB call_isi rfl B.b_isinstance PyProof.Rows.boot_isinstance (pa_cons (pv 0) (pa_cons (pe_bltn rfl B.b_int PyProof.Rows.boot_int rfl) pa_nil))) (pe_one (pe_not (pe_callB call_isi rfl B.b_isinstance PyProof.Rows.boot_isinstance (pa_cons (pv 0) (pa_cons (pe_bltn rfl B.b_bool PyProof.Rows.boot_bool rfl) pa_nil))))))))
theorem sc_is_rising : FnScope N_is_rising ["things"] (defScope (top 3)) := ⟨rfl, rfl, rfl, by decide +kernel, rfl, by decide +kernel, by decide +kernel⟩
theorem d_is_rising {P : Program} {w : World} {K : PySem.W.Frag} {mg : Str → Option Value} {base : Heap} {f : Addr} {A : Around} {outer : List Env} {s : Shared} {H : Hp} {E : XK} {k : Nat} {cv : Str → Value} {c PT : Addr} {kG : Nat} (B : Blt mg cv) (hr : Room k (A.deeper (envOfC "is_rising" (defScope (top 3)) s.heap.objs.size f (.ref c)))) (TB : LamX.TabB base mg c PT) (HG : kG + 1 ≤ k) : PSs (cxOf CX0 P w K mg base N_is_rising "is_rising" (defScope (top 3)) f (.ref c) A outer s H E).nox (defBody (top 3)) (t_is_rising K PT) :=
  (pss_one (ps_ret (NG.pe_allG (own := [("lower", 1), ("upper", 2)]) (wi := (RZ.iZipA K (tCons (tVar 0) (tCons (tSl (rSlU K) (tVar 0) (tPart (tC (.int 1))) tNoPart) tNil)))) (g := (gTup K 2 (gCons (gName 1) (gCons (gName 2) gNil)))) (te := (tOp (rLtD K) (tVar 1) (tVar 2))) (k := kG) (hr.mono HG) rfl B.b_all boot_all TB rfl rfl sc_is_rising.nd (blkOk_by (N := N_is_rising) (sc := defScope (top 3)) (by decide +kernel)) rfl (by decide +kernel) rfl (RZ.pi_zipA rfl B.b_zip (pa_cons (pv 0) (pa_cons (pe_slice sl_U (pv 0) (po_some pe_int) po_none) pa_nil))) (fun _ _ _ _ _ _ _ => (pg_tup rfl (pgs_cons (pg_name (i := 1) sc_is_rising.nd rfl (Or.inl rfl)) (pgs_cons (pg_name (i := 2) sc_is_rising.nd rfl (Or.inl rfl)) pgs_nil)))) (fun _ _ _ _ _ _ _ hrG => (pe_cmpR (op_ltD hrG.units) (pv 1) (pv 2) (nomark _))))))
theorem sc_is_stack : FnScope N_is_stack ["thing"] (defScope (top 4)) := ⟨rfl, rfl, rfl, by decide +kernel, rfl, by decide +kernel, by decide +kernel⟩
theorem d_is_stack {P : Program} {w : World} {K : PySem.W.Frag} {mg : Str → Option Value} {base : Heap} {f : Addr} {A : Around} {outer : List Env} {s : Shared} {H : Hp} {E : XK} {k : Nat} {cv : Str → Value} {c PT : Addr} {kG : Nat} {k_is_whole : Nat} {s_is_whole : Sp} {k_is_rising : Nat} {s_is_rising : Sp} (B : Blt mg cv) (hr : Room k (A.deeper (envOfC "is_stack" (defScope (top 4)) s.heap.objs.size f (.ref c)))) (F_is_whole : Fu P w K mg base "is_whole" k_is_whole ["thing"] s_is_whole) (H_is_whole : k_is_whole ≤ kG) (F_is_rising : Fu P w K mg base "is_rising" k_is_rising ["things"] s_is_rising) (H_is_rising : k_is_rising ≤ k) (TB : LamX.TabB base mg c PT) (HG : kG + 1 ≤ k) : PSs (cxOf CX0 P w K mg base N_is_stack "is_stack" (defScope (top 4)) f (.ref c) A outer s H E).nox (defBody (top 4)) (t_is_stack K s_is_whole s_is_rising PT) :=
  (pss_cons (ps_if (PW.pt (pw_or (pt_not (pt_val (pe_callB call_isi rfl B.b_isinstance PyProof.Rows.boot_isinstance (pa_cons (pv 0) (pa_cons (pe_bltn rfl B.b_tuple PyProof.Rows.boot_tuple rfl) pa_nil))))) (pw_or1 (pt_cmpR (op_eqD hr.units) (pe_callB call_lenU rfl B.b_len PySem.boot_len (pa_cons (pv 0) pa_nil)) pe_int (nomark _))))) (pss_one (ps_ret pe_bl)) pss_nil) (pss_one (ps_ret (pe_and (NG.pe_allG (own := [("doll", 1)]) (wi := (iTup K (tVar 0))) (g := (gName 1)) (te := (tCall s_is_whole [] E0 (tCons (tVar 1) tNil))) (k := kG) (hr.mono HG) rfl B.b_all boot_all TB rfl rfl sc_is_stack.nd (blkOk_by (N := N_is_stack) (sc := defScope (top 4)) (by decide +kernel)) rfl (by decide +kernel) rfl (pi_tup (pv 0)) (fun _ _ _ _ _ _ _ => (pg_name (i := 1) sc_is_stack.nd rfl (Or.inl rfl))) (fun _ _ _ _ _ _ _ hrG => (pe_fu F_is_whole (hrG.mono H_is_whole) rfl (pa_cons (pv 1) pa_nil)))) (pe_one (pe_fu F_is_rising (hr.mono H_is_rising) rfl (pa_cons (pv 0) pa_nil)))))))
theorem sc_is_standing : FnScope N_is_standing ["thing"] (defScope (top 5)) := ⟨rfl, rfl, rfl, by decide +kernel, rfl, by decide +kernel, by decide +kernel⟩
theorem d_is_standing {P : Program} {w : World} {K : PySem.W.Frag} {mg : Str → Option Value} {base : Heap} {f : Addr} {A : Around} {outer : List Env} {s : Shared} {H : Hp} {E : XK} {k : Nat} {cv : Str → Value} {c PT : Addr} {kG : Nat} {k_is_stack : Nat} {s_is_stack : Sp} {k_dolls_of : Nat} {s_dolls_of : Sp} {k_is_rising : Nat} {s_is_rising : Sp} (B : Blt mg cv) (hr : Room k (A.deeper (envOfC "is_standing" (defScope (top 5)) s.heap.objs.size f (.ref c)))) (F_is_stack : Fu P w K mg base "is_stack" k_is_stack ["thing"] s_is_stack) (H_is_stack : k_is_stack ≤ kG) (F_dolls_of : Fu P w K mg base "dolls_of" k_dolls_of ["standing"] s_dolls_of) (H_dolls_of : k_dolls_of ≤ k) (F_is_rising : Fu P w K mg base "is_rising" k_is_rising ["things"] s_is_rising) (H_is_rising : k_is_rising ≤ k) (TB : LamX.TabB base mg c PT) (HG : kG + 1 ≤ k) : PSs (cxOf CX0 P w K mg base N_is_standing "is_standing" (defScope (top 5)) f (.ref c) A outer s H E).nox (defBody (top 5)) (t_is_standing K s_is_stack s_dolls_of s_is_rising PT) :=
  (pss_cons (ps_if (PW.pt (pw_or (pt_not (pt_val (pe_callB call_isi rfl B.b_isinstance PyProof.Rows.boot_isinstance (pa_cons (pv 0) (pa_cons (pe_bltn rfl B.b_tuple PyProof.Rows.boot_tuple rfl) pa_nil))))) (pw_or1 (pt_not (pt_val (NG.pe_allG (own := [("stack", 3)]) (wi := (iTup K (tVar 0))) (g := (gName 3)) (te := (tCall s_is_stack [] E0 (tCons (tVar 3) tNil))) (k := kG) (hr.mono HG) rfl B.b_all boot_all TB rfl rfl sc_is_standing.nd (blkOk_by (N := N_is_standing) (sc := defScope (top 5)) (by decide +kernel)) rfl (by decide +kernel) rfl (pi_tup (pv 0)) (fun _ _ _ _ _ _ _ => (pg_name (i := 3) sc_is_standing.nd rfl (Or.inl rfl))) (fun _ _ _ _ _ _ _ hrG => (pe_fu F_is_stack (hrG.mono H_is_stack) rfl (pa_cons (pv 3) pa_nil))))))))) (pss_one (ps_ret pe_bl)) pss_nil) (pss_cons (ps_set (i := 1) sc_is_standing.nd rfl (Or.inl rfl) (pe_fu F_dolls_of (hr.mono H_dolls_of) rfl (pa_cons (pv 0) pa_nil))) (pss_cons (ps_set (i := 2) sc_is_standing.nd rfl (Or.inl rfl) (pe_callB call_lenU rfl B.b_len PySem.boot_len (pa_cons (pv 1) pa_nil))) (pss_cons (ps_if (PW.pt (pw_or (pt_cmpR (op_ltD hr.units) (pv 2) pe_int (nomark _)) (pw_or1 (pt_cmpR op_gt (pv 2) (pe_glob rfl B.c_MOST_DOLLS.1 B.c_MOST_DOLLS.2) (nomark _))))) (pss_one (ps_ret pe_bl)) pss_nil) (pss_one (ps_ret (pe_and (pe_cmpR (op_eqD hr.units) (pv 1) (pe_listRg rfl rfl B.b_list (prg_2 rfl B.b_range pe_int (pe_op op_addU (pv 2) pe_int))) (nomark _)) (pe_one (pe_fu F_is_rising (hr.mono H_is_rising) rfl (pa_cons (pv 0) pa_nil))))))))))
theorem sc_dolls_of : FnScope N_dolls_of ["standing"] (defScope (top 6)) := ⟨rfl, rfl, rfl, by decide +kernel, rfl, by decide +kernel, by decide +kernel⟩
theorem d_dolls_of {P : Program} {w : World} {K : PySem.W.Frag} {mg : Str → Option Value} {base : Heap} {f : Addr} {A : Around} {outer : List Env} {s : Shared} {H : Hp} {E : XK} {k : Nat} {cv : Str → Value} {cdv : Value} (B : Blt mg cv) (hr : Room k (A.deeper (envOfC "dolls_of" (defScope (top 6)) s.heap.objs.size f cdv))) : PSs (cxOf CX0 P w K mg base N_dolls_of "dolls_of" (defScope (top 6)) f cdv A outer s H E).nox (defBody (top 6)) (t_dolls_of K) :=
  (pss_one (ps_ret (pe_callB (cr_sortedD hr.units) rfl B.b_sorted PyProof.Rows.boot_sorted (pa_cons (pe_lc2 (own := [("stack", 1), ("doll", 2)]) (vs1 := [2]) (g := (gName 1)) (tt := tYes) (wi1 := (iTup K (tVar 1))) (g1 := (gName 2)) (tt1 := tYes) (te := (tVar 2)) rfl sc_dolls_of.nd (pi_tup (pv 0)) (blkOk_by (N := N_dolls_of) (sc := defScope (top 6)) (by decide +kernel)) (by decide) (fun _ _ _ _ _ => (pg_name (i := 1) sc_dolls_of.nd rfl (Or.inl rfl))) (fun _ _ _ _ _ => pts_nil) (fun _ _ _ _ _ => (pi_tup (pv 1))) (fun _ _ _ _ _ => (pg_name (i := 2) sc_dolls_of.nd rfl (Or.inl rfl))) (fun _ _ _ _ _ => pts_nil) (fun _ _ _ _ _ => (pv 2))) pa_nil))))
theorem sc_standings : FnScope N_standings ["many"] (defScope (top 7)) := ⟨rfl, rfl, rfl, by decide +kernel, rfl, by decide +kernel, by decide +kernel⟩
theorem d_standings {P : Program} {w : World} {K : PySem.W.Frag} {mg : Str → Option Value} {base : Heap} {f : Addr} {A : Around} {outer : List Env} {s : Shared} {H : Hp} {E : XK} {k : Nat} {cv : Str → Value} {cdv : Value} {k_grown_by : Nat} {s_grown_by : Sp} (B : Blt mg cv) (hr : Room k (A.deeper (envOfC "standings" (defScope (top 7)) s.heap.objs.size f cdv))) (F_grown_by : Fu P w K mg base "grown_by" k_grown_by ["standing", "doll"] s_grown_by) (H_grown_by : k_grown_by ≤ k) : PSs (cxOf CX0 P w K mg base N_standings "standings" (defScope (top 7)) f cdv A outer s H E).nox (defBody (top 7)) (t_standings K s_grown_by) :=
  (pss_cons (ps_if (PW.pt (pw_or (pt_cmpR (op_ltD hr.units) (pv 0) pe_int (nomark _)) (pw_or1 (pt_cmpR op_gt (pv 0) (pe_glob rfl B.c_MOST_DOLLS.1 B.c_MOST_DOLLS.2) (nomark _))))) (pss_one (ps_ret (pe_lst pa_nil))) pss_nil) (pss_cons (ps_set (i := 1) sc_standings.nd rfl (Or.inl rfl) (pe_lst (pa_cons (pe_tupF pa_nil) pa_nil))) (pss_cons (ps_for PassesOwn.never rfl (pi_range2 rfl B.b_range (pa_cons pe_int (pa_cons (pe_op op_addU (pv 0) pe_int) pa_nil))) (pg_name (i := 2) sc_standings.nd rfl (Or.inr rfl)) (pss_one (ps_setLc2 (i := 1) (own := [("standing", 3), ("grown", 4)]) (vs1 := [4]) (g := (gName 3)) (tt := tYes) (wi1 := (iList K (tCall s_grown_by [] E0 (tCons (tVar 3) (tCons (tVar 2) tNil))))) (g1 := (gName 4)) (tt1 := tYes) (te := (tVar 4)) rfl sc_standings.nd rfl rfl (sw_true rfl rfl rfl (by decide +kernel)) (pi_list (pv 1)) (blkOk_by (N := N_standings) (sc := defScope (top 7)) (by decide +kernel)) (by decide) (fun _ _ _ _ _ => (pg_name (i := 3) sc_standings.nd rfl (Or.inl rfl))) (fun _ _ _ _ _ => pts_nil) (fun _ _ _ _ _ => (pi_list (pe_fu F_grown_by (hr.mono H_grown_by) rfl (pa_cons (pv 3) (pa_cons (pv 2) pa_nil))))) (fun _ _ _ _ _ => (pg_name (i := 4) sc_standings.nd rfl (Or.inl rfl))) (fun _ _ _ _ _ => pts_nil) (fun _ _ _ _ _ => (pv 4))))) (pss_one (ps_ret (pe_callB (cr_sortedD hr.units) rfl B.b_sorted PyProof.Rows.boot_sorted (pa_cons (pv 1) pa_nil)))))))
theorem sc_grown_by : FnScope N_grown_by ["standing", "doll"] (defScope (top 8)) := ⟨rfl, rfl, rfl, by decide +kernel, rfl, by decide +kernel, by decide +kernel⟩
theorem d_grown_by {P : Program} {w : World} {K : PySem.W.Frag} {mg : Str → Option Value} {base : Heap} {f : Addr} {A : Around} {outer : List Env} {s : Shared} {H : Hp} {E : XK} {k : Nat} {cv : Str → Value} {cdv : Value} (B : Blt mg cv) (hr : Room k (A.deeper (envOfC "grown_by" (defScope (top 8)) s.heap.objs.size f cdv))) : PSs (cxOf CX0 P w K mg base N_grown_by "grown_by" (defScope (top 8)) f cdv A outer s H E).nox (defBody (top 8)) (t_grown_by K) :=
  (pss_cons (ps_set (i := 2) sc_grown_by.nd rfl (Or.inl rfl) (pe_lst (pa_cons (pe_tupF (StX.pa_star (pv 0) (pa_cons (pe_tupF (pa_cons (pv 1) pa_nil)) pa_nil))) pa_nil))) (pss_cons (ps_for PassesOwn.never rfl (pi_enumT rfl B.b_enumerate (pa_cons (pv 0) pa_nil)) (pg_tup rfl (pgs_cons (pg_name (i := 3) sc_grown_by.nd rfl (Or.inl rfl)) (pgs_cons (pg_name (i := 4) sc_grown_by.nd rfl (Or.inl rfl)) pgs_nil))) (pss_one (ps_expr (pe_bm PySem.F.plainAttrs_list PySem.F.slot_list_append PySem.F.type_list_append mt_append (pv 2) (pa_cons (pe_op op_addU (pe_op op_addU (pe_slice sl_U (pv 0) po_none (po_some (pv 3))) (pe_tupF (pa_cons (pe_tupF (StX.pa_star (pv 4) (pa_cons (pv 1) pa_nil))) pa_nil))) (pe_slice sl_U (pv 0) (po_some (pe_op op_addU (pv 3) pe_int)) po_none)) pa_nil))))) (pss_one (ps_ret (pv 2)))))
theorem sc_within : FnScope N_within ["standing", "doll"] (defScope (top 9)) := ⟨rfl, rfl, rfl, by decide +kernel, rfl, by decide +kernel, by decide +kernel⟩
theorem d_within {P : Program} {w : World} {K : PySem.W.Frag} {mg : Str → Option Value} {base : Heap} {f : Addr} {A : Around} {outer : List Env} {s : Shared} {H : Hp} {E : XK} {k : Nat} {cv : Str → Value} {cdv : Value} (B : Blt mg cv) (hr : Room k (A.deeper (envOfC "within" (defScope (top 9)) s.heap.objs.size f cdv))) : PSs (cxOf CX0 P w K mg base N_within "within" (defScope (top 9)) f cdv A outer s H E).nox (defBody (top 9)) (t_within K) :=
  (pss_cons (ps_for PassesOwn.never rfl (pi_tup (pv 0)) (pg_name (i := 2) sc_within.nd rfl (Or.inl rfl)) (pss_one (ps_if (pt_cmpR op_in_seq (pv 1) (pv 2) (by with_unfolding_all rfl)) (pss_one (ps_ret (pe_slice sl_U (pv 2) po_none (po_some (pe_bmT PySem.F.slot_tuple_index PySem.F.type_tuple_index mt_tup_indexI (pv 2) (pa_cons (pv 1) pa_nil)))))) pss_nil))) (pss_one (ps_ret (pe_tupF pa_nil))))
theorem sc__law_draw : FnScope N__law_draw ["tape", "many"] (defScope (top 11)) := ⟨rfl, rfl, rfl, by decide +kernel, rfl, by decide +kernel, by decide +kernel⟩
theorem d__law_draw {P : Program} {w : World} {K : PySem.W.Frag} {mg : Str → Option Value} {base : Heap} {f : Addr} {A : Around} {outer : List Env} {s : Shared} {H : Hp} {E : XK} {k : Nat} {cv : Str → Value} {cdv : Value} (B : Blt mg cv) (hr : Room k (A.deeper (envOfC "_law_draw" (defScope (top 11)) s.heap.objs.size f cdv))) : PSs (cxOf CX0 P w K mg base N__law_draw "_law_draw" (defScope (top 11)) f cdv A outer s H E).nox (defBody (top 11)) (t__law_draw K) :=
  (pss_cons (ps_set (i := 2) sc__law_draw.nd rfl (Or.inl rfl) pe_int) (pss_cons (ps_if (pt_cmpR (op_ltD hr.units) (pe_ix ix_seq (pv 0) pe_int (fun _ _ => rfl)) (pv 1) (nomark _)) (pss_cons (ps_set (i := 3) sc__law_draw.nd rfl (Or.inl rfl) pe_int) (pss_cons (ps_if (pt_cmpR op_gt (pe_callB call_lenU rfl B.b_len PySem.boot_len (pa_cons (pe_ix ix_seq (pv 0) pe_int (fun _ _ => rfl)) pa_nil)) pe_int (nomark _)) (pss_one (ps_set (i := 3) sc__law_draw.nd rfl (Or.inl rfl) (pe_ix ix_seq (pe_ix ix_seq (pv 0) pe_int (fun _ _ => rfl)) (pe_op op_mod (pe_ix ix_seq (pv 0) pe_int (fun _ _ => rfl)) (pe_callB call_lenU rfl B.b_len PySem.boot_len (pa_cons (pe_ix ix_seq (pv 0) pe_int (fun _ _ => rfl)) pa_nil))) (fun _ _ => rfl)))) pss_nil) (pss_cons (ps_if (PW.pt (pw_or (pt_cmpR op_ge (pe_ix ix_seq (pv 0) pe_int (fun _ _ => rfl)) (pe_callB call_lenU rfl B.b_len PySem.boot_len (pa_cons (pe_ix ix_seq (pv 0) pe_int (fun _ _ => rfl)) pa_nil)) (nomark _)) (pw_or1 (pt_cmpR (op_ltD hr.units) (pv 3) (pe_op op_pow pe_int pe_int) (nomark _))))) (pss_cons (ps_set (i := 3) sc__law_draw.nd rfl (Or.inl rfl) (pe_op op_mod (pe_op op_addU (pv 3) (pe_op op_mulU pe_int (pe_ix ix_seq (pv 0) pe_int (fun _ _ => rfl)))) (pv 2))) (pss_cons (ps_set (i := 3) sc__law_draw.nd rfl (Or.inl rfl) (pe_op op_mod (pe_op op_addU (pe_op op_addU (pe_op op_mulU (pv 3) (pv 3)) (pe_op op_mulU pe_int (pv 3))) pe_int) (pv 2))) (pss_one (ps_set (i := 3) sc__law_draw.nd rfl (Or.inl rfl) (pe_op op_mod (pe_op op_addU (pe_op op_mulU (pv 3) (pv 3)) pe_int) (pv 2)))))) pss_nil) (pss_cons (ps_asg (pe_op op_addU (pe_ix ix_seq (pv 0) pe_int (fun _ _ => rfl)) pe_int) (pg_sub (pv 0) pe_int set_list)) (pss_one (ps_asg (pv 3) (pg_sub (pv 0) pe_int set_list))))))) pss_nil) (pss_cons (ps_set (i := 4) sc__law_draw.nd rfl (Or.inl rfl) (pe_op op_mod (pe_ix ix_seq (pv 0) pe_int (fun _ _ => rfl)) (pv 1))) (pss_cons (ps_asg (pe_op op_fdivW (pe_ix ix_seq (pv 0) pe_int (fun _ _ => rfl)) (pv 1)) (pg_sub (pv 0) pe_int set_list)) (pss_one (ps_ret (pv 4)))))))
theorem sc__law_whole : FnScope N__law_whole ["item"] (defScope (top 12)) := ⟨rfl, rfl, rfl, by decide +kernel, rfl, by decide +kernel, by decide +kernel⟩
theorem d__law_whole {P : Program} {w : World} {K : PySem.W.Frag} {mg : Str → Option Value} {base : Heap} {f : Addr} {A : Around} {outer : List Env} {s : Shared} {H : Hp} {E : XK} {k : Nat} {cv : Str → Value} {cdv : Value} (B : Blt mg cv) (hr : Room k (A.deeper (envOfC "_law_whole" (defScope (top 12)) s.heap.objs.size f cdv))) : PSs (cxOf CX0 P w K mg base N__law_whole "_law_whole" (defScope (top 12)) f cdv A outer s H E).nox (defBody (top 12)) (t__law_whole K) :=
  (pss_one (ps_ret (pe_and (pe_callB call_isi rfl B.b_isinstance PyProof.Rows.boot_isinstance (pa_cons (pv 0) (pa_cons (pe_bltn rfl B.b_int PyProof.Rows.boot_int rfl) pa_nil))) (pe_one (pe_not (pe_callB call_isi rfl B.b_isinstance PyProof.Rows.boot_isinstance (pa_cons (pv 0) (pa_cons (pe_bltn rfl B.b_bool PyProof.Rows.boot_bool rfl) pa_nil))))))))
theorem sc__law_within : FnScope N__law_within ["item", "low", "high"] (defScope (top 13)) := ⟨rfl, rfl, rfl, by decide +kernel, rfl, by decide +kernel, by decide +kernel⟩
theorem d__law_within {P : Program} {w : World} {K : PySem.W.Frag} {mg : Str → Option Value} {base : Heap} {f : Addr} {A : Around} {outer : List Env} {s : Shared} {H : Hp} {E : XK} {k : Nat} {cv : Str → Value} {cdv : Value} {k__law_whole : Nat} {s__law_whole : Sp} (B : Blt mg cv) (hr : Room k (A.deeper (envOfC "_law_within" (defScope (top 13)) s.heap.objs.size f cdv))) (F__law_whole : Fu P w K mg base "_law_whole" k__law_whole ["item"] s__law_whole) (H__law_whole : k__law_whole ≤ k) : PSs (cxOf CX0 P w K mg base N__law_within "_law_within" (defScope (top 13)) f cdv A outer s H E).nox (defBody (top 13)) (t__law_within K s__law_whole) :=
  (pss_one (ps_ret (pe_and (pe_fu F__law_whole (hr.mono H__law_whole) rfl (pa_cons (pv 0) pa_nil)) (pe_one (pe_chain op_le op_le (pv 1) (pv 0) (pv 2))))))
theorem sc__law_like : FnScope N__law_like ["one", "two"] (defScope (top 14)) := ⟨rfl, rfl, rfl, by decide +kernel, rfl, by decide +kernel, by decide +kernel⟩
theorem d__law_like {P : Program} {w : World} {K : PySem.W.Frag} {mg : Str → Option Value} {base : Heap} {f : Addr} {A : Around} {outer : List Env} {s : Shared} {H : Hp} {E : XK} {k : Nat} {cv : Str → Value} {cdv : Value} {k__law_like : Nat} {s__law_like : Sp} (B : Blt mg cv) (hr : Room k (A.deeper (envOfC "_law_like" (defScope (top 14)) s.heap.objs.size f cdv))) (F__law_like : Fu P w K mg base "_law_like" k__law_like ["one", "two"] s__law_like) (H__law_like : k__law_like ≤ k) : PSs (cxOf CX0 P w K mg base N__law_like "_law_like" (defScope (top 14)) f cdv A outer s H E).nox (defBody (top 14)) (t__law_like K s__law_like) :=
  (pss_cons (ps_if (pt_val (pe_callB call_isiT rfl B.b_isinstance PyProof.Rows.boot_isinstance (pa_cons (pv 0) (pa_cons (pe_tup (pa_cons (pe_bltn rfl B.b_list PyProof.Rows.boot_list rfl) (pa_cons (pe_bltn rfl B.b_tuple PyProof.Rows.boot_tuple rfl) pa_nil))) pa_nil)))) (pss_cons (ps_if (PW.pt (pw_or (pt_cmpR (op_neD hr.units) (pe_callB call_isi rfl B.b_isinstance PyProof.Rows.boot_isinstance (pa_cons (pv 0) (pa_cons (pe_bltn rfl B.b_list PyProof.Rows.boot_list rfl) pa_nil))) (pe_callB call_isi rfl B.b_isinstance PyProof.Rows.boot_isinstance (pa_cons (pv 1) (pa_cons (pe_bltn rfl B.b_list PyProof.Rows.boot_list rfl) pa_nil))) (nomark _)) (pw_or1 (pt_cmpR (op_neD hr.units) (pe_callB call_isi rfl B.b_isinstance PyProof.Rows.boot_isinstance (pa_cons (pv 0) (pa_cons (pe_bltn rfl B.b_tuple PyProof.Rows.boot_tuple rfl) pa_nil))) (pe_callB call_isi rfl B.b_isinstance PyProof.Rows.boot_isinstance (pa_cons (pv 1) (pa_cons (pe_bltn rfl B.b_tuple PyProof.Rows.boot_tuple rfl) pa_nil))) (nomark _))))) (pss_one (ps_ret pe_bl)) pss_nil) (pss_cons (ps_if (pt_cmpR (op_neD hr.units) (pe_callB call_lenU rfl B.b_len PySem.boot_len (pa_cons (pv 0) pa_nil)) (pe_callB call_lenU rfl B.b_len PySem.boot_len (pa_cons (pv 1) pa_nil)) (nomark _)) (pss_one (ps_ret pe_bl)) pss_nil) (pss_one (ps_ret (pe_cmpR (op_eqD hr.units) (pe_lc (own := [("k", 2)]) (g := (gName 2)) (tt := (tNot (tB (tCall s__law_like [] E0 (tCons (tOp (rIx K) (tVar 0) (tVar 2)) (tCons (tOp (rIx K) (tVar 1) (tVar 2)) tNil)))))) (te := (tVar 2)) rfl sc__law_like.nd (pi_range1 rfl B.b_range (pa_cons (pe_callB call_lenU rfl B.b_len PySem.boot_len (pa_cons (pv 0) pa_nil)) pa_nil)) (blkOk_by (N := N__law_like) (sc := defScope (top 14)) (by decide +kernel)) (fun _ _ _ _ _ => (pg_name (i := 2) sc__law_like.nd rfl (Or.inl rfl))) (fun _ _ _ _ _ => (pts_one (pt_not (pt_val (pe_fu F__law_like (hr.mono H__law_like) rfl (pa_cons (pe_ix ix_seq (pv 0) (pv 2) (fun _ _ => rfl)) (pa_cons (pe_ix ix_seq (pv 1) (pv 2) (fun _ _ => rfl)) pa_nil))))))) (fun _ _ _ _ _ => (pv 2))) (pe_lst pa_nil) (nomark _)))))) pss_nil) (pss_cons (ps_if (pt_val (pe_callB call_isiT rfl B.b_isinstance PyProof.Rows.boot_isinstance (pa_cons (pv 1) (pa_cons (pe_tup (pa_cons (pe_bltn rfl B.b_list PyProof.Rows.boot_list rfl) (pa_cons (pe_bltn rfl B.b_tuple PyProof.Rows.boot_tuple rfl) pa_nil))) pa_nil)))) (pss_one (ps_ret pe_bl)) pss_nil) (pss_one (ps_ret (pe_and (pe_cmpR (op_eqD hr.units) (pe_callB call_isi rfl B.b_isinstance PyProof.Rows.boot_isinstance (pa_cons (pv 0) (pa_cons (pe_bltn rfl B.b_bool PyProof.Rows.boot_bool rfl) pa_nil))) (pe_callB call_isi rfl B.b_isinstance PyProof.Rows.boot_isinstance (pa_cons (pv 1) (pa_cons (pe_bltn rfl B.b_bool PyProof.Rows.boot_bool rfl) pa_nil))) (nomark _)) (pe_one (pe_cmpR (op_eqD hr.units) (pv 0) (pv 1) (nomark _))))))))
theorem sc__law_spoilt : FnScope N__law_spoilt ["tape", "item"] (defScope (top 15)) := ⟨rfl, rfl, rfl, by decide +kernel, rfl, by decide +kernel, by decide +kernel⟩
theorem d__law_spoilt {P : Program} {w : World} {K : PySem.W.Frag} {mg : Str → Option Value} {base : Heap} {f : Addr} {A : Around} {outer : List Env} {s : Shared} {H : Hp} {E : XK} {k : Nat} {cv : Str → Value} {cdv : Value} {k__law_draw : Nat} {s__law_draw : Sp} {k__law_spoilt : Nat} {s__law_spoilt : Sp} {k__law_any : Nat} {s__law_any : Sp} {k__law_whole : Nat} {s__law_whole : Sp} (B : Blt mg cv) (hr : Room k (A.deeper (envOfC "_law_spoilt" (defScope (top 15)) s.heap.objs.size f cdv))) (F__law_draw : Fu P w K mg base "_law_draw" k__law_draw ["tape", "many"] s__law_draw) (H__law_draw : k__law_draw ≤ k) (F__law_spoilt : Fu P w K mg base "_law_spoilt" k__law_spoilt ["tape", "item"] s__law_spoilt) (H__law_spoilt : k__law_spoilt ≤ k) (F__law_any : Fu P w K mg base "_law_any" k__law_any ["tape", "deep"] s__law_any) (H__law_any : k__law_any ≤ k) (F__law_whole : Fu P w K mg base "_law_whole" k__law_whole ["item"] s__law_whole) (H__law_whole : k__law_whole ≤ k) : PSs (cxOf CX0 P w K mg base N__law_spoilt "_law_spoilt" (defScope (top 15)) f cdv A outer s H E).nox (defBody (top 15)) (t__law_spoilt K s__law_draw s__law_spoilt s__law_any s__law_whole) :=
  (pss_cons (ps_if (PW.pt (pw_and (pt_val (pe_callB call_isiT rfl B.b_isinstance PyProof.Rows.boot_isinstance (pa_cons (pv 1) (pa_cons (pe_tup (pa_cons (pe_bltn rfl B.b_tuple PyProof.Rows.boot_tuple rfl) (pa_cons (pe_bltn rfl B.b_list PyProof.Rows.boot_list rfl) pa_nil))) pa_nil)))) (pw_and (pt_cmpR op_gt (pe_callB call_lenU rfl B.b_len PySem.boot_len (pa_cons (pv 1) pa_nil)) pe_int (nomark _)) (pw_and1 (pt_cmpR op_gt (pe_fu F__law_draw (hr.mono H__law_draw) rfl (pa_cons (pv 0) (pa_cons pe_int pa_nil))) pe_int (nomark _)))))) (pss_cons (ps_set (i := 2) sc__law_spoilt.nd rfl (Or.inl rfl) (pe_fu F__law_draw (hr.mono H__law_draw) rfl (pa_cons (pv 0) (pa_cons (pe_callB call_lenU rfl B.b_len PySem.boot_len (pa_cons (pv 1) pa_nil)) pa_nil)))) (pss_cons (ps_set (i := 3) sc__law_spoilt.nd rfl (Or.inl rfl) (pe_callTy call_listU rfl B.b_list PyProof.Rows.boot_list (pa_cons (pv 1) pa_nil))) (pss_cons (ps_set (i := 4) sc__law_spoilt.nd rfl (Or.inl rfl) (pe_fu F__law_draw (hr.mono H__law_draw) rfl (pa_cons (pv 0) (pa_cons pe_int pa_nil)))) (pss_cons (ps_if (pt_cmpR (op_ltD hr.units) (pv 4) pe_int (nomark _)) (pss_one (ps_asg (pe_fu F__law_spoilt (hr.mono H__law_spoilt) rfl (pa_cons (pv 0) (pa_cons (pe_ix ix_seq (pv 3) (pv 2) (fun _ _ => rfl)) pa_nil))) (pg_sub (pv 3) (pv 2) set_list))) (pss_one (ps_if (pt_cmpR (op_eqD hr.units) (pv 4) pe_int (nomark _)) (pss_one (ps_expr (pe_bm PySem.F.plainAttrs_list PySem.F.slot_list_pop PySem.F.type_list_pop mt_popAt (pv 3) (pa_cons (pv 2) pa_nil)))) (pss_one (ps_if (pt_cmpR (op_eqD hr.units) (pv 4) pe_int (nomark _)) (pss_one (ps_expr (pe_bm PySem.F.plainAttrs_list PySem.F.slot_list_insert PySem.F.type_list_insert mt_insertU (pv 3) (pa_cons (pv 2) (pa_cons (pe_ix ix_seq (pv 3) (pe_fu F__law_draw (hr.mono H__law_draw) rfl (pa_cons (pv 0) (pa_cons (pe_callB call_lenU rfl B.b_len PySem.boot_len (pa_cons (pv 3) pa_nil)) pa_nil))) (fun _ _ => rfl)) pa_nil))))) (pss_one (ps_if (pt_cmpR (op_eqD hr.units) (pv 4) pe_int (nomark _)) (pss_one (ps_set (i := 3) sc__law_spoilt.nd rfl (Or.inl rfl) (pe_revL (pv 3)))) (pss_one (ps_expr (pe_bm PySem.F.plainAttrs_list PySem.F.slot_list_insert PySem.F.type_list_insert mt_insertU (pv 3) (pa_cons (pv 2) (pa_cons (pe_fu F__law_any (hr.mono H__law_any) rfl (pa_cons (pv 0) (pa_cons pe_int pa_nil))) pa_nil)))))))))))) (pss_one (ps_ret (pe_ifExp (pt_val (pe_callB call_isi rfl B.b_isinstance PyProof.Rows.boot_isinstance (pa_cons (pv 1) (pa_cons (pe_bltn rfl B.b_tuple PyProof.Rows.boot_tuple rfl) pa_nil)))) (pe_callTy call_tupleF rfl B.b_tuple PyProof.Rows.boot_tuple (pa_cons (pv 3) pa_nil)) (pv 3)))))))) pss_nil) (pss_cons (ps_if (PW.pt (pw_and (pt_val (pe_fu F__law_whole (hr.mono H__law_whole) rfl (pa_cons (pv 1) pa_nil))) (pw_and1 (pt_cmpR op_gt (pe_fu F__law_draw (hr.mono H__law_draw) rfl (pa_cons (pv 0) (pa_cons pe_int pa_nil))) pe_int (nomark _))))) (pss_one (ps_ret (pe_op op_addU (pv 1) (pe_ix ix_seq (pe_lst (pa_cons pe_int (pa_cons (pe_un un_neg pe_int) (pa_cons pe_int (pa_cons (pe_un un_neg pe_int) (pa_cons pe_int (pa_cons pe_int pa_nil))))))) (pe_fu F__law_draw (hr.mono H__law_draw) rfl (pa_cons (pv 0) (pa_cons pe_int pa_nil))) (fun _ _ => rfl))))) pss_nil) (pss_cons (ps_if (PW.pt (pw_and (pt_val (pe_callB call_isi rfl B.b_isinstance PyProof.Rows.boot_isinstance (pa_cons (pv 1) (pa_cons (pe_bltn rfl B.b_str PyProof.Rows.boot_str rfl) pa_nil)))) (pw_and1 (pt_cmpR op_gt (pe_fu F__law_draw (hr.mono H__law_draw) rfl (pa_cons (pv 0) (pa_cons pe_int pa_nil))) pe_int (nomark _))))) (pss_cons (ps_set (i := 5) sc__law_spoilt.nd rfl (Or.inl rfl) (pe_fu F__law_draw (hr.mono H__law_draw) rfl (pa_cons (pv 0) (pa_cons (pe_op op_addU (pe_callB call_lenU rfl B.b_len PySem.boot_len (pa_cons (pv 1) pa_nil)) pe_int) pa_nil)))) (pss_one (ps_ret (pe_op op_addU (pe_op op_addU (pe_slice sl_U (pv 1) po_none (po_some (pv 5))) (pe_ix ix_seq (pe_lst (pa_cons pe_str (pa_cons pe_str (pa_cons pe_str (pa_cons pe_str (pa_cons pe_str (pa_cons pe_str pa_nil))))))) (pe_fu F__law_draw (hr.mono H__law_draw) rfl (pa_cons (pv 0) (pa_cons pe_int pa_nil))) (fun _ _ => rfl))) (pe_slice sl_U (pv 1) (po_some (pv 5)) po_none))))) pss_nil) (pss_cons (ps_if (PW.pt (pw_and (pt_val (pe_callB call_isiT rfl B.b_isinstance PyProof.Rows.boot_isinstance (pa_cons (pv 1) (pa_cons (pe_tup (pa_cons (pe_bltn rfl B.b_tuple PyProof.Rows.boot_tuple rfl) (pa_cons (pe_bltn rfl B.b_list PyProof.Rows.boot_list rfl) pa_nil))) pa_nil)))) (pw_and1 (pt_cmpR (op_eqD hr.units) (pe_fu F__law_draw (hr.mono H__law_draw) rfl (pa_cons (pv 0) (pa_cons pe_int pa_nil))) pe_int (nomark _))))) (pss_one (ps_ret (pe_ifExp (pt_val (pe_callB call_isi rfl B.b_isinstance PyProof.Rows.boot_isinstance (pa_cons (pv 1) (pa_cons (pe_bltn rfl B.b_tuple PyProof.Rows.boot_tuple rfl) pa_nil)))) (pe_callTy call_listU rfl B.b_list PyProof.Rows.boot_list (pa_cons (pv 1) pa_nil)) (pe_callTy call_tupleF rfl B.b_tuple PyProof.Rows.boot_tuple (pa_cons (pv 1) pa_nil))))) pss_nil) (pss_one (ps_ret (pe_fu F__law_any (hr.mono H__law_any) rfl (pa_cons (pv 0) (pa_cons pe_int pa_nil)))))))))
theorem sc__law_rises : FnScope N__law_rises ["some"] (defScope (top 16)) := ⟨rfl, rfl, rfl, by decide +kernel, rfl, by decide +kernel, by decide +kernel⟩
theorem d__law_rises {P : Program} {w : World} {K : PySem.W.Frag} {mg : Str → Option Value} {base : Heap} {f : Addr} {A : Around} {outer : List Env} {s : Shared} {H : Hp} {E : XK} {k : Nat} {cv : Str → Value} {cdv : Value} (B : Blt mg cv) (hr : Room k (A.deeper (envOfC "_law_rises" (defScope (top 16)) s.heap.objs.size f cdv))) : PSs (cxOf CX0 P w K mg base N__law_rises "_law_rises" (defScope (top 16)) f cdv A outer s H E).nox (defBody (top 16)) (t__law_rises K) :=
  (pss_one (ps_ret (pe_cmpR (op_eqD hr.units) (pe_lc (own := [("k", 1)]) (g := (gName 1)) (tt := (tNot (tTest (tOp (rLtD K) (tOp (rIx K) (tVar 0) (tOp (rI0 fun i j => .int (i - j)) (tVar 1) (tC (.int 1)))) (tOp (rIx K) (tVar 0) (tVar 1)))))) (te := (tVar 1)) rfl sc__law_rises.nd (pi_range2 rfl B.b_range (pa_cons pe_int (pa_cons (pe_callB call_lenU rfl B.b_len PySem.boot_len (pa_cons (pv 0) pa_nil)) pa_nil))) (blkOk_by (N := N__law_rises) (sc := defScope (top 16)) (by decide +kernel)) (fun _ _ _ _ _ => (pg_name (i := 1) sc__law_rises.nd rfl (Or.inl rfl))) (fun _ _ _ _ _ => (pts_one (pt_not (pt_cmpR (op_ltD hr.units) (pe_ix ix_seq (pv 0) (pe_op op_sub (pv 1) pe_int) (fun _ _ => rfl)) (pe_ix ix_seq (pv 0) (pv 1) (fun _ _ => rfl)) (nomark _))))) (fun _ _ _ _ _ => (pv 1))) (pe_lst pa_nil) (nomark _))))
theorem sc__law_any : FnScope N__law_any ["tape", "deep"] (defScope (top 17)) := ⟨rfl, rfl, rfl, by decide +kernel, rfl, by decide +kernel, by decide +kernel⟩
theorem d__law_any {P : Program} {w : World} {K : PySem.W.Frag} {mg : Str → Option Value} {base : Heap} {f : Addr} {A : Around} {outer : List Env} {s : Shared} {H : Hp} {E : XK} {k : Nat} {cv : Str → Value} {cdv : Value} {k__law_draw : Nat} {s__law_draw : Sp} {k__law_any : Nat} {s__law_any : Sp} (B : Blt mg cv) (hr : Room k (A.deeper (envOfC "_law_any" (defScope (top 17)) s.heap.objs.size f cdv))) (F__law_draw : Fu P w K mg base "_law_draw" k__law_draw ["tape", "many"] s__law_draw) (H__law_draw : k__law_draw ≤ k) (F__law_any : Fu P w K mg base "_law_any" k__law_any ["tape", "deep"] s__law_any) (H__law_any : k__law_any ≤ k) : PSs (cxOf CX0 P w K mg base N__law_any "_law_any" (defScope (top 17)) f cdv A outer s H E).nox (defBody (top 17)) (t__law_any K s__law_draw s__law_any) :=
  (pss_cons (ps_set (i := 2) sc__law_any.nd rfl (Or.inl rfl) (pe_fu F__law_draw (hr.mono H__law_draw) rfl (pa_cons (pv 0) (pa_cons pe_int pa_nil)))) (pss_cons (ps_if (PW.pt (pw_and (pt_cmpR (op_ltD hr.units) (pv 2) pe_int (nomark _)) (pw_and1 (pt_cmpR op_gt (pv 1) pe_int (nomark _))))) (pss_cons (ps_setLc (i := 3) (own := [("k", 4)]) (g := (gName 4)) (tt := tYes) (te := (tCall s__law_any [] E0 (tCons (tVar 0) (tCons (tOp (rI0 fun i j => .int (i - j)) (tVar 1) (tC (.int 1))) tNil)))) rfl sc__law_any.nd rfl rfl (sw_true rfl rfl rfl (by decide +kernel)) (pi_range1 rfl B.b_range (pa_cons (pe_fu F__law_draw (hr.mono H__law_draw) rfl (pa_cons (pv 0) (pa_cons pe_int pa_nil))) pa_nil)) (blkOk_by (N := N__law_any) (sc := defScope (top 17)) (by decide +kernel)) (fun _ _ _ _ _ => (pg_name (i := 4) sc__law_any.nd rfl (Or.inl rfl))) (fun _ _ _ _ _ => pts_nil) (fun _ _ _ _ _ => (pe_fu F__law_any (hr.mono H__law_any) rfl (pa_cons (pv 0) (pa_cons (pe_op op_sub (pv 1) pe_int) pa_nil))))) (pss_one (ps_ret (pe_ix ix_seq (pe_lst (pa_cons (pv 3) (pa_cons (pe_callTy call_tupleF rfl B.b_tuple PyProof.Rows.boot_tuple (pa_cons (pv 3) pa_nil)) (pa_cons (pe_callTy call_tupleF rfl B.b_tuple PyProof.Rows.boot_tuple (pa_cons (pv 3) pa_nil)) (pa_cons (pe_callTy call_tupleF rfl B.b_tuple PyProof.Rows.boot_tuple (pa_cons (pv 3) pa_nil)) pa_nil))))) (pv 2) (fun _ _ => rfl))))) pss_nil) (pss_cons (ps_if (pt_cmpR (op_ltD hr.units) (pv 2) pe_int (nomark _)) (pss_one (ps_ret (pe_ix ix_seq (pe_lst (pa_cons (pe_op op_sub (pe_fu F__law_draw (hr.mono H__law_draw) rfl (pa_cons (pv 0) (pa_cons pe_int pa_nil))) pe_int) (pa_cons (pe_fu F__law_draw (hr.mono H__law_draw) rfl (pa_cons (pv 0) (pa_cons (pe_op op_pow pe_int pe_int) pa_nil))) (pa_cons pe_int (pa_cons pe_int pa_nil))))) (pe_callB (call_maxU rfl) rfl B.b_max PyProof.Rows.boot_max (pa_cons pe_int (pa_cons (pe_op op_sub (pv 2) pe_int) pa_nil))) (fun _ _ => rfl)))) pss_nil) (pss_cons (ps_set (i := 3) sc__law_any.nd rfl (Or.inl rfl) (pe_lst (pa_cons pe_str (pa_cons pe_str (pa_cons pe_str (pa_cons pe_str (pa_cons pe_str (pa_cons pe_str (pa_cons pe_str (pa_cons pe_str pa_nil)))))))))) (pss_one (ps_ret (pe_ix ix_seq (pe_lst (pa_cons pe_bl (pa_cons pe_bl (pa_cons pe_non (pa_cons (pe_ix ix_seq (pv 3) (pe_fu F__law_draw (hr.mono H__law_draw) rfl (pa_cons (pv 0) (pa_cons pe_int pa_nil))) (fun _ _ => rfl)) (pa_cons (pe_tupF (pa_cons pe_int (pa_cons pe_int pa_nil))) pa_nil)))))) (pe_op op_sub (pv 2) pe_int) (fun _ _ => rfl))))))))
theorem sc__law_standing : FnScope N__law_standing ["tape", "many"] (defScope (top 18)) := ⟨rfl, rfl, rfl, by decide +kernel, rfl, by decide +kernel, by decide +kernel⟩
theorem d__law_standing {P : Program} {w : World} {K : PySem.W.Frag} {mg : Str → Option Value} {base : Heap} {f : Addr} {A : Around} {outer : List Env} {s : Shared} {H : Hp} {E : XK} {k : Nat} {cv : Str → Value} {cdv : Value} {k__law_draw : Nat} {s__law_draw : Sp} (B : Blt mg cv) (hr : Room k (A.deeper (envOfC "_law_standing" (defScope (top 18)) s.heap.objs.size f cdv))) (F__law_draw : Fu P w K mg base "_law_draw" k__law_draw ["tape", "many"] s__law_draw) (H__law_draw : k__law_draw ≤ k) : PSs (cxOf CX0 P w K mg base N__law_standing "_law_standing" (defScope (top 18)) f cdv A outer s H E).nox (defBody (top 18)) (t__law_standing K s__law_draw) :=
  (pss_cons (ps_set (i := 2) sc__law_standing.nd rfl (Or.inl rfl) (pe_lst pa_nil)) (pss_cons (ps_for PassesOwn.never rfl (pi_range2 rfl B.b_range (pa_cons pe_int (pa_cons (pe_op op_addU (pv 1) pe_int) pa_nil))) (pg_name (i := 3) sc__law_standing.nd rfl (Or.inl rfl)) (pss_cons (ps_set (i := 4) sc__law_standing.nd rfl (Or.inl rfl) (pe_fu F__law_draw (hr.mono H__law_draw) rfl (pa_cons (pv 0) (pa_cons (pe_op op_addU (pe_callB call_lenU rfl B.b_len PySem.boot_len (pa_cons (pv 2) pa_nil)) pe_int) pa_nil)))) (pss_one (ps_if (pt_cmpR (op_ltD hr.units) (pv 4) (pe_callB call_lenU rfl B.b_len PySem.boot_len (pa_cons (pv 2) pa_nil)) (nomark _)) (pss_one (ps_asg (pe_op op_addU (pe_ix ix_seq (pv 2) (pv 4) (fun _ _ => rfl)) (pe_tupF (pa_cons (pv 3) pa_nil))) (pg_sub (pv 2) (pv 4) set_list))) (pss_one (ps_expr (pe_bm PySem.F.plainAttrs_list PySem.F.slot_list_append PySem.F.type_list_append mt_append (pv 2) (pa_cons (pe_tupF (pa_cons (pv 3) pa_nil)) pa_nil)))))))) (pss_one (ps_ret (pe_callTy call_tupleF rfl B.b_tuple PyProof.Rows.boot_tuple (pa_cons (pe_callB (cr_sortedD hr.units) rfl B.b_sorted PyProof.Rows.boot_sorted (pa_cons (pv 2) pa_nil)) pa_nil))))))
theorem sc__law_in : FnScope N__law_in ["standing", "doll"] (defScope (top 19)) := ⟨rfl, rfl, rfl, by decide +kernel, rfl, by decide +kernel, by decide +kernel⟩
theorem d__law_in {P : Program} {w : World} {K : PySem.W.Frag} {mg : Str → Option Value} {base : Heap} {f : Addr} {A : Around} {outer : List Env} {s : Shared} {H : Hp} {E : XK} {k : Nat} {cv : Str → Value} {cdv : Value} (B : Blt mg cv) (hr : Room k (A.deeper (envOfC "_law_in" (defScope (top 19)) s.heap.objs.size f cdv))) : PSs (cxOf CX0 P w K mg base N__law_in "_law_in" (defScope (top 19)) f cdv A outer s H E).nox (defBody (top 19)) (t__law_in K) :=
  (pss_cons (ps_for PassesOwn.never rfl (pi_tup (pv 0)) (pg_name (i := 2) sc__law_in.nd rfl (Or.inl rfl)) (pss_one (ps_if (pt_cmpR op_in_seq (pv 1) (pv 2) (by with_unfolding_all rfl)) (pss_one (ps_ret (pe_callTy call_tupleF rfl B.b_tuple PyProof.Rows.boot_tuple (pa_cons (pe_lc (own := [("one", 3)]) (g := (gName 3)) (tt := (tTest (tOp (rLtD K) (tVar 3) (tVar 1)))) (te := (tVar 3)) rfl sc__law_in.nd (pi_tup (pv 2)) (blkOk_by (N := N__law_in) (sc := defScope (top 19)) (by decide +kernel)) (fun _ _ _ _ _ => (pg_name (i := 3) sc__law_in.nd rfl (Or.inl rfl))) (fun _ _ _ _ _ => (pts_one (pt_cmpR (op_ltD hr.units) (pv 3) (pv 1) (nomark _)))) (fun _ _ _ _ _ => (pv 3))) pa_nil)))) pss_nil))) (pss_one (ps_ret pe_non)))
theorem sc__law_every : FnScope N__law_every ["many"] (defScope (top 20)) := ⟨rfl, rfl, rfl, by decide +kernel, rfl, by decide +kernel, by decide +kernel⟩
theorem d__law_every {P : Program} {w : World} {K : PySem.W.Frag} {mg : Str → Option Value} {base : Heap} {f : Addr} {A : Around} {outer : List Env} {s : Shared} {H : Hp} {E : XK} {k : Nat} {cv : Str → Value} {cdv : Value} (B : Blt mg cv) (hr : Room k (A.deeper (envOfC "_law_every" (defScope (top 20)) s.heap.objs.size f cdv))) : PSs (cxOf CX0 P w K mg base N__law_every "_law_every" (defScope (top 20)) f cdv A outer s H E).nox (defBody (top 20)) (t__law_every K) :=
  (pss_cons (ps_set (i := 1) sc__law_every.nd rfl (Or.inl rfl) (pe_lst (pa_cons (pe_lst pa_nil) pa_nil))) (pss_cons (ps_for PassesOwn.never rfl (pi_range2 rfl B.b_range (pa_cons pe_int (pa_cons (pe_op op_addU (pv 0) pe_int) pa_nil))) (pg_name (i := 2) sc__law_every.nd rfl (Or.inl rfl)) (pss_cons (ps_set (i := 3) sc__law_every.nd rfl (Or.inl rfl) (pe_lst pa_nil)) (pss_cons (ps_for PassesOwn.never rfl (pi_list (pv 1)) (pg_name (i := 4) sc__law_every.nd rfl (Or.inl rfl)) (pss_cons (ps_expr (pe_bm PySem.F.plainAttrs_list PySem.F.slot_list_append PySem.F.type_list_append mt_append (pv 3) (pa_cons (pe_op op_addU (pv 4) (pe_lst (pa_cons (pe_tupF (pa_cons (pv 2) pa_nil)) pa_nil))) pa_nil))) (pss_one (ps_for PassesOwn.never rfl (pi_range1 rfl B.b_range (pa_cons (pe_callB call_lenU rfl B.b_len PySem.boot_len (pa_cons (pv 4) pa_nil)) pa_nil)) (pg_name (i := 5) sc__law_every.nd rfl (Or.inl rfl)) (pss_one (ps_expr (pe_bm PySem.F.plainAttrs_list PySem.F.slot_list_append PySem.F.type_list_append mt_append (pv 3) (pa_cons (pe_op op_addU (pe_op op_addU (pe_slice sl_U (pv 4) po_none (po_some (pv 5))) (pe_lst (pa_cons (pe_op op_addU (pe_ix ix_seq (pv 4) (pv 5) (fun _ _ => rfl)) (pe_tupF (pa_cons (pv 2) pa_nil))) pa_nil))) (pe_slice sl_U (pv 4) (po_some (pe_op op_addU (pv 5) pe_int)) po_none)) pa_nil)))))))) (pss_one (ps_set (i := 1) sc__law_every.nd rfl (Or.inl rfl) (pv 3)))))) (pss_one (ps_ret (pe_callB (cr_sortedD hr.units) rfl B.b_sorted PyProof.Rows.boot_sorted (pa_cons (pe_lc (own := [("stacks", 4)]) (g := (gName 4)) (tt := tYes) (te := (tCB (rTupleF K) (tCons (tCB (rSortedD K) (tCons (tVar 4) tNil)) tNil))) rfl sc__law_every.nd (pi_list (pv 1)) (blkOk_by (N := N__law_every) (sc := defScope (top 20)) (by decide +kernel)) (fun _ _ _ _ _ => (pg_name (i := 4) sc__law_every.nd rfl (Or.inl rfl))) (fun _ _ _ _ _ => pts_nil) (fun _ _ _ _ _ => (pe_callTy call_tupleF rfl B.b_tuple PyProof.Rows.boot_tuple (pa_cons (pe_callB (cr_sortedD hr.units) rfl B.b_sorted PyProof.Rows.boot_sorted (pa_cons (pv 4) pa_nil)) pa_nil)))) pa_nil))))))
theorem sc__law_is_standing : FnScope N__law_is_standing ["item"] (defScope (top 21)) := ⟨rfl, rfl, rfl, by decide +kernel, rfl, by decide +kernel, by decide +kernel⟩
theorem d__law_is_standing {P : Program} {w : World} {K : PySem.W.Frag} {mg : Str → Option Value} {base : Heap} {f : Addr} {A : Around} {outer : List Env} {s : Shared} {H : Hp} {E : XK} {k : Nat} {cv : Str → Value} {cdv : Value} {k__law_within : Nat} {s__law_within : Sp} {k__law_rises : Nat} {s__law_rises : Sp} (B : Blt mg cv) (hr : Room k (A.deeper (envOfC "_law_is_standing" (defScope (top 21)) s.heap.objs.size f cdv))) (F__law_within : Fu P w K mg base "_law_within" k__law_within ["item", "low", "high"] s__law_within) (H__law_within : k__law_within ≤ k) (F__law_rises : Fu P w K mg base "_law_rises" k__law_rises ["some"] s__law_rises) (H__law_rises : k__law_rises ≤ k) : PSs (cxOf CX0 P w K mg base N__law_is_standing "_law_is_standing" (defScope (top 21)) f cdv A outer s H E).nox (defBody (top 21)) (t__law_is_standing K s__law_within s__law_rises) :=
  (pss_cons (ps_if (PW.pt (pw_or (pt_not (pt_val (pe_callB call_isi rfl B.b_isinstance PyProof.Rows.boot_isinstance (pa_cons (pv 0) (pa_cons (pe_bltn rfl B.b_tuple PyProof.Rows.boot_tuple rfl) pa_nil))))) (pw_or1 (pt_cmpR (op_eqD hr.units) (pv 0) (pe_tupF pa_nil) (nomark _))))) (pss_one (ps_ret pe_bl)) pss_nil) (pss_cons (ps_for PassesOwn.never rfl (pi_tup (pv 0)) (pg_name (i := 1) sc__law_is_standing.nd rfl (Or.inl rfl)) (pss_cons (ps_if (PW.pt (pw_or (pt_not (pt_val (pe_callB call_isi rfl B.b_isinstance PyProof.Rows.boot_isinstance (pa_cons (pv 1) (pa_cons (pe_bltn rfl B.b_tuple PyProof.Rows.boot_tuple rfl) pa_nil))))) (pw_or (pt_cmpR (op_eqD hr.units) (pv 1) (pe_tupF pa_nil) (nomark _)) (pw_or1 (pt_cmpR (op_neD hr.units) (pe_lc (own := [("one", 3)]) (g := (gName 3)) (tt := (tNot (tB (tCall s__law_within [] E0 (tCons (tVar 3) (tCons (tC (.int 1)) (tCons (tC (.int 6)) tNil))))))) (te := (tC (.int 1))) rfl sc__law_is_standing.nd (pi_tup (pv 1)) (blkOk_by (N := N__law_is_standing) (sc := defScope (top 21)) (by decide +kernel)) (fun _ _ _ _ _ => (pg_name (i := 3) sc__law_is_standing.nd rfl (Or.inl rfl))) (fun _ _ _ _ _ => (pts_one (pt_not (pt_val (pe_fu F__law_within (hr.mono H__law_within) rfl (pa_cons (pv 3) (pa_cons pe_int (pa_cons pe_int pa_nil)))))))) (fun _ _ _ _ _ => pe_int)) (pe_lst pa_nil) (nomark _)))))) (pss_one (ps_ret pe_bl)) pss_nil) (pss_one (ps_if (pt_not (pt_val (pe_fu F__law_rises (hr.mono H__law_rises) rfl (pa_cons (pv 1) pa_nil)))) (pss_one (ps_ret pe_bl)) pss_nil)))) (pss_cons (ps_set (i := 2) sc__law_is_standing.nd rfl (Or.inl rfl) (pe_callB (cr_sortedD hr.units) rfl B.b_sorted PyProof.Rows.boot_sorted (pa_cons (pe_callB (call_sumL rfl) rfl B.b_sum PyProof.Rows.boot_sum (pa_cons (pe_lc (own := [("stack", 1)]) (g := (gName 1)) (tt := tYes) (te := (tCB (rListOf K) (tCons (tVar 1) tNil))) rfl sc__law_is_standing.nd (pi_tup (pv 0)) (blkOk_by (N := N__law_is_standing) (sc := defScope (top 21)) (by decide +kernel)) (fun _ _ _ _ _ => (pg_name (i := 1) sc__law_is_standing.nd rfl (Or.inl rfl))) (fun _ _ _ _ _ => pts_nil) (fun _ _ _ _ _ => (pe_callTy call_listU rfl B.b_list PyProof.Rows.boot_list (pa_cons (pv 1) pa_nil)))) (pa_cons (pe_lst pa_nil) pa_nil))) pa_nil))) (pss_one (ps_ret (pe_and (pe_fu F__law_rises (hr.mono H__law_rises) rfl (pa_cons (pv 0) pa_nil)) (pe_one (pe_cmpR (op_eqD hr.units) (pv 2) (pe_listRg rfl rfl B.b_list (prg_2 rfl B.b_range pe_int (pe_op op_addU pe_int (pe_callB call_lenU rfl B.b_len PySem.boot_len (pa_cons (pv 2) pa_nil))))) (nomark _)))))))))
theorem sc_law : FnScope N_law ["script"] (defScope (top 22)) := ⟨rfl, rfl, rfl, by decide +kernel, rfl, by decide +kernel, by decide +kernel⟩
theorem d_law {P : Program} {w : World} {K : PySem.W.Frag} {mg : Str → Option Value} {base : Heap} {f : Addr} {A : Around} {outer : List Env} {s : Shared} {H : Hp} {E : XK} {k : Nat} {cv : Str → Value} {cdv : Value} {k__law_draw : Nat} {s__law_draw : Sp} {k__law_standing : Nat} {s__law_standing : Sp} {k__law_any : Nat} {s__law_any : Sp} {k__law_spoilt : Nat} {s__law_spoilt : Sp} {k__law_like : Nat} {s__law_like : Sp} {k__law_is_standing : Nat} {s__law_is_standing : Sp} {k_is_standing : Nat} {s_is_standing : Sp} {k__law_in : Nat} {s__law_in : Sp} {k_within : Nat} {s_within : Sp} {k__law_every : Nat} {s__law_every : Sp} {k_standings : Nat} {s_standings : Sp} (B : Blt mg cv) (hr : Room k (A.deeper (envOfC "law" (defScope (top 22)) s.heap.objs.size f cdv))) (F__law_draw : Fu P w K mg base "_law_draw" k__law_draw ["tape", "many"] s__law_draw) (H__law_draw : k__law_draw ≤ k) (F__law_standing : Fu P w K mg base "_law_standing" k__law_standing ["tape", "many"] s__law_standing) (H__law_standing : k__law_standing ≤ k) (F__law_any : Fu P w K mg base "_law_any" k__law_any ["tape", "deep"] s__law_any) (H__law_any : k__law_any ≤ k) (F__law_spoilt : Fu P w K mg base "_law_spoilt" k__law_spoilt ["tape", "item"] s__law_spoilt) (H__law_spoilt : k__law_spoilt ≤ k) (F__law_like : Fu P w K mg base "_law_like" k__law_like ["one", "two"] s__law_like) (H__law_like : k__law_like ≤ k) (F__law_is_standing : Fu P w K mg base "_law_is_standing" k__law_is_standing ["item"] s__law_is_standing) (H__law_is_standing : k__law_is_standing ≤ k) (F_is_standing : Fu P w K mg base "is_standing" k_is_standing ["thing"] s_is_standing) (H_is_standing : k_is_standing ≤ k) (F__law_in : Fu P w K mg base "_law_in" k__law_in ["standing", "doll"] s__law_in) (H__law_in : k__law_in ≤ k) (F_within : Fu P w K mg base "within" k_within ["standing", "doll"] s_within) (H_within : k_within ≤ k) (F__law_every : Fu P w K mg base "_law_every" k__law_every ["many"] s__law_every) (H__law_every : k__law_every ≤ k) (F_standings : Fu P w K mg base "standings" k_standings ["many"] s_standings) (H_standings : k_standings ≤ k) : PSs (cxOf CX0 P w K mg base N_law "law" (defScope (top 22)) f cdv A outer s H E).nox (defBody (top 22)) (t_law K s__law_draw s__law_standing s__law_any s__law_spoilt s__law_like s__law_is_standing s_is_standing s__law_in s_within s__law_every s_standings) :=
  (pss_cons (ps_set (i := 1) sc_law.nd rfl (Or.inl rfl) (pe_lst (pa_cons (pe_callTy call_listU rfl B.b_list PyProof.Rows.boot_list (pa_cons (pv 0) pa_nil)) (pa_cons pe_int (pa_cons pe_int pa_nil))))) (pss_cons (ps_for PassesOwn.never rfl (pi_range1 rfl B.b_range (pa_cons pe_int pa_nil)) (pg_name (i := 2) sc_law.nd rfl (Or.inl rfl)) (pss_cons (ps_set (i := 3) sc_law.nd rfl (Or.inl rfl) (pe_op op_addU pe_int (pe_fu F__law_draw (hr.mono H__law_draw) rfl (pa_cons (pv 1) (pa_cons pe_int pa_nil))))) (pss_cons (ps_set (i := 4) sc_law.nd rfl (Or.inl rfl) (pe_fu F__law_standing (hr.mono H__law_standing) rfl (pa_cons (pv 1) (pa_cons (pv 3) pa_nil)))) (pss_cons (ps_set (i := 5) sc_law.nd rfl (Or.inl rfl) (pe_lst (pa_cons (pv 4) (pa_cons (pe_callTy call_listU rfl B.b_list PyProof.Rows.boot_list (pa_cons (pv 4) pa_nil)) (pa_cons (pe_revT (pv 4)) (pa_cons (pe_slice sl_U (pv 4) (po_some pe_int) po_none) (pa_cons (pe_tupF pa_nil) (pa_cons (pe_tupF (pa_cons (pe_tupF pa_nil) pa_nil)) (pa_cons (pe_tupF (pa_cons (pe_tupF (pa_cons pe_int pa_nil)) pa_nil)) pa_nil))))))))) (pss_cons (ps_expr (pe_bm PySem.F.plainAttrs_list PySem.F.slot_list_append PySem.F.type_list_append mt_append (pv 5) (pa_cons (pe_op op_addU (pv 4) (pe_tupF (pa_cons (pe_tupF (pa_cons (pe_op op_addU (pv 3) pe_int) pa_nil)) pa_nil))) pa_nil))) (pss_cons (ps_set (i := 5) sc_law.nd rfl (Or.inl rfl) (pe_op op_addU (pv 5) (pe_lst (pa_cons (pe_tupF (pa_cons (pe_tupF (pa_cons pe_bl pa_nil)) pa_nil)) (pa_cons (pe_tupF (pa_cons (pe_tupF (pa_cons pe_int (pa_cons pe_int pa_nil))) pa_nil)) (pa_cons (pe_tupF (pa_cons (pe_tupF (pa_cons pe_int (pa_cons pe_int pa_nil))) pa_nil)) (pa_cons (pe_fu F__law_any (hr.mono H__law_any) rfl (pa_cons (pv 1) (pa_cons pe_int pa_nil))) pa_nil))))))) (pss_cons (ps_expr (pe_bm PySem.F.plainAttrs_list PySem.F.slot_list_append PySem.F.type_list_append mt_append (pv 5) (pa_cons (pe_callTy call_tupleF rfl B.b_tuple PyProof.Rows.boot_tuple (pa_cons (pe_lc (own := [("doll", 8)]) (g := (gName 8)) (tt := tYes) (te := (tTupF (tCons (tVar 8) tNil))) rfl sc_law.nd (pi_range2 rfl B.b_range (pa_cons pe_int (pa_cons pe_int pa_nil))) (blkOk_by (N := N_law) (sc := defScope (top 22)) (by decide +kernel)) (fun _ _ _ _ _ => (pg_name (i := 8) sc_law.nd rfl (Or.inl rfl))) (fun _ _ _ _ _ => pts_nil) (fun _ _ _ _ _ => (pe_tupF (pa_cons (pv 8) pa_nil)))) pa_nil)) pa_nil))) (pss_cons (ps_for PassesOwn.never rfl (pi_range1 rfl B.b_range (pa_cons pe_int pa_nil)) (pg_name (i := 6) sc_law.nd rfl (Or.inl rfl)) (pss_cons (ps_expr (pe_bm PySem.F.plainAttrs_list PySem.F.slot_list_append PySem.F.type_list_append mt_append (pv 5) (pa_cons (pe_fu F__law_spoilt (hr.mono H__law_spoilt) rfl (pa_cons (pv 1) (pa_cons (pv 4) pa_nil))) pa_nil))) (pss_one (ps_expr (pe_bm PySem.F.plainAttrs_list PySem.F.slot_list_append PySem.F.type_list_append mt_append (pv 5) (pa_cons (pe_fu F__law_spoilt (hr.mono H__law_spoilt) rfl (pa_cons (pv 1) (pa_cons (pe_ix ix_seq (pv 5) (pe_un un_neg pe_int) (fun _ _ => rfl)) pa_nil))) pa_nil)))))) (pss_cons (ps_for PassesOwn.never rfl (pi_list (pv 5)) (pg_name (i := 7) sc_law.nd rfl (Or.inl rfl)) (pss_one (ps_if (pt_not (pt_val (pe_fu F__law_like (hr.mono H__law_like) rfl (pa_cons (pe_fu F_is_standing (hr.mono H_is_standing) rfl (pa_cons (pv 7) pa_nil)) (pa_cons (pe_fu F__law_is_standing (hr.mono H__law_is_standing) rfl (pa_cons (pv 7) pa_nil)) pa_nil))))) (pss_one (ps_ret pe_bl)) pss_nil))) (pss_one (ps_for PassesOwn.never rfl (pi_range2 rfl B.b_range (pa_cons pe_int (pa_cons (pe_op op_addU (pv 3) pe_int) pa_nil))) (pg_name (i := 8) sc_law.nd rfl (Or.inl rfl)) (pss_one (ps_if (pt_not (pt_val (pe_fu F__law_like (hr.mono H__law_like) rfl (pa_cons (pe_fu F_within (hr.mono H_within) rfl (pa_cons (pv 4) (pa_cons (pv 8) pa_nil))) (pa_cons (pe_fu F__law_in (hr.mono H__law_in) rfl (pa_cons (pv 4) (pa_cons (pv 8) pa_nil))) pa_nil))))) (pss_one (ps_ret pe_bl)) pss_nil))))))))))))) (pss_cons (ps_set (i := 9) sc_law.nd rfl (Or.inl rfl) (pe_ix ix_seq (pe_lst (pa_cons pe_int (pa_cons pe_int (pa_cons pe_int (pa_cons pe_int (pa_cons pe_int (pa_cons pe_int pa_nil))))))) (pe_fu F__law_draw (hr.mono H__law_draw) rfl (pa_cons (pv 1) (pa_cons pe_int pa_nil))) (fun _ _ => rfl))) (pss_one (ps_ret (pe_and (pe_fu F__law_like (hr.mono H__law_like) rfl (pa_cons (pe_fu F_standings (hr.mono H_standings) rfl (pa_cons (pv 9) pa_nil)) (pa_cons (pe_fu F__law_every (hr.mono H__law_every) rfl (pa_cons (pv 9) pa_nil)) pa_nil))) (pe_one (pe_cmpR (op_eqD hr.units) (pe_callB call_lenU rfl B.b_len PySem.boot_len (pa_cons (pe_fu F_standings (hr.mono H_standings) rfl (pa_cons (pv 9) pa_nil)) pa_nil)) (pe_ix ix_seq (pe_tupF (pa_cons pe_int (pa_cons pe_int (pa_cons pe_int (pa_cons pe_int (pa_cons pe_int (pa_cons pe_int pa_nil))))))) (pe_op op_sub (pv 9) pe_int) (fun _ _ => rfl)) (nomark _)))))))))
end K1

set_option maxHeartbeats 1000000
namespace K1
open PySem PySem.Spec PyProof.Rows L2 PL
variable {K : PySem.W.Frag} {TL : List Addr}
def wholeB (d : PyData) : Bool := isTy "int" d && !isTy "bool" d
theorem whole_int {d : PyData} (h : wholeB d = true) : ∃ i, d = .int i := by
  unfold wholeB at h
  cases d with
  | int i => exact ⟨i, rfl⟩
  | _ => simp [isTy] at h
theorem whole_of (i : Int) : wholeB (.int i) = true := rfl
/-! ### is_whole, _law_whole -/
def sWhole (K : PySem.W.Frag) (TL : List Addr) : Sp := spD K TL (fun ds => ∃ d, ds = [d]) (fun ds r => ∃ d, ds = [d] ∧ r = .bool (wholeB d))
theorem sWhole_len (vs : List V) (H : Hp) (Q : VK) (E : XK) (h : sWhole K TL vs H Q E) : vs.length = 1 := spD_len (fun ds ⟨d, e⟩ => by rw [e]; rfl) vs H Q E h
theorem p_is_whole (vs : List V) (H : Hp) (Q : VK) (E : XK) (h : sWhole K TL vs H Q E) : t_is_whole K { nx := fun _ H' => Q .non H', rt := Q } (start N_is_whole vs) H :=
  body_D 1 rfl h (by rw [sWhole_len vs H Q E h]; decide) fun F ds ⟨d, e⟩ _ => by
    subst e
    refine sx_ret (ex_andV (ex_isi ok_int (ex_var rfl rfl ⟨d, rfl, _, rfl, ?_⟩)))
    have fin : ∀ b, b = wholeB d → ∃ d_1, view [] (.dat (.bool b)) = some d_1 ∧ ∃ d_2, [d] = [d_2] ∧ d_1 = .bool (wholeB d_2) := fun b e => ⟨_, rfl, d, rfl, by rw [e]⟩
    cases h1 : isTy "int" d with
    | false => exact iteF (fin _ (by unfold wholeB; rw [h1]; rfl))
    | true => exact iteT (ex_notV (ex_isi ok_bool (ex_var rfl rfl ⟨d, rfl, _, rfl, fin _ (by unfold wholeB; rw [h1]; rfl)⟩)))
theorem p__law_whole (vs : List V) (H : Hp) (Q : VK) (E : XK) (h : sWhole K TL vs H Q E) : t__law_whole K { nx := fun _ H' => Q .non H', rt := Q } (start N__law_whole vs) H := p_is_whole vs H Q E h
/-! ### is_rising -/
def sRise (K : PySem.W.Frag) (TL : List Addr) : Sp := spD K TL (fun ds => ∃ xs, ds = [.tuple xs] ∧ AdjOk xs) (fun ds r => ∃ xs, ds = [.tuple xs] ∧ r = .bool (riseB xs))
theorem sRise_len (vs : List V) (H : Hp) (Q : VK) (E : XK) (h : sRise K TL vs H Q E) : vs.length = 1 := spD_len (fun ds ⟨d, e, _⟩ => by rw [e]; rfl) vs H Q E h
theorem zip_mem {xs ys : List PyData} {it : Itm} (h : it ∈ zipD xs ys) : ∃ a b, it = .two a b ∧ a ∈ xs ∧ b ∈ ys := by
  unfold zipD at h
  obtain ⟨p, hp, rfl⟩ := List.mem_map.mp h
  exact ⟨p.1, p.2, rfl, (List.of_mem_zip (a := p.1) (b := p.2) hp).1, (List.of_mem_zip (a := p.1) (b := p.2) hp).2⟩
theorem p_is_rising {PT : Addr} (hP : PT ∈ TL) (vs : List V) (H : Hp) (Q : VK) (E : XK) (h : sRise K TL vs H Q E) : t_is_rising K PT { nx := fun _ H' => Q .non H', rt := Q } (start N_is_rising vs) H :=
  body_D 3 rfl h (by rw [sRise_len vs H Q E h]; decide) fun F ds ⟨xs, e, al, no⟩ _ => by
    subst e
    refine sx_ret (ex_allP [1, 2] ltI hP (ix_zipT (ax_cons (ex_var rfl rfl (ax_cons (ex_sl (ex_var rfl rfl (ox_some (ex_c rfl ⟨1, rfl, ox_none ⟨.tuple xs, _, rfl, rfl, ax_nil ⟨xs, _, rfl, ?_, ?_⟩⟩⟩))))))))) 
    · intro F it hit
      obtain ⟨a, b, rfl, ha, hb⟩ := zip_mem hit
      have hb' : b ∈ xs := by
        rw [show cutD xs (some 1) none = xs.drop 1 from cut_lo xs 1] at hb
        exact List.mem_of_mem_drop hb
      refine gx_two (by decide) (by decide) (ex_op (ex_var rfl rfl (ex_var rfl rfl ⟨a, b, _, rfl, rfl, ⟨al a ha b hb', (no a ha).1, (no a ha).2, rfl⟩, rfl, rfl⟩)))
    · refine ⟨_, rfl, xs, rfl, ?_⟩
      rw [show cutD xs (some 1) none = xs.drop 1 from cut_lo xs 1, rise_zip]
/-! ### is_stack -/
def stackB : PyData → Bool
  | .tuple xs => !xs.isEmpty && (xs.all wholeB && riseB xs)
  | _ => false
theorem stackB_tup (xs : List PyData) : stackB (.tuple xs) = (!xs.isEmpty && (xs.all wholeB && riseB xs)) := rfl
theorem wholes {xs : List PyData} (h : xs.all wholeB = true) : ∃ ns : List Int, xs = ns.map .int := by
  induction xs with
  | nil => exact ⟨[], rfl⟩
  | cons x xs ih =>
    rw [List.all_cons, Bool.and_eq_true] at h
    obtain ⟨i, rfl⟩ := whole_int h.1
    obtain ⟨ns, rfl⟩ := ih h.2
    exact ⟨i :: ns, rfl⟩
theorem adj_ints (ns : List Int) : AdjOk (ns.map .int) := by
  refine ⟨fun d hd e he => ?_, fun d hd => ?_⟩
  · obtain ⟨i, _, rfl⟩ := List.mem_map.mp hd
    obtain ⟨j, _, rfl⟩ := List.mem_map.mp he
    simp [PySem.W.alike]
  · obtain ⟨i, _, rfl⟩ := List.mem_map.mp hd
    exact ⟨by simp, by simp [PyData.depth]⟩
def sStack (K : PySem.W.Frag) (TL : List Addr) : Sp := spD K TL (fun ds => ∃ d, ds = [d]) (fun ds r => ∃ d, ds = [d] ∧ r = .bool (stackB d))
theorem sStack_len (vs : List V) (H : Hp) (Q : VK) (E : XK) (h : sStack K TL vs H Q E) : vs.length = 1 := spD_len (fun ds ⟨d, e⟩ => by rw [e]; rfl) vs H Q E h
theorem isTy_tuple {d : PyData} (h : isTy "tuple" d = true) : ∃ xs, d = .tuple xs := by
  cases d with
  | tuple xs => exact ⟨xs, rfl⟩
  | _ => simp [isTy] at h
theorem p_is_stack {PT : Addr} (hP : PT ∈ TL) (vs : List V) (H : Hp) (Q : VK) (E : XK) (h : sStack K TL vs H Q E) : t_is_stack K (sWhole K TL) (sRise K TL) PT { nx := fun _ H' => Q .non H', rt := Q } (start N_is_stack vs) H :=
  body_D 2 rfl h (by rw [sStack_len vs H Q E h]; decide) fun F ds ⟨d, e⟩ _ => by
    subst e
    have fin : ∀ b, b = stackB d → ∃ d_1, view [] (.dat (.bool b)) = some d_1 ∧ ∃ d_2, [d] = [d_2] ∧ d_1 = .bool (stackB d_2) := fun b e => ⟨_, rfl, d, rfl, by rw [e]⟩
    refine sx_seq (sx_if (tx_or (tx_not (tx_B (ex_isi ok_tuple (ex_var rfl rfl ⟨d, rfl, _, rfl, ?_⟩))))))
    cases h1 : isTy "tuple" d with
    | false =>
      refine iteT (iteT (sx_ret (ex_c rfl (fin _ ?_))))
      cases d <;> first | rfl | simp [isTy] at h1
    | true =>
      obtain ⟨xs, rfl⟩ := isTy_tuple h1
      refine iteF (tx_test (ex_op (ex_len (ex_var rfl rfl ⟨.tuple xs, _, rfl, rfl, ex_c rfl ⟨_, _, _, rfl, rfl, pEq_int _ _, _, rfl, ?_⟩⟩))))
      cases xs with
      | nil => exact iteT (sx_ret (ex_c rfl (fin _ rfl)))
      | cons x xs =>
        rw [decide_eq_false (by simp only [List.length_cons]; omega)]
        refine iteF (sx_next (sx_ret (ex_andV (ex_allP [1] (fun it => match it with | .one d => wholeB d | .two _ _ => true) hP (ix_tup (ex_var rfl rfl ⟨x :: xs, rfl, ?_, _, rfl, ?_⟩))))))
        · intro F it hit
          obtain ⟨e, he, rfl⟩ := List.mem_map.mp hit
          refine gx_name (by decide) (ex_call (ax_cons (ex_var rfl rfl (ax_nil ⟨[e], rfl, ⟨e, rfl⟩, ?_⟩))))
          rintro r ⟨e', h1, rfl⟩
          cases h1
          exact ⟨rfl, rfl⟩
        · rw [List.all_map, show ((fun it => match it with | Itm.one d => wholeB d | Itm.two _ _ => true) ∘ Itm.one) = wholeB from rfl]
          cases h2 : (x :: xs).all wholeB with
          | false => exact iteF (fin _ (by rw [stackB_tup, h2]; rfl))
          | true =>
            obtain ⟨ns, e⟩ := wholes h2
            refine iteT (ex_call (ax_cons (ex_var rfl rfl (ax_nil ⟨[.tuple (x :: xs)], rfl, ⟨x :: xs, rfl, by rw [e]; exact adj_ints ns⟩, ?_⟩))))
            rintro r ⟨ys, h3, rfl⟩
            cases h3
            exact fin _ (by rw [stackB_tup, h2]; rfl)
end K1

set_option maxHeartbeats 1000000
namespace K1
open PySem PySem.Spec PyProof.Rows L2 PL
variable {K : PySem.W.Frag} {TL : List Addr}
def itemsOf : PyData → List PyData
  | .tuple xs => xs
  | _ => []
def flatS (ss : List PyData) : List PyData := ss.flatMap itemsOf
def stdT (ss : List PyData) : Bool := ss.all stackB && ((decide (1 ≤ (flatS ss).length) && decide ((flatS ss).length ≤ 6)) && (PyData.eqv (.list (sortD (flatS ss))) (.list (rgD 1 ((flatS ss).length + 1))) && riseB ss))
def stdB : PyData → Bool
  | .tuple ss => stdT ss
  | _ => false
theorem stack_ints {d : PyData} (h : stackB d = true) : ∃ ns : List Int, d = .tuple (ns.map .int) ∧ ns ≠ [] := by
  cases d with
  | tuple xs =>
    rw [stackB_tup, Bool.and_eq_true, Bool.and_eq_true] at h
    obtain ⟨ns, rfl⟩ := wholes h.2.1
    refine ⟨ns, rfl, fun e => ?_⟩
    rw [e] at h
    simp at h
  | _ => cases h
/-- tuples of ints -/
def IntTs (ss : List PyData) : Prop := ∀ d ∈ ss, ∃ ns : List Int, d = .tuple (ns.map .int) ∧ ns ≠ []
theorem stacks_ints {ss : List PyData} (h : ss.all stackB = true) : IntTs ss := fun d hd => stack_ints (List.all_eq_true.mp h d hd)
theorem flat_ints {ss : List PyData} (h : IntTs ss) : ∃ ns : List Int, flatS ss = ns.map .int := by
  induction ss with
  | nil => exact ⟨[], rfl⟩
  | cons d ss ih =>
    obtain ⟨ns, rfl, _⟩ := h d List.mem_cons_self
    obtain ⟨ms, e⟩ := ih fun e he => h e (List.mem_cons_of_mem _ he)
    refine ⟨ns ++ ms, ?_⟩
    unfold flatS at e ⊢
    rw [List.flatMap_cons, e, List.map_append]
    rfl
theorem alikeAll_ints : ∀ ns ms : List Int, PySem.W.alikeAll (ns.map .int) (ms.map .int) = true
  | [], _ => by simp [PySem.W.alikeAll]
  | _ :: _, [] => by simp [PySem.W.alikeAll]
  | n :: ns, m :: ms => by
    rw [List.map_cons, List.map_cons, PySem.W.alikeAll, alikeAll_ints ns ms]
    simp [PySem.W.alike]
theorem depth_ints (ns : List Int) : (PyData.tuple (ns.map .int)).depth ≤ 1 := (gd_intsT (m := ns.length) 0 ns (Nat.le_refl _)).depth
theorem adj_intTs {ss : List PyData} (h : IntTs ss) : AdjOk ss := by
  refine ⟨fun d hd e he => ?_, fun d hd => ?_⟩
  · obtain ⟨ns, rfl, _⟩ := h d hd
    obtain ⟨ms, rfl, _⟩ := h e he
    rw [PySem.W.alike]
    exact alikeAll_ints ns ms
  · obtain ⟨ns, rfl, _⟩ := h d hd
    exact ⟨by simp, Nat.le_trans (depth_ints ns) (by decide)⟩
theorem sort_len (ds : List PyData) : (sortD ds).length = ds.length := List.length_mergeSort ds
theorem sort_perm (ds : List PyData) : (sortD ds).Perm ds := List.mergeSort_perm ds _
theorem sort_ints (ns : List Int) : ∃ ms : List Int, sortD (ns.map .int) = ms.map .int ∧ ms.length = ns.length := by
  have h : ∀ d ∈ sortD (ns.map .int), wholeB d = true := fun d hd => by
    obtain ⟨i, _, rfl⟩ := List.mem_map.mp ((sort_perm _).mem_iff.mp hd)
    rfl
  obtain ⟨ms, e⟩ := wholes (List.all_eq_true.mpr h)
  refine ⟨ms, e, ?_⟩
  have := sort_len (ns.map .int)
  rw [e, List.length_map, List.length_map] at this
  exact this
theorem sortable_ints (ns : List Int) : PySem.W.Sortable (ns.map .int) := .inr fun d hd => by
  obtain ⟨i, _, rfl⟩ := List.mem_map.mp hd
  exact ⟨by simp, by simp⟩
theorem flat_len {m : Nat} {ss : List PyData} (h : ∀ d ∈ ss, (itemsOf d).length ≤ m) : (flatS ss).length ≤ ss.length * m := by
  unfold flatS
  induction ss with
  | nil => simp
  | cons d ss ih =>
    rw [List.flatMap_cons, List.length_append, List.length_cons, Nat.succ_mul]
    have h1 := h d List.mem_cons_self
    have h2 := ih fun e he => h e (List.mem_cons_of_mem _ he)
    omega
theorem gd_itemsLen {m n : Nat} {d : PyData} (h : Gd m n d) : (itemsOf d).length ≤ m := by
  cases d with
  | tuple xs => exact h.tupN.1
  | _ => simp [itemsOf]
/-! ### is_standing -/
def sStd (K : PySem.W.Frag) (TL : List Addr) : Sp := spD K TL (fun ds => ∃ d, ds = [d] ∧ Gd 500 50 d) (fun ds r => ∃ d, ds = [d] ∧ r = .bool (stdB d))
theorem sStd_len (vs : List V) (H : Hp) (Q : VK) (E : XK) (h : sStd K TL vs H Q E) : vs.length = 1 := spD_len (fun ds ⟨d, e, _⟩ => by rw [e]; rfl) vs H Q E h
theorem stdB_tup (ss : List PyData) : stdB (.tuple ss) = (ss.all stackB && ((decide (1 ≤ (flatS ss).length) && decide ((flatS ss).length ≤ 6)) && (PyData.eqv (.list (sortD (flatS ss))) (.list (rgD 1 ((flatS ss).length + 1))) && riseB ss))) := rfl
def oneI (f : PyData → Bool) : Itm → Bool
  | .one d => f d
  | .two _ _ => true
theorem all_oneI (f : PyData → Bool) (ds : List PyData) : (ds.map Itm.one).all (oneI f) = ds.all f := by
  rw [List.all_map]
  rfl
def itI : Itm → List Itm
  | .one d => (itemsOf d).map .one
  | .two _ _ => []
def dI : Itm → PyData
  | .one d => d
  | .two d _ => d
theorem flat_it (ss : List PyData) : ((ss.map Itm.one).flatMap fun d => (itI d).map ((fun _ e => dI e) d)) = flatS ss := by
  unfold flatS
  induction ss with
  | nil => rfl
  | cons s ss ih =>
    rw [List.map_cons, List.flatMap_cons, List.flatMap_cons, ih]
    congr 1
    unfold itI
    rw [List.map_map]
    exact List.map_id' _
/-! ### dolls_of -/
def sDs (K : PySem.W.Frag) (TL : List Addr) : Sp := spD K TL (fun ds => ∃ ss, ds = [.tuple ss] ∧ IntTs ss ∧ (flatS ss).length < 1000000) (fun ds r => ∃ ss, ds = [.tuple ss] ∧ r = .list (sortD (flatS ss)))
theorem sDs_len (vs : List V) (H : Hp) (Q : VK) (E : XK) (h : sDs K TL vs H Q E) : vs.length = 1 := spD_len (fun ds ⟨d, e, _⟩ => by rw [e]; rfl) vs H Q E h
theorem p_dolls_of (vs : List V) (H : Hp) (Q : VK) (E : XK) (h : sDs K TL vs H Q E) : t_dolls_of K { nx := fun _ H' => Q .non H', rt := Q } (start N_dolls_of vs) H :=
  body_D 3 rfl h (by rw [sDs_len vs H Q E h]; decide) fun F ds ⟨ss, e, hi, fl⟩ _ => by
    subst e
    obtain ⟨ns, ens⟩ := flat_ints hi
    refine sx_ret (ex_new (en_sorted (ex_new (en_lc2P [1, 2] [2] itI (fun _ e => dI e) (ix_tup (ex_var rfl rfl ⟨ss, rfl, ?_, ?_, ?_⟩))))))
    · rw [flat_it]
      exact fl
    · intro F it hit
      obtain ⟨e, he, rfl⟩ := List.mem_map.mp hit
      obtain ⟨es, rfl, _⟩ := hi e he
      refine gx_name (by decide) (ix_tup (ex_var rfl rfl ⟨_, rfl, rfl, rfl, ?_⟩))
      intro F jt hjt
      obtain ⟨x, hx, rfl⟩ := List.mem_map.mp hjt
      exact gx_name (by decide) (ex_var rfl rfl ⟨rfl, rfl⟩)
    rw [flat_it]
    refine ⟨flatS ss, rfl, by rw [ens]; exact (adj_ints ns).1, by rw [ens]; exact sortable_ints ns, fun d hd => ?_, _, rfl, ss, rfl, rfl⟩
    rw [ens] at hd
    exact ((adj_ints ns).2 d hd).2
theorem p_is_standing {PT : Addr} (hP : PT ∈ TL) (vs : List V) (H : Hp) (Q : VK) (E : XK) (h : sStd K TL vs H Q E) : t_is_standing K (sStack K TL) (sDs K TL) (sRise K TL) PT { nx := fun _ H' => Q .non H', rt := Q } (start N_is_standing vs) H :=
  body_D 4 rfl h (by rw [sStd_len vs H Q E h]; decide) fun F ds ⟨d, e, gd⟩ _ => by
    subst e
    have fin : ∀ b, b = stdB d → ∃ d_1, view [] (.dat (.bool b)) = some d_1 ∧ ∃ d_2, [d] = [d_2] ∧ d_1 = .bool (stdB d_2) := fun b e => ⟨_, rfl, d, rfl, by rw [e]⟩
    refine sx_seq (sx_if (tx_or (tx_not (tx_B (ex_isi ok_tuple (ex_var rfl rfl ⟨d, rfl, _, rfl, ?_⟩))))))
    cases h1 : isTy "tuple" d with
    | false =>
      refine iteT (iteT (sx_ret (ex_c rfl (fin _ ?_))))
      cases d <;> first | rfl | simp [isTy] at h1
    | true =>
      obtain ⟨ss, rfl⟩ := isTy_tuple h1
      refine iteF (tx_not (tx_B (ex_allP [3] (oneI stackB) hP (ix_tup (ex_var rfl rfl ⟨ss, rfl, ?_, _, rfl, ?_⟩)))))
      · intro F it hit
        obtain ⟨e, he, rfl⟩ := List.mem_map.mp hit
        refine gx_name (by decide) (ex_call (ax_cons (ex_var rfl rfl (ax_nil ⟨[e], rfl, ⟨e, rfl⟩, ?_⟩))))
        rintro r ⟨e', h1, rfl⟩
        cases h1
        exact ⟨rfl, rfl⟩
      rw [all_oneI]
      cases h2 : ss.all stackB with
      | false => exact iteT (sx_ret (ex_c rfl (fin _ (by rw [stdB_tup, h2]; rfl))))
      | true =>
        have hi := stacks_ints h2
        obtain ⟨ns, ens⟩ := flat_ints hi
        obtain ⟨gl, gi⟩ := gd.tupN
        have fl : (flatS ss).length < 1000000 := by
          have h3 := flat_len (m := 500) fun d hd => gd_itemsLen (gi d hd)
          have h4 : ss.length * 500 ≤ 500 * 500 := Nat.mul_le_mul_right _ gl
          omega
        refine iteF (sx_next (sx_seq (sx_asg (ex_call (ax_cons (ex_var rfl rfl (ax_nil ⟨[.tuple ss], rfl, ⟨ss, rfl, hi, fl⟩, ?_⟩)))))))
        rintro r ⟨ss', e, rfl⟩
        cases e
        have el : (sortD (flatS ss)).length = (flatS ss).length := sort_len _
        obtain ⟨ms, ems, _⟩ := sort_ints ns
        rw [← ens] at ems
        refine sx_seq (sx_asg (ex_len (ex_var rfl rfl ⟨.list (sortD (flatS ss)), _, rfl, rfl, ?_⟩)))
        rw [el]
        refine sx_seq (sx_if (tx_or (tx_test (ex_op (ex_var rfl rfl (ex_c rfl ⟨_, _, _, rfl, rfl, pLt_int _ _, _, rfl, ?_⟩))))))
        by_cases h3 : 1 ≤ (flatS ss).length
        · rw [decide_eq_false (by omega)]
          refine iteF (tx_test (ex_op (ex_var rfl rfl (ex_c rfl ⟨_, _, _, rfl, rfl, ⟨_, _, rfl, rfl, trivial, rfl⟩, _, rfl, ?_⟩))))
          by_cases h4 : (flatS ss).length ≤ 6
          · rw [decide_eq_false (by omega)]
            have fin2 : ∀ b, b = (PyData.eqv (.list (sortD (flatS ss))) (.list (rgD 1 ((flatS ss).length + 1))) && riseB ss) → ∃ d_1, view [] (.dat (.bool b)) = some d_1 ∧ ∃ d_2, [PyData.tuple ss] = [d_2] ∧ d_1 = .bool (stdB d_2) := fun b e => fin b (by
              rw [e, stdB_tup, h2, decide_eq_true h3, decide_eq_true h4]
              rfl)
            refine iteF (sx_next (sx_ret (ex_andV (ex_op (ex_var rfl rfl (ex_new (en_listRg2 (ex_c rfl (ex_op (ex_var rfl rfl (ex_c rfl ⟨_, _, _, rfl, rfl, rfl, 1, _, rfl, rfl, ?_, ?_⟩)))))))))))
            · exact ⟨by omega, by omega, by omega, by omega⟩
            refine ⟨_, _, _, rfl, rfl, ⟨by rw [ems]; exact shaped_ints ms, by rw [rgD_ints]; exact shaped_ints _, rfl⟩, _, rfl, ?_⟩
            cases h5 : PyData.eqv (.list (sortD (flatS ss))) (.list (rgD 1 ((flatS ss).length + 1))) with
            | false => exact iteF (fin2 _ (by rw [h5]; rfl))
            | true =>
              refine iteT (ex_call (ax_cons (ex_var rfl rfl (ax_nil ⟨[.tuple ss], rfl, ⟨ss, rfl, adj_intTs hi⟩, ?_⟩))))
              rintro r ⟨ys, h6, rfl⟩
              cases h6
              exact fin2 _ (by rw [h5]; rfl)
          · rw [decide_eq_true (by omega)]
            exact iteT (sx_ret (ex_c rfl (fin _ (by rw [stdB_tup, h2, decide_eq_false h4]; simp))))
        · rw [decide_eq_true (by omega)]
          exact iteT (iteT (sx_ret (ex_c rfl (fin _ (by rw [stdB_tup, h2, decide_eq_false h3]; simp)))))
end K1

set_option maxHeartbeats 1000000
namespace K1
open PySem PySem.Spec PyProof.Rows L2 PL
variable {K : PySem.W.Frag} {TL : List Addr}
def inB (lo hi : Int) : PyData → Bool
  | .int i => decide (lo ≤ i) && decide (i ≤ hi)
  | _ => false
theorem inB_whole {lo hi : Int} {d : PyData} (h : inB lo hi d = true) : wholeB d = true := by
  cases d with
  | int i => rfl
  | _ => cases h
/-! ### _law_within -/
def sIn3 (K : PySem.W.Frag) (TL : List Addr) : Sp := spD K TL (fun ds => ∃ d lo hi, ds = [d, .int lo, .int hi]) (fun ds r => ∃ d lo hi, ds = [d, .int lo, .int hi] ∧ r = .bool (inB lo hi d))
theorem sIn3_len (vs : List V) (H : Hp) (Q : VK) (E : XK) (h : sIn3 K TL vs H Q E) : vs.length = 3 := spD_len (fun ds ⟨d, lo, hi, e⟩ => by rw [e]; rfl) vs H Q E h
theorem p__law_within (vs : List V) (H : Hp) (Q : VK) (E : XK) (h : sIn3 K TL vs H Q E) : t__law_within K (sWhole K TL) { nx := fun _ H' => Q .non H', rt := Q } (start N__law_within vs) H :=
  body_D 3 rfl h (by rw [sIn3_len vs H Q E h]; decide) fun F ds ⟨d, lo, hi, e⟩ _ => by
    subst e
    have fin : ∀ b, b = inB lo hi d → ∃ d_1, view [] (.dat (.bool b)) = some d_1 ∧ ∃ d_2 lo_1 hi_1, [d, .int lo, .int hi] = [d_2, .int lo_1, .int hi_1] ∧ d_1 = .bool (inB lo_1 hi_1 d_2) := fun b e => ⟨_, rfl, d, lo, hi, rfl, by rw [e]⟩
    refine sx_ret (ex_andV (ex_call (ax_cons (ex_var rfl rfl (ax_nil ⟨[d], rfl, ⟨d, rfl⟩, ?_⟩)))))
    rintro r ⟨d', e, rfl⟩
    cases e
    refine ⟨_, rfl, ?_⟩
    cases h1 : wholeB d with
    | false =>
      refine iteF (fin _ ?_)
      cases h2 : inB lo hi d with
      | false => rfl
      | true => rw [inB_whole h2] at h1; cases h1
    | true =>
      obtain ⟨i, rfl⟩ := whole_int h1
      refine iteT (ex_chain (ex_var rfl rfl (ex_var rfl rfl ⟨_, _, decide (lo ≤ i), rfl, rfl, ⟨_, _, rfl, rfl, trivial, rfl⟩, ?_⟩)))
      by_cases h2 : lo ≤ i
      · rw [decide_eq_true h2]
        refine iteT (ex_var rfl rfl ⟨_, _, _, rfl, rfl, ⟨_, _, rfl, rfl, trivial, rfl⟩, fin _ ?_⟩)
        show _ = (decide (lo ≤ i) && decide (i ≤ hi))
        rw [decide_eq_true h2, Bool.true_and]
      · rw [decide_eq_false h2]
        refine iteF (fin _ ?_)
        show _ = (decide (lo ≤ i) && decide (i ≤ hi))
        rw [decide_eq_false h2, Bool.false_and]
/-! ### _law_rises -/
theorem rise_iff : ∀ {xs : List PyData}, riseB xs = true ↔ ∀ i a b, xs[i]? = some a → xs[i + 1]? = some b → PySem.W.dataLt a b = true
  | [] => ⟨fun _ i a b h => (by cases h), fun _ => rfl⟩
  | [x] => ⟨fun _ i a b h1 h2 => (by cases h2), fun _ => rfl⟩
  | x :: y :: r => by
    rw [riseB, Bool.and_eq_true, rise_iff (xs := y :: r)]
    constructor
    · rintro ⟨h1, h2⟩ i a b ha hb
      cases i with
      | zero =>
        cases ha
        cases hb
        exact h1
      | succ i => exact h2 i a b ha hb
    · intro h
      exact ⟨h 0 x y rfl rfl, fun i a b ha hb => h (i + 1) a b ha hb⟩
def pR (xs : List PyData) : Itm → Bool
  | .one (.int k) => !PySem.W.dataLt (xs.getD (k - 1).toNat .none) (xs.getD k.toNat .none)
  | _ => false
theorem rises_eq (xs : List PyData) : ((((rgD 1 xs.length).map Itm.one).filter (pR xs)).map dI).isEmpty = riseB xs := by
  rw [List.isEmpty_map, Bool.eq_iff_iff, List.isEmpty_iff, List.filter_eq_nil_iff, rise_iff]
  constructor
  · intro h i a b ha hb
    have hi : i + 1 < xs.length := (List.getElem?_eq_some_iff.mp hb).1
    have hm : Itm.one (.int (1 + (i : Nat))) ∈ (rgD 1 xs.length).map Itm.one := List.mem_map.mpr ⟨_, List.mem_of_getElem? (rgD_get (lo := 1) (hi := xs.length) (i := i) (by omega)), rfl⟩
    have h2 := h _ hm
    unfold pR at h2
    have e1 : ((1 : Int) + (i : Nat) - 1).toNat = i := by omega
    have e2 : ((1 : Int) + (i : Nat)).toNat = i + 1 := by omega
    simp only [e1, e2, List.getD_eq_getElem?_getD, ha, hb, Option.getD_some] at h2
    simpa using h2
  · intro h it hit
    obtain ⟨d, hd, rfl⟩ := List.mem_map.mp hit
    obtain ⟨j, hj⟩ := List.getElem?_of_mem hd
    obtain ⟨rfl, hj2⟩ := rgD_some hj
    have h1 : j < xs.length := by omega
    have h2 : j + 1 < xs.length := by omega
    have h3 := h j _ _ (List.getElem?_eq_getElem h1) (List.getElem?_eq_getElem h2)
    unfold pR
    have e1 : ((1 : Int) + (j : Nat) - 1).toNat = j := by omega
    have e2 : ((1 : Int) + (j : Nat)).toNat = j + 1 := by omega
    simp only [e1, e2, List.getD_eq_getElem?_getD, List.getElem?_eq_getElem h1, List.getElem?_eq_getElem h2, Option.getD_some, h3]
    simp
theorem filt_ints {lo hi : Int} {p : Itm → Bool} : ∃ ns : List Int, ((((rgD lo hi).map Itm.one).filter p).map dI) = ns.map .int := by
  apply wholes
  rw [List.all_eq_true]
  intro d hd
  obtain ⟨it, hit, rfl⟩ := List.mem_map.mp hd
  obtain ⟨e, he, rfl⟩ := List.mem_map.mp (List.mem_filter.mp hit).1
  obtain ⟨j, hj⟩ := List.getElem?_of_mem he
  obtain ⟨rfl, _⟩ := rgD_some hj
  rfl
def sRises (K : PySem.W.Frag) (TL : List Addr) : Sp := spD K TL (fun ds => ∃ xs, ds = [.tuple xs] ∧ AdjOk xs ∧ xs.length ≤ 500) (fun ds r => ∃ xs, ds = [.tuple xs] ∧ r = .bool (riseB xs))
theorem sRises_len (vs : List V) (H : Hp) (Q : VK) (E : XK) (h : sRises K TL vs H Q E) : vs.length = 1 := spD_len (fun ds ⟨d, e, _⟩ => by rw [e]; rfl) vs H Q E h
theorem p__law_rises (vs : List V) (H : Hp) (Q : VK) (E : XK) (h : sRises K TL vs H Q E) : t__law_rises K { nx := fun _ H' => Q .non H', rt := Q } (start N__law_rises vs) H :=
  body_D 2 rfl h (by rw [sRises_len vs H Q E h]; decide) fun F ds ⟨xs, e, ⟨al, no⟩, hl⟩ _ => by
    subst e
    refine sx_ret (ex_op (ex_new (en_lcP [1] (pR xs) dI (ix_rng2 (ax_cons (ex_c rfl (ax_cons (ex_len (ex_var rfl rfl ⟨.tuple xs, _, rfl, rfl, ax_nil ⟨1, xs.length, rfl, ⟨by omega, by omega, by omega, by omega⟩, ?_, ?_, ?_⟩⟩)))))))))
    · rw [List.length_map, rgD_len]
      omega
    · intro F it hit
      obtain ⟨d, hd, rfl⟩ := List.mem_map.mp hit
      obtain ⟨j, hj⟩ := List.getElem?_of_mem hd
      obtain ⟨rfl, hj2⟩ := rgD_some hj
      have h1 : j < xs.length := by omega
      have h2 : j + 1 < xs.length := by omega
      have a1 : atI xs ((1 : Int) + (j : Nat) - 1) = some xs[j] := by
        rw [show (1 : Int) + (j : Nat) - 1 = ((j : Nat) : Int) by omega]
        exact PL.atI_nat (List.getElem?_eq_getElem h1)
      have a2 : atI xs ((1 : Int) + (j : Nat)) = some xs[j + 1] := by
        rw [show (1 : Int) + (j : Nat) = ((j + 1 : Nat) : Int) by omega]
        exact PL.atI_nat (List.getElem?_eq_getElem h2)
      have m1 : xs[j] ∈ xs := List.getElem_mem h1
      have m2 : xs[j + 1] ∈ xs := List.getElem_mem h2
      refine gx_name (by decide) (tx_not (tx_test (ex_op (ex_op (ex_var rfl rfl (ex_op (ex_var rfl rfl (ex_c rfl ⟨_, _, _, rfl, rfl, ⟨_, _, rfl, rfl, trivial, rfl⟩, .tuple xs, _, _, rfl, rfl, a1, ?_⟩)))))))) 
      refine ex_op (ex_var rfl rfl (ex_var rfl rfl ⟨.tuple xs, _, _, rfl, rfl, a2, _, _, _, rfl, rfl, ⟨al _ m1 _ m2, (no _ m1).1, (no _ m1).2, rfl⟩, _, rfl, ?_, rfl, fun _ => ex_var rfl rfl ⟨rfl, rfl⟩⟩))
      unfold pR
      have e1 : ((1 : Int) + (j : Nat) - 1).toNat = j := by omega
      have e2 : ((1 : Int) + (j : Nat)).toNat = j + 1 := by omega
      simp only [e1, e2, List.getD_eq_getElem?_getD, List.getElem?_eq_getElem h1, List.getElem?_eq_getElem h2, Option.getD_some]
    · refine ex_new (en_lst (ax_nil ⟨[], rfl, by decide, _, _, _, rfl, rfl, ⟨?_, shaped_nil, rfl⟩, _, rfl, xs, rfl, ?_⟩))
      · obtain ⟨ns, e⟩ := filt_ints (lo := 1) (hi := xs.length) (p := pR xs)
        rw [e]
        exact shaped_ints ns
      · rw [eqv_nil, rises_eq]
end K1

set_option maxHeartbeats 1000000
namespace K1
open PySem PySem.Spec PyProof.Rows L2 PL
variable {K : PySem.W.Frag} {TL : List Addr}
def lstackB : PyData → Bool
  | .tuple xs => !xs.isEmpty && (xs.all (inB 1 6) && riseB xs)
  | _ => false
theorem lstackB_tup (xs : List PyData) : lstackB (.tuple xs) = (!xs.isEmpty && (xs.all (inB 1 6) && riseB xs)) := rfl
def lstdB : PyData → Bool
  | .tuple ss => !ss.isEmpty && (ss.all lstackB && (riseB ss && PyData.eqv (.list (sortD (flatS ss))) (.list (rgD 1 (1 + (flatS ss).length)))))
  | _ => false
theorem lstdB_tup (ss : List PyData) : lstdB (.tuple ss) = (!ss.isEmpty && (ss.all lstackB && (riseB ss && PyData.eqv (.list (sortD (flatS ss))) (.list (rgD 1 (1 + (flatS ss).length)))))) := rfl
theorem all_in_whole {xs : List PyData} (h : xs.all (inB 1 6) = true) : xs.all wholeB = true := by
  rw [List.all_eq_true] at h ⊢
  exact fun d hd => inB_whole (h d hd)
theorem lstack_ints {ss : List PyData} (h : ss.all lstackB = true) : IntTs ss := fun d hd => by
  have h := List.all_eq_true.mp h d hd
  cases d with
  | tuple xs =>
    rw [lstackB_tup, Bool.and_eq_true, Bool.and_eq_true] at h
    obtain ⟨ns, rfl⟩ := wholes (all_in_whole h.2.1)
    refine ⟨ns, rfl, fun e => ?_⟩
    rw [e] at h
    simp at h
  | _ => cases h
/-! ### _law_is_standing -/
def sLStd (K : PySem.W.Frag) (TL : List Addr) : Sp := spD K TL (fun ds => ∃ d, ds = [d] ∧ Gd 500 50 d) (fun ds r => ∃ d, ds = [d] ∧ r = .bool (lstdB d))
theorem sLStd_len (vs : List V) (H : Hp) (Q : VK) (E : XK) (h : sLStd K TL vs H Q E) : vs.length = 1 := spD_len (fun ds ⟨d, e, _⟩ => by rw [e]; rfl) vs H Q E h
theorem not_all_of {xs : List PyData} {f : PyData → Bool} {d : PyData} {i : Nat} (h : xs[i]? = some d) (hf : f d = false) : xs.all f = false := by
  rw [List.all_eq_false]
  exact ⟨d, List.mem_of_getElem? h, by rw [hf]; exact Bool.false_ne_true⟩
theorem filt_in (xs : List PyData) : ((((xs.map Itm.one).filter (oneI fun d => !inB 1 6 d)).map fun _ => PyData.int 1)).isEmpty = xs.all (inB 1 6) := by
  rw [List.isEmpty_map, Bool.eq_iff_iff, List.isEmpty_iff, List.filter_eq_nil_iff, List.all_eq_true]
  constructor
  · intro h d hd
    have := h (.one d) (List.mem_map.mpr ⟨d, hd, rfl⟩)
    simpa [oneI] using this
  · intro h it hit
    obtain ⟨d, hd, rfl⟩ := List.mem_map.mp hit
    simp [oneI, h d hd]
theorem ones_shaped (l : List Itm) : SeqAt.shaped (.list (l.map fun _ => PyData.int 1)) = true := by
  have e : (l.map fun _ => PyData.int 1) = (l.map fun _ => (1 : Int)).map .int := by rw [List.map_map]; rfl
  rw [e]
  exact shaped_ints _
def lsI : Itm → PyData := fun it => .list (itemsOf (dI it))
theorem lsI_map (ss : List PyData) : ((ss.map Itm.one).filter fun _ => true).map lsI = (ss.map itemsOf).map PyData.list := by
  rw [List.filter_eq_self.mpr (fun _ _ => rfl), List.map_map, List.map_map]
  rfl
theorem p__law_is_standing (vs : List V) (H : Hp) (Q : VK) (E : XK) (h : sLStd K TL vs H Q E) : t__law_is_standing K (sIn3 K TL) (sRises K TL) { nx := fun _ H' => Q .non H', rt := Q } (start N__law_is_standing vs) H :=
  body_D 4 rfl h (by rw [sLStd_len vs H Q E h]; decide) fun F ds ⟨d, e, gd⟩ _ => by
    subst e
    have fin : ∀ S b, b = lstdB d → ∃ d_1, view S (.dat (.bool b)) = some d_1 ∧ ∃ d_2, [d] = [d_2] ∧ d_1 = .bool (lstdB d_2) := fun S b e => ⟨_, rfl, d, rfl, by rw [e]⟩
    refine sx_seq (sx_if (tx_or (tx_not (tx_B (ex_isi ok_tuple (ex_var rfl rfl ⟨d, rfl, _, rfl, ?_⟩))))))
    cases h1 : isTy "tuple" d with
    | false =>
      refine iteT (iteT (sx_ret (ex_c rfl (fin _ _ ?_))))
      cases d <;> first | rfl | simp [isTy] at h1
    | true =>
      obtain ⟨ss, rfl⟩ := isTy_tuple h1
      obtain ⟨gl, gi⟩ := gd.tupN
      refine iteF (tx_test (ex_op (ex_var rfl rfl (ex_tup (ax_nil ⟨[], rfl, by decide, _, _, _, rfl, rfl, ⟨gd.shaped (by decide), shaped_nilT, rfl⟩, _, rfl, ?_⟩)))))
      rw [eqv_nilT]
      cases h0 : ss.isEmpty with
      | true => exact iteT (sx_ret (ex_c rfl (fin _ _ (by rw [lstdB_tup, h0]; rfl))))
      | false =>
        refine iteF (sx_next (sx_seq (sx_for [1] (ix_tup (ex_var rfl rfl ⟨ss, rfl, fun i S' E' => S' = [] ∧ (∃ s1, E' = [.dat (.tuple ss), s1, .no, .no]) ∧ (ss.take i).all lstackB = true, ⟨rfl, ⟨.no, rfl⟩, by simp⟩, ?_, ?_⟩)))))
        · rintro F i it S' E' hit ⟨rfl, ⟨s1, rfl⟩, ha⟩
          obtain ⟨st, hst, rfl⟩ := one_get hit
          have hm : st ∈ ss := List.mem_of_getElem? hst
          have bad : lstackB st = false → ∀ S, ∃ d_1, view S (.dat (.bool false)) = some d_1 ∧ ∃ d_2, [PyData.tuple ss] = [d_2] ∧ d_1 = .bool (lstdB d_2) := fun z S => fin S _ (by rw [lstdB_tup, not_all_of hst z]; simp)
          refine gx_name (by decide) (sx_seq (sx_if (tx_or (tx_not (tx_B (ex_isi ok_tuple (ex_var rfl rfl ⟨st, rfl, _, rfl, ?_⟩)))))))
          cases h2 : isTy "tuple" st with
          | false =>
            refine iteT (iteT (sx_ret (ex_c rfl (bad ?_ _))))
            cases st <;> first | rfl | simp [isTy] at h2
          | true =>
            obtain ⟨xs, rfl⟩ := isTy_tuple h2
            have gx := gi _ hm
            refine iteF (tx_or (tx_test (ex_op (ex_var rfl rfl (ex_tup (ax_nil ⟨[], rfl, by decide, _, _, _, rfl, rfl, ⟨gx.shaped (by decide), shaped_nilT, rfl⟩, _, rfl, ?_⟩))))))
            rw [eqv_nilT]
            cases h3 : xs.isEmpty with
            | true => exact iteT (iteT (sx_ret (ex_c rfl (bad (by rw [lstackB_tup, h3]; rfl) _))))
            | false =>
              refine iteF (tx_test (ex_op (ex_new (en_lcP [3] (oneI fun d => !inB 1 6 d) (fun _ => .int 1) (ix_tup (ex_var rfl rfl ⟨xs, rfl, ?_, ?_, ?_⟩))))))
              · rw [List.length_map]
                have := gx.tupN.1
                omega
              · intro F it hit
                obtain ⟨x, hx, rfl⟩ := List.mem_map.mp hit
                refine gx_name (by decide) (tx_not (tx_B (ex_call (ax_cons (ex_var rfl rfl (ax_cons (ex_c rfl (ax_cons (ex_c rfl (ax_nil ⟨_, rfl, ⟨x, 1, 6, rfl⟩, ?_⟩))))))))))
                rintro r ⟨x', lo, hi, e, rfl⟩
                cases e
                exact ⟨_, rfl, rfl, rfl, fun _ => ex_c rfl ⟨rfl, rfl⟩⟩
              · refine ex_new (en_lst (ax_nil ⟨[], rfl, by decide, _, _, _, rfl, rfl, ⟨ones_shaped _, shaped_nil, rfl⟩, _, rfl, ?_⟩))
                rw [eqv_nil, filt_in]
                cases h4 : xs.all (inB 1 6) with
                | false => exact iteT (sx_ret (ex_c rfl (bad (by rw [lstackB_tup, h4]; simp) _)))
                | true =>
                  obtain ⟨ns, ens⟩ := wholes (all_in_whole h4)
                  refine iteF (sx_next (sx_if (tx_not (tx_B (ex_call (ax_cons (ex_var rfl rfl (ax_nil ⟨[.tuple xs], rfl, ⟨xs, rfl, by rw [ens]; exact adj_ints ns, gx.tupN.1⟩, ?_⟩))))))))
                  rintro r ⟨ys, e, rfl⟩
                  cases e
                  refine ⟨_, rfl, ?_⟩
                  cases h5 : riseB xs with
                  | false => exact iteT (sx_ret (ex_c rfl (bad (by rw [lstackB_tup, h5]; simp) _)))
                  | true =>
                    refine iteF (sx_next ⟨rfl, ⟨_, rfl⟩, ?_⟩)
                    rw [List.take_add_one, hst, List.all_append, ha]
                    simp [lstackB_tup, h3, h4, h5]
        · rintro S' E' ⟨rfl, ⟨s1, rfl⟩, ha⟩
          rw [List.length_map, List.take_length] at ha
          have hi := lstack_ints ha
          obtain ⟨ns, ens⟩ := flat_ints hi
          obtain ⟨ms, ems, hml⟩ := sort_ints ns
          have fl : (flatS ss).length ≤ 250000 := by
            have h3 := flat_len (m := 500) fun d hd => gd_itemsLen (gi d hd)
            have h4 : ss.length * 500 ≤ 500 * 500 := Nat.mul_le_mul_right _ gl
            omega
          have ef : (ss.map itemsOf).flatten = flatS ss := rfl
          refine sx_seq (sx_asg (ex_new (en_sorted (ex_sumL (ax_cons (ex_new (en_lcP [1] (fun _ => true) lsI (ix_tup (ex_var rfl rfl ⟨ss, rfl, ?_, ?_, ?_⟩)))))))))
          · rw [List.length_map]
            omega
          · intro F it hit
            obtain ⟨e, he, rfl⟩ := List.mem_map.mp hit
            obtain ⟨es, rfl, _⟩ := hi e he
            exact gx_name (by decide) (tx_yes ⟨rfl, rfl, fun _ => ex_new (en_list (ex_var rfl rfl ⟨_, .inr rfl, rfl, rfl⟩))⟩)
          rw [lsI_map]
          refine ax_cons (ex_new (en_lst (ax_nil ⟨[], rfl, by decide, ax_nil ⟨ss.map itemsOf, [], rfl, ?_, _, rfl, ?_⟩⟩)))
          · rw [ef]
            show 0 + _ ≤ _
            omega
          rw [List.nil_append, ef]
          refine ⟨by rw [ens]; exact (adj_ints ns).1, by rw [ens]; exact sortable_ints ns, fun d hd => ?_, ?_⟩
          · rw [ens] at hd
            exact ((adj_ints ns).2 d hd).2
          have el : (sortD (flatS ss)).length = (flatS ss).length := sort_len _
          rw [← ens] at ems
          refine sx_ret (ex_andV (ex_call (ax_cons (ex_var rfl rfl (ax_nil ⟨[.tuple ss], rfl, ⟨ss, rfl, adj_intTs hi, gl⟩, ?_⟩)))))
          rintro r ⟨ys, e, rfl⟩
          cases e
          refine ⟨_, rfl, ?_⟩
          cases h6 : riseB ss with
          | false => exact iteF (fin _ _ (by rw [lstdB_tup, h6]; simp))
          | true =>
            refine iteT (ex_op (ex_var rfl rfl (ex_new (en_listRg2 (ex_c rfl (ex_op (ex_c rfl (ex_len (ex_var rfl rfl ⟨.list (sortD (flatS ss)), _, rfl, rfl, _, _, _, rfl, rfl, rfl, 1, _, rfl, rfl, ?_, ?_⟩)))))))))
            · rw [el]
              exact ⟨by omega, by omega, by omega, by omega⟩
            rw [el]
            refine ⟨_, _, _, rfl, rfl, ⟨by rw [ems]; exact shaped_ints ms, by rw [rgD_ints]; exact shaped_ints _, rfl⟩, fin _ _ ?_⟩
            rw [lstdB_tup, h0, ha, h6]
            rfl
/-! ### the two are one -/
theorem std_eq (d : PyData) : stdB d = lstdB d := by
  cases d with
  | tuple ss =>
    rw [stdB_tup, lstdB_tup, Bool.eq_iff_iff]
    have eadd : ((flatS ss).length : Int) + 1 = 1 + (flatS ss).length := by omega
    rw [eadd]
    have key : ∀ ns : List Int, flatS ss = ns.map .int → PyData.eqv (.list (sortD (flatS ss))) (.list (rgD 1 (1 + (flatS ss).length))) = true → ∀ i : Int, i ∈ ns ↔ 1 ≤ i ∧ i ≤ ns.length := fun ns e h i => by
      obtain ⟨ms, e2, hl⟩ := sort_ints ns
      have h' : PyData.eqvAll (sortD (flatS ss)) (rgD 1 (1 + (flatS ss).length)) = true := by
        rw [PyData.eqv] at h
        exact h
      rw [e, e2, rgD_ints, eqvAll_ints, decide_eq_true_iff, List.length_map] at h'
      have hp : (ms.map PyData.int).Perm (ns.map PyData.int) := by rw [← e2]; exact sort_perm _
      have mm : i ∈ ns ↔ i ∈ ms := by
        have h1 := hp.mem_iff (a := PyData.int i)
        simp only [List.mem_map, PyData.int.injEq, exists_eq_right] at h1
        exact h1.symm
      rw [mm, h']
      simp only [List.mem_map, List.mem_range]
      constructor
      · rintro ⟨j, hj, rfl⟩
        omega
      · intro hi
        exact ⟨(i - 1).toNat, by omega, by omega⟩
    simp only [Bool.and_eq_true, decide_eq_true_iff, Bool.not_eq_true']
    constructor
    · rintro ⟨h1, ⟨h2, h3⟩, h4, h5⟩
      have hi := stacks_ints h1
      obtain ⟨ns, ens⟩ := flat_ints hi
      have hk := key ns ens h4
      have nl : (flatS ss).length = ns.length := by rw [ens, List.length_map]
      refine ⟨?_, ?_, h5, h4⟩
      · cases ss with
        | nil => simp [flatS] at h2
        | cons s ss => rfl
      · rw [List.all_eq_true] at h1 ⊢
        intro s hs
        have h6 := h1 s hs
        obtain ⟨ks, rfl, _⟩ := hi s hs
        rw [stackB_tup, Bool.and_eq_true, Bool.and_eq_true] at h6
        rw [lstackB_tup, Bool.and_eq_true, Bool.and_eq_true]
        refine ⟨h6.1, ?_, h6.2.2⟩
        rw [List.all_eq_true]
        intro x hx
        have hxf : x ∈ flatS ss := List.mem_flatMap.mpr ⟨_, hs, hx⟩
        rw [ens] at hxf
        obtain ⟨i, hin, rfl⟩ := List.mem_map.mp hxf
        have := (hk i).mp hin
        show (decide (1 ≤ i) && decide (i ≤ 6)) = true
        rw [Bool.and_eq_true, decide_eq_true_iff, decide_eq_true_iff]
        omega
    · rintro ⟨h0, h1, h5, h4⟩
      have hi := lstack_ints h1
      obtain ⟨ns, ens⟩ := flat_ints hi
      have hk := key ns ens h4
      have nl : (flatS ss).length = ns.length := by rw [ens, List.length_map]
      have ne : 1 ≤ ns.length := by
        rw [← nl]
        cases ss with
        | nil => cases h0
        | cons s ss =>
          obtain ⟨ks, rfl, hks⟩ := hi s List.mem_cons_self
          unfold flatS
          rw [List.flatMap_cons, List.length_append]
          have : 0 < (itemsOf (PyData.tuple (ks.map .int))).length := by
            show 0 < (ks.map PyData.int).length
            rw [List.length_map]
            exact List.length_pos_iff.mpr hks
          omega
      have le6 : ns.length ≤ 6 := by
        have hm : ((ns.length : Nat) : Int) ∈ ns := (hk _).mpr ⟨by omega, by omega⟩
        have hf : PyData.int (ns.length : Nat) ∈ flatS ss := by rw [ens]; exact List.mem_map.mpr ⟨_, hm, rfl⟩
        obtain ⟨s, hs, hx⟩ := List.mem_flatMap.mp hf
        have h6 := List.all_eq_true.mp h1 s hs
        obtain ⟨ks, rfl, _⟩ := hi s hs
        rw [lstackB_tup, Bool.and_eq_true, Bool.and_eq_true] at h6
        have h7 := List.all_eq_true.mp h6.2.1 _ hx
        have h8 : (decide ((1 : Int) ≤ (ns.length : Nat)) && decide (((ns.length : Nat) : Int) ≤ 6)) = true := h7
        rw [Bool.and_eq_true, decide_eq_true_iff, decide_eq_true_iff] at h8
        omega
      refine ⟨?_, ⟨by omega, by omega⟩, h4, h5⟩
      rw [List.all_eq_true] at h1 ⊢
      intro s hs
      have h6 := h1 s hs
      obtain ⟨ks, rfl, _⟩ := hi s hs
      rw [lstackB_tup, Bool.and_eq_true, Bool.and_eq_true] at h6
      rw [stackB_tup, Bool.and_eq_true, Bool.and_eq_true]
      exact ⟨h6.1, all_in_whole h6.2.1, h6.2.2⟩
  | _ => rfl
end K1

set_option maxHeartbeats 1000000
namespace K1
open PySem PySem.Spec PyProof.Rows L2 PL
variable {K : PySem.W.Frag} {TL : List Addr}
def tupI (ns : List Int) : PyData := .tuple (ns.map .int)
def tupS (nss : List (List Int)) : PyData := .tuple (nss.map tupI)
def lowOf : List (List Int) → Int → List Int
  | [], _ => []
  | ns :: r, i => if i ∈ ns then ns.filter (· < i) else lowOf r i
def Rises (ns : List Int) : Prop := ns.Pairwise (· < ·)
def spW (K : PySem.W.Frag) (TL : List Addr) : Sp := spD K TL (fun ds => ∃ nss i, ds = [tupS nss, .int i] ∧ (∀ ns ∈ nss, Rises ns ∧ ns.length ≤ 500) ∧ i ∈ nss.flatten) (fun ds r => ∃ nss i, ds = [tupS nss, .int i] ∧ r = .tuple ((lowOf nss i).map .int))
theorem spW_len (vs : List V) (H : Hp) (Q : VK) (E : XK) (h : spW K TL vs H Q E) : vs.length = 2 := spD_len (fun ds ⟨_, _, e, _⟩ => by rw [e]; rfl) vs H Q E h
theorem low_at {ns : List Int} {i : Int} (hr : Rises ns) (hi : i ∈ ns) : ∃ a b, ns = a ++ i :: b ∧ (∀ x ∈ a, x < i) ∧ ns.filter (· < i) = a := by
  obtain ⟨a, b, e⟩ := List.append_of_mem hi
  subst e
  unfold Rises at hr
  rw [List.pairwise_append, List.pairwise_cons] at hr
  obtain ⟨h1, ⟨h2, h3⟩, h4⟩ := hr
  have ha : ∀ x ∈ a, x < i := fun x hx => h4 x hx i List.mem_cons_self
  refine ⟨a, b, rfl, ha, ?_⟩
  rw [List.filter_append, List.filter_eq_self.mpr (fun x hx => decide_eq_true (ha x hx)), List.filter_cons_of_neg (by simp), List.filter_eq_nil_iff.mpr (fun x hx => ?_), List.append_nil]
  have := h2 x hx
  simp
  omega
theorem drop_cons {α : Type} {xs : List α} {k : Nat} {x : α} (h : xs[k]? = some x) : xs.drop k = x :: xs.drop (k + 1) := by
  obtain ⟨hk, rfl⟩ := List.getElem?_eq_some_iff.mp h
  exact List.drop_eq_getElem_cons hk
theorem tupS_get {nss : List (List Int)} {k : Nat} {d : PyData} (h : (nss.map tupI)[k]? = some d) : ∃ ns, nss[k]? = some ns ∧ d = tupI ns := by
  rw [List.getElem?_map] at h
  cases q : nss[k]? with
  | none => rw [q] at h; cases h
  | some ns =>
    rw [q] at h
    cases h
    exact ⟨ns, rfl, rfl⟩
theorem p_within (vs : List V) (H : Hp) (Q : VK) (E : XK) (h : spW K TL vs H Q E) : t_within K { nx := fun _ H' => Q .non H', rt := Q } (start N_within vs) H :=
  body_D 3 rfl h (by rw [spW_len vs H Q E h]; decide) fun F ds ⟨nss, i, e, hr, hi⟩ _ => by
    subst e
    refine sx_seq (sx_for [2] (ix_tup (ex_var rfl rfl ⟨nss.map tupI, rfl, fun k S' E' => S' = [] ∧ (∃ s, E' = [.dat (tupS nss), .dat (.int i), s]) ∧ lowOf (nss.drop k) i = lowOf nss i ∧ i ∈ (nss.drop k).flatten, ⟨rfl, ⟨.no, rfl⟩, rfl, hi⟩, ?_, ?_⟩)))
    · rintro F k it S' E' hit ⟨rfl, ⟨s, rfl⟩, hl, hm⟩
      obtain ⟨d, hd, rfl⟩ := one_get hit
      obtain ⟨ns, hns, rfl⟩ := tupS_get hd
      have hmem : ns ∈ nss := List.mem_of_getElem? hns
      rw [drop_cons hns] at hl hm
      refine gx_name (by decide) (sx_if (tx_test (ex_op (ex_var rfl rfl (ex_var rfl rfl ⟨_, _, _, rfl, rfl, ⟨i, ns, rfl, rfl, rfl⟩, _, rfl, ?_⟩)))))
      by_cases hin : i ∈ ns
      · rw [decide_eq_true hin]
        obtain ⟨a, b, e, ha, hf⟩ := low_at (hr ns hmem).1 hin
        refine iteT (sx_ret (ex_sl (ex_var rfl rfl (ox_none (ox_some (ex_index (ex_var rfl rfl ⟨⟨_, rfl⟩, ex_var rfl rfl ⟨ns, i, a.length, rfl, rfl, ?_, ?_, a.length, rfl, _, _, rfl, rfl, ?_⟩⟩)))))))
        · rw [e, List.getElem?_append_right (Nat.le_refl _), Nat.sub_self]
          rfl
        · intro m hm2 z
          rw [e, List.getElem?_append_left hm2] at z
          have := ha i (List.mem_of_getElem? z)
          omega
        · refine ⟨_, rfl, nss, i, rfl, ?_⟩
          rw [cut_hi, ← hl]
          unfold lowOf
          rw [if_pos hin, hf, e, List.map_append, List.take_left' (by rw [List.length_map])]
      · rw [decide_eq_false hin]
        refine iteF (sx_next ⟨rfl, ⟨_, rfl⟩, ?_, ?_⟩)
        · rw [← hl]
          show _ = (if i ∈ ns then ns.filter (· < i) else lowOf (nss.drop (k + 1)) i)
          rw [if_neg hin]
        · rw [List.flatten_cons, List.mem_append] at hm
          exact hm.resolve_left hin
    · rintro S' E' ⟨rfl, ⟨s, rfl⟩, hl, hm⟩
      rw [List.length_map, List.length_map, List.drop_length] at hm
      cases hm
/-! ### _law_in -/
def ltD (i : Int) : PyData → Bool
  | .int x => decide (x < i)
  | _ => false
theorem filt_low (ns : List Int) (i : Int) : ((((ns.map PyData.int).map Itm.one).filter (oneI (ltD i))).map dI) = (ns.filter (· < i)).map .int := by
  induction ns with
  | nil => rfl
  | cons n ns ih =>
    rw [List.map_cons, List.map_cons, List.filter_cons, List.filter_cons]
    have e : oneI (ltD i) (.one (.int n)) = decide (n < i) := rfl
    rw [e]
    by_cases h : n < i
    · rw [decide_eq_true h, if_pos rfl, if_pos rfl, List.map_cons, List.map_cons, ih]
      rfl
    · rw [decide_eq_false h, if_neg Bool.false_ne_true, if_neg Bool.false_ne_true, ih]
theorem p__law_in (vs : List V) (H : Hp) (Q : VK) (E : XK) (h : spW K TL vs H Q E) : t__law_in K { nx := fun _ H' => Q .non H', rt := Q } (start N__law_in vs) H :=
  body_D 4 rfl h (by rw [spW_len vs H Q E h]; decide) fun F ds ⟨nss, i, e, hr, hi⟩ _ => by
    subst e
    refine sx_seq (sx_for [2] (ix_tup (ex_var rfl rfl ⟨nss.map tupI, rfl, fun k S' E' => S' = [] ∧ (∃ s, E' = [.dat (tupS nss), .dat (.int i), s, .no]) ∧ lowOf (nss.drop k) i = lowOf nss i ∧ i ∈ (nss.drop k).flatten, ⟨rfl, ⟨.no, rfl⟩, rfl, hi⟩, ?_, ?_⟩)))
    · rintro F k it S' E' hit ⟨rfl, ⟨s, rfl⟩, hl, hm⟩
      obtain ⟨d, hd, rfl⟩ := one_get hit
      obtain ⟨ns, hns, rfl⟩ := tupS_get hd
      have hmem : ns ∈ nss := List.mem_of_getElem? hns
      rw [drop_cons hns] at hl hm
      refine gx_name (by decide) (sx_if (tx_test (ex_op (ex_var rfl rfl (ex_var rfl rfl ⟨_, _, _, rfl, rfl, ⟨i, ns, rfl, rfl, rfl⟩, _, rfl, ?_⟩)))))
      by_cases hin : i ∈ ns
      · rw [decide_eq_true hin]
        refine iteT (sx_ret (ex_tuple (ex_new (en_lcP [3] (oneI (ltD i)) dI (ix_tup (ex_var rfl rfl ⟨_, rfl, ?_, ?_, ?_⟩))))))
        · rw [List.length_map, List.length_map]
          have := (hr ns hmem).2
          omega
        · intro F it hit
          obtain ⟨x, hx, rfl⟩ := List.mem_map.mp hit
          obtain ⟨n, hn, rfl⟩ := List.mem_map.mp hx
          exact gx_name (by decide) (tx_test (ex_op (ex_var rfl rfl (ex_var rfl rfl ⟨_, _, _, rfl, rfl, pLt_int _ _, _, rfl, rfl, rfl, fun _ => ex_var rfl rfl ⟨rfl, rfl⟩⟩))))
        · refine ⟨_, .inl rfl, _, rfl, nss, i, rfl, ?_⟩
          rw [filt_low, ← hl]
          unfold lowOf
          rw [if_pos hin]
      · rw [decide_eq_false hin]
        refine iteF (sx_next ⟨rfl, ⟨_, rfl⟩, ?_, ?_⟩)
        · rw [← hl]
          show _ = (if i ∈ ns then ns.filter (· < i) else lowOf (nss.drop (k + 1)) i)
          rw [if_neg hin]
        · rw [List.flatten_cons, List.mem_append] at hm
          exact hm.resolve_left hin
    · rintro S' E' ⟨rfl, ⟨s, rfl⟩, hl, hm⟩
      rw [List.length_map, List.length_map, List.drop_length] at hm
      cases hm
end K1

set_option maxHeartbeats 1000000
namespace K1
open PySem PySem.Spec PyProof.Rows L2 PL
variable {K : PySem.W.Frag} {TL : List Addr}
def grow (nss : List (List Int)) (i : Int) : List (List (List Int)) := (nss ++ [[i]]) :: (List.range nss.length).map fun k => nss.take k ++ [nss.getD k [] ++ [i]] ++ nss.drop (k + 1)
def Few (n : Nat) (nss : List (List Int)) : Prop := nss.length ≤ n ∧ ∀ ns ∈ nss, ns.length ≤ n
/-! ### grown_by -/
def spG (K : PySem.W.Frag) (TL : List Addr) : Sp := spN K TL (fun ds => ∃ nss i, ds = [tupS nss, .int i] ∧ Few 100 nss) (fun ds es => ∃ nss i, ds = [tupS nss, .int i] ∧ es = (grow nss i).map tupS)
theorem spG_len (vs : List V) (H : Hp) (Q : VK) (E : XK) (h : spG K TL vs H Q E) : vs.length = 2 := spN_len (fun ds ⟨_, _, e, _⟩ => by rw [e]; rfl) vs H Q E h
theorem enum_get {ds : List PyData} {k : Nat} {it : Itm} (h : (enumD ds)[k]? = some it) : ∃ d, ds[k]? = some d ∧ it = .two (.int (k : Nat)) d := by
  have hk : k < ds.length := by
    have := (List.getElem?_eq_some_iff.mp h).1
    rw [enumD_len] at this
    exact this
  have e := enumD_get (List.getElem?_eq_getElem hk)
  rw [e] at h
  cases h
  exact ⟨_, List.getElem?_eq_getElem hk, rfl⟩
theorem p_grown_by (vs : List V) (H : Hp) (Q : VK) (E : XK) (h : spG K TL vs H Q E) : t_grown_by K { nx := fun _ H' => Q .non H', rt := Q } (start N_grown_by vs) H :=
  body_N 5 rfl h (by rw [spG_len vs H Q E h]; decide) fun F ds ⟨nss, i, e, hl, hf⟩ _ => by
    subst e
    refine sx_seq (sx_asgN2 (en_lst (ax_cons (ex_tup (ax_star (ex_var rfl rfl ⟨nss.map tupI, .inl rfl, ax_cons (ex_tup (ax_cons (ex_var rfl rfl (ax_nil ⟨_, rfl, by show 1 ≤ _; decide, ax_nil ⟨_, dats_app rfl, ?_, ax_nil ⟨_, rfl, by show 1 ≤ _; decide, fun p hp _ => ?_⟩⟩⟩))))⟩))))))
    · rw [List.length_append, List.length_map]
      show _ + 1 ≤ _
      omega
    refine sx_seq (sx_for [3, 4] (ix_enumT (ax_cons (ex_var rfl rfl (ax_nil ⟨nss.map tupI, rfl, fun k S' E' => (∃ s3 s4, E' = [.dat (tupS nss), .dat (.int i), .own p, s3, s4]) ∧ S' = [(p, ((grow nss i).take (k + 1)).map tupS)], ⟨⟨.no, .no, rfl⟩, ?_⟩, ?_, ?_⟩)))))
    · show [(p, [PyData.tuple (nss.map tupI ++ [.tuple [.int i]])])] = _
      unfold grow tupS
      rw [List.take_succ_cons, List.take_zero, List.map_cons, List.map_append]
      rfl
    · rintro F k it S' E' hit ⟨⟨s3, s4, rfl⟩, rfl⟩
      obtain ⟨d, hd, rfl⟩ := enum_get hit
      obtain ⟨ns, hns, rfl⟩ := tupS_get hd
      have hk : k < nss.length := (List.getElem?_eq_some_iff.mp hns).1
      have hn := hf ns (List.mem_of_getElem? hns)
      have gl : (grow nss i).length = nss.length + 1 := by
        unfold grow
        rw [List.length_cons, List.length_map, List.length_range]
      refine gx_two (by decide) (by decide) (sx_append (ex_var rfl rfl ⟨p, rfl, mem_dom_hd, ex_op (ex_op (ex_sl (ex_var rfl rfl (ox_none (ox_some (ex_var rfl rfl ⟨_, rfl, tupS nss, _, rfl, rfl, ?_⟩))))))⟩))
      rw [show cutD (nss.map tupI) none (some ((k : Nat) : Int)) = (nss.map tupI).take k from cut_hi _ k]
      refine ex_tup (ax_cons (ex_tup (ax_star (ex_var rfl rfl ⟨ns.map .int, .inl rfl, ax_cons (ex_var rfl rfl (ax_nil ⟨_, dats_app rfl, ?_, ax_nil ⟨_, rfl, by show 1 ≤ _; decide, _, _, _, rfl, rfl, ⟨?_, rfl⟩, ?_⟩⟩))⟩))))
      · rw [List.length_append, List.length_map]
        show _ + 1 ≤ _
        omega
      · rw [List.length_take, List.length_map]
        show _ + 1 ≤ _
        omega
      refine ex_sl (ex_var rfl rfl (ox_some (ex_op (ex_var rfl rfl (ex_c rfl ⟨_, _, _, rfl, rfl, rfl, _, rfl, ox_none ⟨tupS nss, _, rfl, rfl, _, _, _, rfl, rfl, ⟨?_, rfl⟩, ?_⟩⟩)))))
      · rw [show ((k : Nat) : Int) + 1 = ((k + 1 : Nat) : Int) by omega, cut_lo, List.length_append, List.length_take, List.length_drop, List.length_map]
        show _ + 1 + _ ≤ _
        omega
      refine ⟨_, _, rfl, get_one', ?_, ⟨_, _, rfl⟩, ?_⟩
      · rw [List.length_map, List.length_take]
        omega
      · rw [put_one, show ((k : Nat) : Int) + 1 = ((k + 1 : Nat) : Int) by omega, cut_lo]
        have eg : (grow nss i)[k + 1]? = some (nss.take k ++ [ns ++ [i]] ++ nss.drop (k + 1)) := by
          unfold grow
          rw [List.getElem?_cons_succ, List.getElem?_map, List.getElem?_range hk]
          show some (nss.take k ++ [nss.getD k [] ++ [i]] ++ nss.drop (k + 1)) = _
          rw [List.getD_eq_getElem?_getD, hns]
          rfl
        have et : (grow nss i).take (k + 1 + 1) = (grow nss i).take (k + 1) ++ [nss.take k ++ [ns ++ [i]] ++ nss.drop (k + 1)] := by
          rw [List.take_add_one (i := k + 1), eg]
          rfl
        have ed : tupS (nss.take k ++ [ns ++ [i]] ++ nss.drop (k + 1)) = PyData.tuple ((nss.map tupI).take k ++ [PyData.tuple (ns.map PyData.int ++ [PyData.int i])] ++ (nss.map tupI).drop (k + 1)) := by
          unfold tupS
          rw [List.map_append, List.map_append, List.map_take, List.map_drop, List.map_cons, List.map_nil]
          unfold tupI
          rw [List.map_append]
          rfl
        rw [et, List.map_append, List.map_cons, List.map_nil, ed]
    · rintro S' E' ⟨⟨s3, s4, rfl⟩, rfl⟩
      refine sx_ret (ex_var rfl rfl ⟨p, _, rfl, get_one', nss, i, rfl, ?_⟩)
      congr 1
      apply List.take_of_length_le
      unfold grow
      rw [enumD_len, List.length_cons, List.length_map, List.length_map, List.length_range]
      omega
end K1

set_option maxHeartbeats 1000000
namespace PL
open PySem PySem.Spec PyProof.Rows L2
section
variable {K : PySem.W.Frag} {TL : List Addr} {F : Fm} {S : Sto} {E : List Sl} {N B C : Sto → List Sl → Prop} {R : Sl → Sto → Prop} {te : TE}
theorem sx_retN (h : EN K TL F te S E fun ds S' => ∀ p, F.H p = none → R (.own p) ((p, ds) :: S')) : SX K TL F (tRet te) S E N R B C := fun σ H o D n r b c =>
  h σ H o _ fun p ds S' H' hp o' e' s' k => r (.ref p) (.own p) ((p, ds) :: S') E σ H' o' rfl (k p hp)
end
end PL
namespace K1
open PySem PySem.Spec PyProof.Rows L2 PL
variable {K : PySem.W.Frag} {TL : List Addr}
def allS : Nat → List (List (List Int))
  | 0 => [[]]
  | k + 1 => (allS k).flatMap fun nss => grow nss ((k + 1 : Nat) : Int)
def hdI : List Int → Int
  | a :: _ => a
  | [] => 0
def okS (k : Nat) (nss : List (List Int)) : Bool := decide (nss.length ≤ 6) && (nss.all (fun ns => decide (ns.length ≤ 6) && !ns.isEmpty) && (decide (nss.Pairwise fun a b => hdI a < hdI b) && (decide (k = 0) || !nss.isEmpty)))
theorem all_ok : ((List.range 7).all fun k => decide ((allS k).length ≤ 203) && (allS k).all (okS k)) = true := by decide +kernel
theorem bell : ((List.range 7).map fun k => (allS k).length) = [1, 1, 2, 5, 15, 52, 203] := by decide +kernel
theorem allS_len {k : Nat} (h : k ≤ 6) : (allS k).length ≤ 203 := by
  have h1 := List.all_eq_true.mp all_ok k (List.mem_range.mpr (by omega))
  rw [Bool.and_eq_true, decide_eq_true_iff] at h1
  exact h1.1
structure OkS (k : Nat) (nss : List (List Int)) : Prop where
  few : nss.length ≤ 6
  each : ∀ ns ∈ nss, ns.length ≤ 6 ∧ ns ≠ []
  up : nss.Pairwise fun a b => hdI a < hdI b
  ne : 1 ≤ k → nss ≠ []
theorem allS_ok {k : Nat} (h : k ≤ 6) {nss : List (List Int)} (hm : nss ∈ allS k) : OkS k nss := by
  have h1 := List.all_eq_true.mp all_ok k (List.mem_range.mpr (by omega))
  rw [Bool.and_eq_true] at h1
  have h2 := List.all_eq_true.mp h1.2 nss hm
  unfold okS at h2
  simp only [Bool.and_eq_true, decide_eq_true_iff, List.all_eq_true, Bool.or_eq_true, Bool.not_eq_true', List.isEmpty_eq_false_iff] at h2
  obtain ⟨a, b, c, d⟩ := h2
  exact ⟨a, b, c, fun hk => d.resolve_left (by omega)⟩
/-! ### sorting -/
theorem le_heads {a b : List Int} (ha : a ≠ []) (hb : b ≠ []) (h : hdI a < hdI b) : PySem.W.dataLe false (fun d => d) (tupI a) (tupI b) = true := by
  cases a with
  | nil => exact absurd rfl ha
  | cons x a =>
    cases b with
    | nil => exact absurd rfl hb
    | cons y b =>
      have h : x < y := h
      have e : PySem.W.dataLt (tupI (y :: b)) (tupI (x :: a)) = false := by
        unfold tupI
        rw [PySem.W.dataLt_tuple, List.map_cons, List.map_cons, PySem.W.dataLt_all_no (by simp [PySem.W.alike]) (by rw [eqv_int, decide_eq_false]; omega), PySem.W.dataLt_int, decide_eq_false]
        omega
      show (!PySem.W.dataLt (tupI (y :: b)) (tupI (x :: a))) = true
      rw [e]
      rfl
theorem sort_id {k : Nat} {nss : List (List Int)} (h : OkS k nss) : sortD (nss.map tupI) = nss.map tupI := by
  refine List.mergeSort_of_pairwise ?_
  rw [List.pairwise_map]
  refine h.up.imp_of_mem fun {a b} ha hb hab => le_heads (h.each a ha).2 (h.each b hb).2 hab
theorem tupI_intTs {nss : List (List Int)} (h : ∀ ns ∈ nss, ns ≠ []) : IntTs (nss.map tupI) := fun d hd => by
  obtain ⟨ns, hn, rfl⟩ := List.mem_map.mp hd
  exact ⟨ns, rfl, h ns hn⟩
theorem sortable_tupI {nss : List (List Int)} (h : ∀ ns ∈ nss, ns ≠ []) : PySem.W.Sortable (nss.map tupI) := .inl fun d hd => by
  obtain ⟨ns, hn, rfl⟩ := List.mem_map.mp hd
  cases ns with
  | nil => exact absurd rfl (h _ hn)
  | cons x ns => exact ⟨_, _, rfl⟩
theorem alikeAll_tupI : ∀ a b : List (List Int), PySem.W.alikeAll (a.map tupI) (b.map tupI) = true
  | [], _ => by simp [PySem.W.alikeAll]
  | _ :: _, [] => by simp [PySem.W.alikeAll]
  | x :: a, y :: b => by
    rw [List.map_cons, List.map_cons, PySem.W.alikeAll, alikeAll_tupI a b]
    have : PySem.W.alike (tupI x) (tupI y) = true := by
      unfold tupI
      rw [PySem.W.alike]
      exact alikeAll_ints x y
    rw [this]
    rfl
theorem gd_tupS {m n : Nat} {nss : List (List Int)} (h : nss.length ≤ m) (hn : ∀ ns ∈ nss, ns.length ≤ m) : Gd m (n + 2) (tupS nss) := .tup _ _ (by rw [List.length_map]; exact h) fun d hd => by
  obtain ⟨ns, hns, rfl⟩ := List.mem_map.mp hd
  exact gd_intsT n ns (hn ns hns)
theorem okS_depth {k : Nat} {nss : List (List Int)} (h : OkS k nss) : (tupS nss).depth ≤ 60 := Nat.le_trans (gd_tupS (n := 0) h.few (fun ns hn => (h.each ns hn).1)).depth (by decide)
theorem sort_conds {k : Nat} (h1 : 1 ≤ k) (h : k ≤ 6) : PySem.W.AllAlike ((allS k).map tupS) ∧ PySem.W.Sortable ((allS k).map tupS) ∧ ∀ d ∈ (allS k).map tupS, d.depth ≤ 60 := by
  refine ⟨fun d hd e he => ?_, .inl fun d hd => ?_, fun d hd => ?_⟩
  · obtain ⟨a, _, rfl⟩ := List.mem_map.mp hd
    obtain ⟨b, _, rfl⟩ := List.mem_map.mp he
    unfold tupS
    rw [PySem.W.alike]
    exact alikeAll_tupI a b
  · obtain ⟨a, ha, rfl⟩ := List.mem_map.mp hd
    have := (allS_ok h ha).ne h1
    cases a with
    | nil => exact absurd rfl this
    | cons x a => exact ⟨_, _, rfl⟩
  · obtain ⟨a, ha, rfl⟩ := List.mem_map.mp hd
    exact okS_depth (allS_ok h ha)
/-! ### standings -/
def unI : PyData → Int
  | .int i => i
  | _ => 0
def unTI : PyData → List Int
  | .tuple xs => xs.map unI
  | _ => []
def unTS : PyData → List (List Int)
  | .tuple xs => xs.map unTI
  | _ => []
theorem unTI_tupI (ns : List Int) : unTI (tupI ns) = ns := by
  show (ns.map PyData.int).map unI = ns
  rw [List.map_map]
  exact List.map_id' ns
theorem unTS_tupS (nss : List (List Int)) : unTS (tupS nss) = nss := by
  show (nss.map tupI).map unTI = nss
  rw [List.map_map]
  have : (unTI ∘ tupI) = id := funext unTI_tupI
  rw [this, List.map_id]
def spSt (K : PySem.W.Frag) (TL : List Addr) : Sp := spN K TL (fun ds => ∃ k : Nat, ds = [.int k] ∧ 1 ≤ k ∧ k ≤ 6) (fun ds es => ∃ k : Nat, ds = [.int k] ∧ es = sortD ((allS k).map tupS))
theorem spSt_len (vs : List V) (H : Hp) (Q : VK) (E : XK) (h : spSt K TL vs H Q E) : vs.length = 1 := spN_len (fun ds ⟨_, e, _⟩ => by rw [e]; rfl) vs H Q E h
def grI (i : Int) : Itm → List Itm
  | .one d => ((grow (unTS d) i).map tupS).map .one
  | .two _ _ => []
theorem flat_gr (l : List (List (List Int))) (i : Int) : (((l.map tupS).map Itm.one).flatMap fun d => (grI i d).map ((fun _ e => dI e) d)) = (l.flatMap fun nss => grow nss i).map tupS := by
  induction l with
  | nil => rfl
  | cons a l ih =>
    rw [List.map_cons, List.map_cons, List.flatMap_cons, List.flatMap_cons, List.map_append, ih]
    congr 1
    show List.map (fun e => dI e) (((grow (unTS (tupS a)) i).map tupS).map Itm.one) = _
    rw [unTS_tupS, List.map_map]
    exact List.map_id' _
theorem p_standings (vs : List V) (H : Hp) (Q : VK) (E : XK) (h : spSt K TL vs H Q E) : t_standings K (spG K TL) { nx := fun _ H' => Q .non H', rt := Q } (start N_standings vs) H :=
  body_N 5 rfl h (by rw [spSt_len vs H Q E h]; decide) fun F ds ⟨k, e, h1, h6⟩ _ => by
    subst e
    refine sx_seq (sx_if (tx_or (tx_test (ex_op (ex_var rfl rfl (ex_c rfl ⟨_, _, _, rfl, rfl, pLt_int _ _, _, rfl, ?_⟩))))))
    rw [decide_eq_false (by omega)]
    refine iteF (tx_test (ex_op (ex_var rfl rfl (ex_c rfl ⟨_, _, _, rfl, rfl, ⟨_, _, rfl, rfl, trivial, rfl⟩, _, rfl, ?_⟩))))
    rw [decide_eq_false (by omega)]
    refine iteF (sx_next (sx_seq (sx_asg (ex_new (en_lst (ax_cons (ex_tup (ax_nil ⟨[], rfl, by decide, ax_nil ⟨_, rfl, by show 1 ≤ 1000000; decide, ?_⟩⟩))))))))
    refine sx_seq (sx_for [2] (ix_rng2 (ax_cons (ex_c rfl (ax_cons (ex_op (ex_var rfl rfl (ex_c rfl ⟨_, _, _, rfl, rfl, rfl, ax_nil ⟨1, (k : Int) + 1, rfl, ⟨by omega, by omega, by omega, by omega⟩, fun j S' E' => S' = [] ∧ ∃ s2, E' = [.dat (.int k), .dat (.list ((allS j).map tupS)), s2, .no, .no], ⟨rfl, .no, rfl⟩, ?_, ?_⟩⟩))))))))
    · rintro F j it S' E' hit ⟨rfl, s2, rfl⟩
      obtain ⟨d, hd, rfl⟩ := one_get hit
      obtain ⟨rfl, hj⟩ := rgD_some hd
      have hj6 : j + 1 ≤ 6 := by omega
      have ei : (1 : Int) + (j : Nat) = ((j + 1 : Nat) : Int) := by omega
      rw [ei]
      refine gx_name (by decide) (sx_asg (ex_new (en_lc2P [3, 4] [4] (grI ((j + 1 : Nat) : Int)) (fun _ e => dI e) (ix_list (ex_var rfl rfl ⟨_, rfl, ?_, ?_, ?_⟩)))))
      · rw [flat_gr, List.length_map]
        have := allS_len hj6
        show (allS (j + 1)).length < _
        omega
      · intro F it hit
        obtain ⟨d, hd, rfl⟩ := List.mem_map.mp hit
        obtain ⟨nss, hn, rfl⟩ := List.mem_map.mp hd
        have ok := allS_ok (by omega) hn
        refine gx_name (by decide) (ix_listN (en_call (ax_cons (ex_var rfl rfl (ax_cons (ex_var rfl rfl (ax_nil ⟨_, rfl, ⟨nss, _, rfl, by have := ok.few; omega, fun ns hns => by have := (ok.each ns hns).1; omega⟩, ?_⟩)))))))
        rintro es ⟨nss', i', e, rfl⟩
        injection e with e1 e2
        injection e2 with e2 _
        have en : nss = nss' := by rw [← unTS_tupS nss, e1, unTS_tupS]
        injection e2 with e2
        subst en e2
        refine ⟨by show _ = ((grow (unTS (tupS nss)) _).map tupS).map Itm.one; rw [unTS_tupS], rfl, ?_⟩
        intro F jt hjt
        obtain ⟨x, hx, rfl⟩ := List.mem_map.mp hjt
        exact gx_name (by decide) (ex_var rfl rfl ⟨rfl, rfl⟩)
      · rw [flat_gr]
        exact ⟨rfl, _, rfl⟩
    · rintro S' E' ⟨rfl, s2, rfl⟩
      rw [List.length_map, rgD_len, show ((k : Int) + 1 - 1).toNat = k by omega]
      obtain ⟨c1, c2, c3⟩ := sort_conds h1 h6
      exact sx_retN (en_sorted (ex_var rfl rfl ⟨_, rfl, c1, c2, c3, fun p hp => ⟨p, _, rfl, get_one', k, rfl, rfl⟩⟩))
end K1

set_option maxHeartbeats 1000000
namespace K1
open PySem PySem.Spec PyProof.Rows L2 PL
variable {K : PySem.W.Frag} {TL : List Addr}
def lstS (nss : List (List Int)) : PyData := .list (nss.map tupI)
theorem lstS_get {l : List (List (List Int))} {k : Nat} {d : PyData} (h : (l.map lstS)[k]? = some d) : ∃ ns, l[k]? = some ns ∧ d = lstS ns := by
  rw [List.getElem?_map] at h
  cases q : l[k]? with
  | none => rw [q] at h; cases h
  | some ns =>
    rw [q] at h
    cases h
    exact ⟨ns, rfl, rfl⟩
def gr1 (nss : List (List Int)) (i : Int) (k : Nat) : List (List Int) := nss.take k ++ [nss.getD k [] ++ [i]] ++ nss.drop (k + 1)
theorem grow_at (nss : List (List Int)) (i : Int) {k : Nat} (hk : k < nss.length) : (grow nss i)[k + 1]? = some (gr1 nss i k) := by
  unfold grow
  rw [List.getElem?_cons_succ, List.getElem?_map, List.getElem?_range hk]
  rfl
theorem grow_len (nss : List (List Int)) (i : Int) : (grow nss i).length = nss.length + 1 := by
  unfold grow
  rw [List.length_cons, List.length_map, List.length_range]
theorem lstS_gr1 {nss : List (List Int)} {i : Int} {k : Nat} {ns : List Int} (h : nss[k]? = some ns) : lstS (gr1 nss i k) = .list ((nss.map tupI).take k ++ [PyData.tuple (ns.map PyData.int ++ [PyData.int i])] ++ (nss.map tupI).drop (k + 1)) := by
  unfold lstS gr1
  rw [List.getD_eq_getElem?_getD, h, List.map_append, List.map_append, List.map_take, List.map_drop, List.map_cons, List.map_nil, Option.getD_some]
  unfold tupI
  rw [List.map_append]
  rfl
def seI : Itm → PyData
  | .one (.list xs) => .tuple (sortD xs)
  | _ => .none
theorem se_map {l : List (List (List Int))} {k : Nat} (h : ∀ nss ∈ l, OkS k nss) : (((l.map lstS).map Itm.one).filter fun _ => true).map seI = l.map tupS := by
  rw [List.filter_eq_self.mpr (fun _ _ => rfl), List.map_map, List.map_map]
  refine List.map_congr_left fun nss hn => ?_
  show PyData.tuple (sortD (nss.map tupI)) = tupS nss
  rw [sort_id (h nss hn)]
  rfl
theorem p__law_every (vs : List V) (H : Hp) (Q : VK) (E : XK) (h : spSt K TL vs H Q E) : t__law_every K { nx := fun _ H' => Q .non H', rt := Q } (start N__law_every vs) H :=
  body_N 6 rfl h (by rw [spSt_len vs H Q E h]; decide) fun F ds ⟨k, e, h1, h6⟩ _ => by
    subst e
    refine sx_seq (sx_asg (ex_new (en_lst (ax_cons (ex_new (en_lst (ax_nil ⟨[], rfl, by decide, ax_nil ⟨_, rfl, by show 1 ≤ 1000000; decide, ?_⟩⟩)))))))
    refine sx_seq (sx_for [2] (ix_rng2 (ax_cons (ex_c rfl (ax_cons (ex_op (ex_var rfl rfl (ex_c rfl ⟨_, _, _, rfl, rfl, rfl, ax_nil ⟨1, (k : Int) + 1, rfl, ⟨by omega, by omega, by omega, by omega⟩, fun j S' E' => S' = [] ∧ ∃ s2 s3 s4 s5, E' = [.dat (.int k), .dat (.list ((allS j).map lstS)), s2, s3, s4, s5], ⟨rfl, .no, .no, .no, .no, rfl⟩, ?_, ?_⟩⟩))))))))
    · rintro F j it S' E' hit ⟨rfl, s2, s3, s4, s5, rfl⟩
      obtain ⟨d, hd, rfl⟩ := one_get hit
      obtain ⟨rfl, hj⟩ := rgD_some hd
      have hj6 : j + 1 ≤ 6 := by omega
      have ei : (1 : Int) + (j : Nat) = ((j + 1 : Nat) : Int) := by omega
      rw [ei]
      generalize hi : ((j + 1 : Nat) : Int) = i
      have eA : allS (j + 1) = (allS j).flatMap fun nss => grow nss i := by rw [← hi]; rfl
      have lA : ((allS j).flatMap fun nss => grow nss i).length ≤ 203 := by rw [← eA]; exact allS_len hj6
      refine gx_name (by decide) (sx_seq (sx_asgN2 (en_lst (ax_nil ⟨[], rfl, by decide, fun p hp _ => ?_⟩))))
      refine sx_seq (sx_for [4] (ix_list (ex_var rfl rfl ⟨_, rfl, fun a S' E' => (∃ s4 s5, E' = [.dat (.int k), .dat (.list ((allS j).map lstS)), .dat (.int i), .own p, s4, s5]) ∧ S' = [(p, (((allS j).take a).flatMap fun nss => grow nss i).map lstS)], ⟨⟨_, _, rfl⟩, rfl⟩, ?_, ?_⟩)))
      · rintro F a it S' E' hit ⟨⟨s4, s5, rfl⟩, rfl⟩
        obtain ⟨d, hd, rfl⟩ := one_get hit
        obtain ⟨nss, hns, rfl⟩ := lstS_get hd
        have ok := allS_ok (k := j) (by omega) (List.mem_of_getElem? hns)
        have fw := ok.few
        have eT : ((allS j).take (a + 1)).flatMap (fun nss => grow nss i) = ((allS j).take a).flatMap (fun nss => grow nss i) ++ grow nss i := by
          rw [List.take_add_one, hns, List.flatMap_append]
          simp
        have lX : (((allS j).take a).flatMap fun nss => grow nss i).length + (grow nss i).length ≤ 203 := by
          rw [← List.length_append, ← eT]
          refine Nat.le_trans ?_ lA
          conv => rhs; rw [← List.take_append_drop (a + 1) (allS j), List.flatMap_append]
          rw [List.length_append]
          omega
        rw [grow_len] at lX
        generalize hX : ((allS j).take a).flatMap (fun nss => grow nss i) = X at eT lX
        have q1 : (nss.map tupI).length + 1 ≤ 1000000 := by
          rw [List.length_map]
          omega
        have q2 : (X.map lstS).length < 1000000 := by
          rw [List.length_map]
          omega
        refine gx_name (by decide) (sx_seq (sx_append (ex_var rfl rfl ⟨p, rfl, mem_dom_hd, ex_op (ex_var rfl rfl (ex_new (en_lst (ax_cons (ex_tup (ax_cons (ex_var rfl rfl (ax_nil ⟨_, rfl, by show 1 ≤ 1000000; decide, ax_nil ⟨_, rfl, by show 1 ≤ 1000000; decide, _, _, _, rfl, rfl, ⟨q1, rfl⟩, _, _, rfl, get_one', q2, ?_⟩⟩))))))))⟩)))
        refine sx_for [5] (ix_rng1 (ax_cons (ex_len (ex_var rfl rfl ⟨lstS nss, _, rfl, rfl, ax_nil ⟨_, rfl, ?_, fun b S' E' => (∃ s5, E' = [.dat (.int k), .dat (.list ((allS j).map lstS)), .dat (.int i), .own p, .dat (lstS nss), s5]) ∧ S' = [(p, (X ++ (grow nss i).take (b + 1)).map lstS)], ⟨⟨_, rfl⟩, ?_⟩, ?_, ?_⟩⟩))))
        · rw [List.length_map]
          omega
        · rw [put_one, List.map_append]
          congr 3
          show [PyData.list (nss.map tupI ++ [.tuple [.int i]])] = _
          unfold grow lstS
          rw [List.take_succ_cons, List.take_zero, List.map_cons, List.map_append]
          rfl
        · rintro F b it S' E' hit ⟨⟨s5, rfl⟩, rfl⟩
          obtain ⟨d, hd, rfl⟩ := one_get hit
          obtain ⟨rfl, hb⟩ := rgD_some hd
          rw [List.length_map] at hb
          have hb : b < nss.length := by omega
          rw [Int.zero_add]
          have hnb : nss[b]? = some nss[b] := List.getElem?_eq_getElem hb
          generalize nss[b] = ns at hnb
          have hnl := (ok.each ns (List.mem_of_getElem? hnb)).1
          have a1 : atI (nss.map tupI) ((b : Nat) : Int) = some (tupI ns) := PL.atI_nat (by rw [List.getElem?_map, hnb]; rfl)
          refine gx_name (by decide) (sx_append (ex_var rfl rfl ⟨p, rfl, mem_dom_hd, ex_op (ex_op (ex_sl (ex_var rfl rfl (ox_none (ox_some (ex_var rfl rfl ⟨_, rfl, lstS nss, _, rfl, rfl, ?_⟩))))))⟩))
          rw [show cutD (nss.map tupI) none (some ((b : Nat) : Int)) = (nss.map tupI).take b from cut_hi _ b]
          have q3 : (ns.map PyData.int).length + 1 ≤ 1000000 := by
            rw [List.length_map]
            omega
          have q4 : ((nss.map tupI).take b).length + 1 ≤ 1000000 := by
            rw [List.length_take, List.length_map]
            omega
          refine ex_new (en_lst (ax_cons (ex_op (ex_op (ex_var rfl rfl (ex_var rfl rfl ⟨lstS nss, _, _, rfl, rfl, a1, ex_tup (ax_cons (ex_var rfl rfl (ax_nil ⟨_, rfl, by show 1 ≤ 1000000; decide, _, _, _, rfl, rfl, ⟨q3, rfl⟩, ax_nil ⟨_, rfl, by show 1 ≤ 1000000; decide, _, _, _, rfl, rfl, ⟨q4, rfl⟩, ?_⟩⟩)))⟩))))))
          refine ex_sl (ex_var rfl rfl (ox_some (ex_op (ex_var rfl rfl (ex_c rfl ⟨_, _, _, rfl, rfl, rfl, _, rfl, ox_none ⟨lstS nss, _, rfl, rfl, _, _, _, rfl, rfl, ⟨?_, rfl⟩, ?_⟩⟩)))))
          · rw [show ((b : Nat) : Int) + 1 = ((b + 1 : Nat) : Int) by omega, cut_lo, List.length_append, List.length_take, List.length_drop, List.length_map]
            show _ + 1 + _ ≤ 1000000
            omega
          refine ⟨_, _, rfl, get_one', ?_, ⟨_, rfl⟩, ?_⟩
          · rw [List.length_map, List.length_append, List.length_take]
            omega
          · rw [put_one, show ((b : Nat) : Int) + 1 = ((b + 1 : Nat) : Int) by omega, cut_lo]
            have et : (grow nss i).take (b + 1 + 1) = (grow nss i).take (b + 1) ++ [gr1 nss i b] := by
              rw [List.take_add_one (i := b + 1), grow_at nss i hb]
              rfl
            rw [et, ← List.append_assoc, List.map_append (l₁ := X ++ _), List.map_cons, List.map_nil, lstS_gr1 hnb]
        · rintro S' E' ⟨⟨s5, rfl⟩, rfl⟩
          refine ⟨⟨_, _, rfl⟩, ?_⟩
          rw [eT, List.take_of_length_le]
          rw [List.length_map, rgD_len, List.length_map, grow_len]
          omega
      · rintro S' E' ⟨⟨s4, s5, rfl⟩, rfl⟩
        rw [List.length_map, List.length_map, List.take_length, ← eA]
        exact sx_release (i := 3) hp rfl (sx_asg (ex_var rfl rfl ⟨rfl, _, _, _, _, rfl⟩))
    · rintro S' E' ⟨rfl, s2, s3, s4, s5, rfl⟩
      rw [List.length_map, rgD_len, show ((k : Int) + 1 - 1).toNat = k by omega]
      obtain ⟨c1, c2, c3⟩ := sort_conds h1 h6
      refine sx_retN (en_sorted (ex_new (en_lcP [4] (fun _ => true) seI (ix_list (ex_var rfl rfl ⟨_, rfl, ?_, ?_, ?_⟩)))))
      · rw [List.length_map, List.length_map]
        have := allS_len h6
        omega
      · intro F it hit
        obtain ⟨d, hd, rfl⟩ := List.mem_map.mp hit
        obtain ⟨nss, hn, rfl⟩ := List.mem_map.mp hd
        have ok := allS_ok h6 hn
        have aj := adj_intTs (tupI_intTs fun ns hns => (ok.each ns hns).2)
        exact gx_name (by decide) (tx_yes ⟨rfl, rfl, fun _ => ex_tuple (ex_new (en_sorted (ex_var rfl rfl ⟨_, rfl, aj.1, sortable_tupI (fun ns hns => (ok.each ns hns).2), fun d hd => (aj.2 d hd).2, _, .inl rfl, rfl, rfl⟩)))⟩)
      · rw [se_map (k := k) fun nss hn => allS_ok h6 hn]
        exact ⟨_, rfl, c1, c2, c3, fun p hp => ⟨p, _, rfl, get_one', k, rfl, rfl⟩⟩
end K1

set_option maxHeartbeats 1000000
namespace K1
open PySem PySem.Spec PyProof.Rows L2 PL
variable {K : PySem.W.Frag} {TL : List Addr}
def TapeOk (c : List PyData) : Prop := ∃ (ns : List Int) (k z : Int), c = [.list (ns.map .int), .int k, .int z]
def spDr (K : PySem.W.Frag) (TL : List Addr) : Sp := spT K TL (fun c ds => TapeOk c ∧ ∃ m : Int, ds = [.int m] ∧ 0 < m ∧ m ≤ 2 ^ 60) (fun c ds r c' => TapeOk c' ∧ ∃ m i : Int, ds = [.int m] ∧ r = .int i ∧ 0 ≤ i ∧ i < m)
theorem spDr_len (vs : List V) (H : Hp) (Q : VK) (E : XK) (h : spDr K TL vs H Q E) : vs.length = 2 := spT_len (n := 1) (fun c ds ⟨_, _, e, _⟩ => by rw [e]; rfl) vs H Q E h
theorem v_one {a : Addr} {c : List PyData} : view [(a, c)] (.own a) = some (.list c) := by
  show (PL.get [(a, c)] a).map PyData.list = _
  rw [get_one']
  rfl
theorem divW {z m : Int} (h0 : 0 < m) (h1 : m ≤ 2 ^ 60) : CDivW z m := wide_div (b := 61) h0 (by omega) (by decide) (by decide)
abbrev WR (K : PySem.W.Frag) : TS := tSeq (tAsg (tOp (rAddU K) (tOp (rIx K) (tVar 0) (tC (.int 1))) (tC (.int 1))) (gSub (tVar 0) (tC (.int 1)) rSetL)) (tAsg (tVar 3) (gSub (tVar 0) (tC (.int 2)) rSetL))
abbrev TH (K : PySem.W.Frag) : TS := tSeq (tAsg (tOp (rI (fun _ j => 0 < j) fun i j => .int (i % j)) (tOp (rAddU K) (tVar 3) (tOp (rMulU) (tC (.int 1000003)) (tOp (rIx K) (tVar 0) (tC (.int 1))))) (tVar 2)) (gName 3)) (tSeq (tAsg (tOp (rI (fun _ j => 0 < j) fun i j => .int (i % j)) (tOp (rAddU K) (tOp (rAddU K) (tOp (rMulU) (tVar 3) (tVar 3)) (tOp (rMulU) (tC (.int 1181783497276652981)) (tVar 3))) (tC (.int 2049848353892358983))) (tVar 2)) (gName 3)) (tAsg (tOp (rI (fun _ j => 0 < j) fun i j => .int (i % j)) (tOp (rAddU K) (tOp (rMulU) (tVar 3) (tVar 3)) (tC (.int 1442695040888963407))) (tVar 2)) (gName 3)))
abbrev MX (K : PySem.W.Frag) : TS := tIfS (tOr (tTest (tOp (rI0 fun i j => .bl (decide (j ≤ i))) (tOp (rIx K) (tVar 0) (tC (.int 1))) (tCB (PL.rLen K) (tCons (tOp (rIx K) (tVar 0) (tC (.int 0))) tNil)))) (tTest (tOp (rLtD K) (tVar 3) (tOp (rI CPow fun i j => .int (i ^ j.toNat)) (tC (.int 10)) (tC (.int 18)))))) (TH K) tNext
abbrev RS (K : PySem.W.Frag) : TS := tSeq (tAsg (tOp (rI (fun _ j => 0 < j) fun i j => .int (i % j)) (tOp (rIx K) (tVar 0) (tC (.int 2))) (tVar 1)) (gName 4)) (tSeq (tAsg (tOp (rI CDivW fun i j => .int (i / j)) (tOp (rIx K) (tVar 0) (tC (.int 2))) (tVar 1)) (gSub (tVar 0) (tC (.int 2)) rSetL)) (tRet (tVar 4)))
section
variable {F : Fm} {a : Addr} {ns : List Int} {k z m P : Int} {N B C : Sto → List Sl → Prop} {R : Sl → Sto → Prop}
theorem w_rs (h0 : 0 < m) (h1 : m ≤ 2 ^ 60) (s3 : Sl) (hR : ∀ i z', 0 ≤ i → i < m → R (.dat (.int i)) [(a, [.list (ns.map .int), .int k, .int z'])]) : SX K TL F (RS K) [(a, [.list (ns.map .int), .int k, .int z])] [.own a, .dat (.int m), .dat (.int P), s3, .no] N R B C := by
  refine sx_seq (sx_asg (ex_op (ex_op (ex_var rfl rfl (ex_c rfl ⟨_, _, _, v_one, rfl, rfl, ex_var rfl rfl ⟨_, _, _, rfl, rfl, ⟨_, _, rfl, rfl, h0, rfl⟩, ?_⟩⟩)))))
  refine sx_seq (sx_setL (ex_op (ex_op (ex_var rfl rfl (ex_c rfl ⟨_, _, _, v_one, rfl, rfl, ex_var rfl rfl ⟨_, _, _, rfl, rfl, ⟨_, _, rfl, rfl, divW h0 h1, rfl⟩, _, rfl, ex_var rfl rfl ⟨a, rfl, ex_c rfl ⟨2, 2, _, rfl, get_one', rfl, ?_⟩⟩⟩⟩)))))
  rw [put_one]
  exact sx_ret (ex_var rfl rfl (hR (z % m) _ (Int.emod_nonneg _ (by omega)) (Int.emod_lt_of_pos _ h0)))
theorem w_wr (x : Int) (hN : N [(a, [.list (ns.map .int), .int (k + 1), .int x])] [.own a, .dat (.int m), .dat (.int P), .dat (.int x), .no]) : SX K TL F (WR K) [(a, [.list (ns.map .int), .int k, .int z])] [.own a, .dat (.int m), .dat (.int P), .dat (.int x), .no] N R B C := by
  refine sx_seq (sx_setL (ex_op (ex_op (ex_var rfl rfl (ex_c rfl ⟨_, _, _, v_one, rfl, rfl, ex_c rfl ⟨_, _, _, rfl, rfl, rfl, _, rfl, ex_var rfl rfl ⟨a, rfl, ex_c rfl ⟨1, 1, _, rfl, get_one', rfl, ?_⟩⟩⟩⟩)))))
  rw [put_one]
  refine sx_setL (ex_var rfl rfl ⟨_, rfl, ex_var rfl rfl ⟨a, rfl, ex_c rfl ⟨2, 2, _, rfl, get_one', rfl, ?_⟩⟩⟩)
  rw [put_one]
  exact hN
theorem w_th (hP : 0 < P ∧ P < 2 ^ 64) (x : Int) (hN : ∀ y, N [(a, [.list (ns.map .int), .int k, .int z])] [.own a, .dat (.int m), .dat (.int P), .dat (.int y), .no]) : SX K TL F (TH K) [(a, [.list (ns.map .int), .int k, .int z])] [.own a, .dat (.int m), .dat (.int P), .dat (.int x), .no] N R B C := by
  have sq : ∀ y : Int, CMul (y % P) (y % P) ∨ CMulW (y % P) (y % P) := fun y => by
    have q1 := Int.emod_nonneg y (b := P) (by omega)
    have q2 := Int.emod_lt_of_pos y hP.1
    exact .inl (.inl ⟨by omega, by omega⟩)
  have cm : ∀ (b y : Int), -(2 ^ 64) < b → b < 2 ^ 64 → CMul b y ∨ CMulW b y := fun b y q1 q2 => .inl (.inl ⟨q1, q2⟩)
  refine sx_seq (sx_asg (ex_op (ex_op (ex_var rfl rfl (ex_op (ex_c rfl (ex_op (ex_var rfl rfl (ex_c rfl ⟨_, _, _, v_one, rfl, rfl, _, _, _, rfl, rfl, ⟨_, _, rfl, rfl, cm _ _ (by decide) (by decide), rfl⟩, _, _, _, rfl, rfl, rfl, ex_var rfl rfl ⟨_, _, _, rfl, rfl, ⟨_, _, rfl, rfl, hP.1, rfl⟩, ?_⟩⟩)))))))))
  refine sx_seq (sx_asg (ex_op (ex_op (ex_op (ex_op (ex_var rfl rfl (ex_var rfl rfl ⟨_, _, _, rfl, rfl, ⟨_, _, rfl, rfl, sq _, rfl⟩, ex_op (ex_c rfl (ex_var rfl rfl ⟨_, _, _, rfl, rfl, ⟨_, _, rfl, rfl, cm _ _ (by decide) (by decide), rfl⟩, _, _, _, rfl, rfl, rfl, ex_c rfl ⟨_, _, _, rfl, rfl, rfl, ex_var rfl rfl ⟨_, _, _, rfl, rfl, ⟨_, _, rfl, rfl, hP.1, rfl⟩, ?_⟩⟩⟩))⟩)))))))
  refine sx_asg (ex_op (ex_op (ex_op (ex_var rfl rfl (ex_var rfl rfl ⟨_, _, _, rfl, rfl, ⟨_, _, rfl, rfl, sq _, rfl⟩, ex_c rfl ⟨_, _, _, rfl, rfl, rfl, ex_var rfl rfl ⟨_, _, _, rfl, rfl, ⟨_, _, rfl, rfl, hP.1, rfl⟩, ?_⟩⟩⟩)))))
  exact hN _
theorem w_mx (hP : 0 < P ∧ P < 2 ^ 64) (x : Int) (hN : ∀ y, N [(a, [.list (ns.map .int), .int k, .int z])] [.own a, .dat (.int m), .dat (.int P), .dat (.int y), .no]) : SX K TL F (MX K) [(a, [.list (ns.map .int), .int k, .int z])] [.own a, .dat (.int m), .dat (.int P), .dat (.int x), .no] N R B C := by
  refine sx_if (tx_or (tx_test (ex_op (ex_op (ex_var rfl rfl (ex_c rfl ⟨_, _, _, v_one, rfl, rfl, ex_len (ex_op (ex_var rfl rfl (ex_c rfl ⟨_, _, _, v_one, rfl, rfl, _, _, rfl, rfl, _, _, _, rfl, rfl, ⟨_, _, rfl, rfl, trivial, rfl⟩, _, rfl, ?_⟩)))⟩))))))
  generalize decide (((ns.map PyData.int).length : Int) ≤ k) = b1
  cases b1 with
  | true => exact iteT (iteT (w_th hP x hN))
  | false =>
    refine iteF (tx_test (ex_op (ex_var rfl rfl (ex_op (ex_c rfl (ex_c rfl ⟨_, _, _, rfl, rfl, ⟨_, _, rfl, rfl, ⟨by decide, by decide, by decide⟩, rfl⟩, _, _, _, rfl, rfl, pLt_int _ _, _, rfl, ?_⟩))))))
    generalize decide (x < _) = b2
    cases b2 with
    | true => exact iteT (w_th hP x hN)
    | false => exact iteF (sx_next (hN x))
theorem w_go {B' C' : Sto → List Sl → Prop} (hP : 0 < P ∧ P < 2 ^ 64) (h0 : 0 < m) (h1 : m ≤ 2 ^ 60) (x : Int) (hR : ∀ i z', 0 ≤ i → i < m → R (.dat (.int i)) [(a, [.list (ns.map .int), .int (k + 1), .int z'])]) :
    SX K TL F (tSeq (MX K) (WR K)) [(a, [.list (ns.map .int), .int k, .int z])] [.own a, .dat (.int m), .dat (.int P), .dat (.int x), .no] (fun S' E' => SX K TL F (RS K) S' E' N R B C) R B' C' :=
  sx_seq (w_mx hP x fun y => w_wr y (w_rs h0 h1 _ hR))
end
theorem p__law_draw (vs : List V) (H : Hp) (Q : VK) (E : XK) (h : spDr K TL vs H Q E) : t__law_draw K { nx := fun _ H' => Q .non H', rt := Q } (start N__law_draw vs) H :=
  body_T 5 rfl h (by rw [spDr_len vs H Q E h]; decide) fun F a c ds ⟨⟨ns, k, z, ec⟩, m, e, h0, h1⟩ _ => by
    subst e ec
    refine sx_seq (sx_asg (ex_c rfl ?_))
    generalize hp : (2305843009213693951 : Int) = P
    have hP : 0 < P ∧ P < 2 ^ 64 := by rw [← hp]; decide
    refine sx_seq (sx_if (tx_test (ex_op (ex_op (ex_var rfl rfl (ex_c rfl ⟨_, _, _, v_one, rfl, rfl, ex_var rfl rfl ⟨_, _, _, rfl, rfl, pLt_int _ _, _, rfl, ?_⟩⟩))))))
    by_cases hz : z < m
    · rw [decide_eq_true hz]
      refine iteT (sx_seq (sx_asg (ex_c rfl ?_)))
      refine sx_seq (sx_if (tx_test (ex_op (ex_len (ex_op (ex_var rfl rfl (ex_c rfl ⟨_, _, _, v_one, rfl, rfl, _, _, rfl, rfl, ex_c rfl ⟨_, _, _, rfl, rfl, ⟨_, _, rfl, rfl, trivial, rfl⟩, _, rfl, ?_⟩⟩)))))))
      have fin : ∀ i z' : Int, 0 ≤ i → i < m → ∃ d c', Sl.dat (.int i) = .dat d ∧ PL.get [(a, [.list (ns.map .int), .int (k + 1), .int z'])] a = some c' ∧ TapeOk c' ∧ ∃ m_1 i, [PyData.int m] = [.int m_1] ∧ d = .int i ∧ 0 ≤ i ∧ i < m_1 := fun i z' q1 q2 => ⟨_, _, rfl, get_one', ⟨ns, k + 1, z', rfl⟩, m, i, rfl, rfl, q1, q2⟩
      cases ns with
      | nil => exact iteF (sx_next (w_go hP h0 h1 0 fin))
      | cons n ns =>
        have hl : (0 : Int) < ((PyData.int n :: ns.map PyData.int).length : Nat) := by
          rw [List.length_cons]
          omega
        rw [List.map_cons, decide_eq_true hl]
        have hx : ∃ x : Int, atI (PyData.int n :: ns.map PyData.int) (k % ((PyData.int n :: ns.map PyData.int).length : Nat)) = some (.int x) := by
          obtain ⟨d, hd, hm, _⟩ := atI_lt (xs := PyData.int n :: ns.map PyData.int) (i := k % ((PyData.int n :: ns.map PyData.int).length : Nat)) (Int.emod_nonneg _ (by omega)) (Int.emod_lt_of_pos _ hl)
          rw [← List.map_cons] at hm
          obtain ⟨x, _, rfl⟩ := List.mem_map.mp hm
          exact ⟨x, hd⟩
        obtain ⟨x, hx⟩ := hx
        refine iteT (sx_asg (ex_op (ex_op (ex_var rfl rfl (ex_c rfl ⟨_, _, _, v_one, rfl, rfl, ex_op (ex_op (ex_var rfl rfl (ex_c rfl ⟨_, _, _, v_one, rfl, rfl, ex_len (ex_op (ex_var rfl rfl (ex_c rfl ⟨_, _, _, v_one, rfl, rfl, _, _, rfl, rfl, _, _, _, rfl, rfl, ⟨_, _, rfl, rfl, hl, rfl⟩, .list (PyData.int n :: ns.map PyData.int), _, _, rfl, rfl, hx, ?_⟩)))⟩)))⟩)))))
        exact w_go (ns := n :: ns) (a := a) (k := k) (R := fun r S' => ∃ d c', r = .dat d ∧ PL.get S' a = some c' ∧ TapeOk c' ∧ ∃ m_1 i, [PyData.int m] = [.int m_1] ∧ d = .int i ∧ 0 ≤ i ∧ i < m_1) hP h0 h1 x fin
    · rw [decide_eq_false hz]
      exact iteF (sx_next (w_rs h0 h1 _ fun i z' q1 q2 => ⟨_, _, rfl, get_one', ⟨ns, k, z', rfl⟩, m, i, rfl, rfl, q1, q2⟩))
end K1

set_option maxHeartbeats 1000000
namespace K1
open PySem PySem.Spec PyProof.Rows L2 PL
variable {K : PySem.W.Frag} {TL : List Addr}
section
variable {F : Fm} {S S1 : Sto} {E : List Sl} {Kp : Sl → Sto → Prop} {ta : TA} {XX : XK}
theorem ex_dr (h : AX K TL F ta S E fun rs S1 => ∃ t c, ∃ m : Int, rs = [.own t, .dat (.int m)] ∧ PL.get S1 t = some c ∧ TapeOk c ∧ (0 < m ∧ m ≤ 2 ^ 60) ∧ ∀ i c', TapeOk c' → 0 ≤ i → i < m → Kp (.dat (.int i)) (put S1 t c')) : EX K TL F (tCall (spDr K TL) [] XX ta) S E Kp :=
  ex_callT fun σ H o Q q => h σ H o Q fun vs rs S1 H1 o1 e1 s1 v1 ⟨t, c, m, er, hg, ht, hm, k⟩ => q vs rs S1 H1 o1 e1 s1 v1 ⟨t, _, c, [.int m], er, hg, rfl, ⟨ht, m, rfl, hm.1, hm.2⟩, fun d c' ⟨h1, m', i, e, ed, h2, h3⟩ => by
    cases e
    subst ed
    exact k i c' h1 h2 h3⟩
end
/-! ### _law_any -/
def spAny (K : PySem.W.Frag) (TL : List Addr) (n : Nat) : Sp := spT K TL (fun c ds => TapeOk c ∧ ∃ k : Nat, ds = [.int k] ∧ k ≤ n) (fun c ds r c' => TapeOk c' ∧ Gd 8 (n + 1) r)
theorem spAny_len (n : Nat) (vs : List V) (H : Hp) (Q : VK) (E : XK) (h : spAny K TL n vs H Q E) : vs.length = 2 := spT_len (n := 1) (fun c ds ⟨_, _, e, _⟩ => by rw [e]; rfl) vs H Q E h
theorem gd_lit {n : Nat} (x : Str) (h : x.length ≤ 8) (h2 : ∀ c ∈ x.cps.toList, c < 0x110000) : Gd 8 n (.str x) := .str n x h h2
theorem lit_all : ∀ d ∈ [PyData.str "", .str " ", .str "a", .str "open", .str "nest", .str "1", .str "A", .str "a\nb"], Gd 8 0 d := by
  intro d hd
  simp only [List.mem_cons, List.not_mem_nil, or_false] at hd
  rcases hd with rfl | rfl | rfl | rfl | rfl | rfl | rfl | rfl
  all_goals exact gd_lit _ (by decide) (by decide)
theorem p__law_any (s : Sp) (n : Nat) (hs : ∀ n', n = n' + 1 → s = spAny K TL n') (vs : List V) (H : Hp) (Q : VK) (E : XK) (h : spAny K TL n vs H Q E) : t__law_any K (spDr K TL) s { nx := fun _ H' => Q .non H', rt := Q } (start N__law_any vs) H :=
  body_T 5 rfl h (by rw [spAny_len n vs H Q E h]; decide) fun F a c ds ⟨ht, k, e, hk⟩ _ => by
    subst e
    have fin : ∀ {d : PyData} {c' : List PyData}, TapeOk c' → Gd 8 (n + 1) d → ∃ d_1 c_1, Sl.dat d = .dat d_1 ∧ PL.get [(a, c')] a = some c_1 ∧ TapeOk c_1 ∧ Gd 8 (n + 1) d_1 := fun {d c'} h1 h2 => ⟨d, c', rfl, get_one', h1, h2⟩
    refine sx_seq (sx_asg (ex_dr (ax_cons (ex_var rfl rfl (ax_cons (ex_c rfl (ax_nil ⟨a, c, 13, rfl, get_one', ht, by decide, fun i c ht q0 q1 => ?_⟩)))))))
    rw [put_one]
    -- behind the first if
    have rest : ∀ c s3, TapeOk c → (k = 0 ∨ 4 ≤ i) → SX K TL F
        (tSeq (tIfS (tTest (tOp (rLtD K) (tVar 2) (tC (.int 8)))) (tRet (tOp (rIx K) (tLst (tCons (tOp (rI0 fun i j => .int (i - j)) (tCall (spDr K TL) [] E0 (tCons (tVar 0) (tCons (tC (.int 12)) tNil))) (tC (.int 2))) (tCons (tCall (spDr K TL) [] E0 (tCons (tVar 0) (tCons (tOp (rI CPow fun i j => .int (i ^ j.toNat)) (tC (.int 10)) (tC (.int 12))) tNil))) (tCons (tC (.int 0)) (tCons (tC (.int 7)) tNil))))) (tCB (PL.rMax2) (tCons (tC (.int 0)) (tCons (tOp (rI0 fun i j => .int (i - j)) (tVar 2) (tC (.int 4))) tNil))))) tNext) (tSeq (tAsg (tLst (tCons (tC (.str "")) (tCons (tC (.str " ")) (tCons (tC (.str "a")) (tCons (tC (.str "open")) (tCons (tC (.str "nest")) (tCons (tC (.str "1")) (tCons (tC (.str "A")) (tCons (tC (.str "a\nb")) tNil))))))))) (gName 3)) (tRet (tOp (rIx K) (tLst (tCons (tC (.bl true)) (tCons (tC (.bl false)) (tCons (tC .non) (tCons (tOp (rIx K) (tVar 3) (tCall (spDr K TL) [] E0 (tCons (tVar 0) (tCons (tC (.int 8)) tNil)))) (tCons (tTupF (tCons (tC (.int 1)) (tCons (tC (.int 2)) tNil))) tNil)))))) (tOp (rI0 fun i j => .int (i - j)) (tVar 2) (tC (.int 8)))))))
        [(a, c)] [.own a, .dat (.int k), .dat (.int i), s3, .no] (fun S' _ => ∃ c', PL.get S' a = some c' ∧ TapeOk c' ∧ Gd 8 (n + 1) PyData.none)
        (fun r S' => ∃ d c', r = .dat d ∧ PL.get S' a = some c' ∧ TapeOk c' ∧ Gd 8 (n + 1) d) (fun _ _ => False) (fun _ _ => False) := fun c s3 ht hki => by
      refine sx_seq (sx_if (tx_test (ex_op (ex_var rfl rfl (ex_c rfl ⟨_, _, _, rfl, rfl, pLt_int _ _, _, rfl, ?_⟩)))))
      by_cases h8 : i < 8
      · rw [decide_eq_true h8]
        refine iteT (sx_ret (ex_op (ex_new (en_lst (ax_cons (ex_op (ex_dr (ax_cons (ex_var rfl rfl (ax_cons (ex_c rfl (ax_nil ⟨a, c, 12, rfl, get_one', ht, by decide, fun j c ht _ _ => ?_⟩))))))))))))
        rw [put_one]
        refine ex_c rfl ⟨_, _, _, rfl, rfl, ⟨_, _, rfl, rfl, trivial, rfl⟩, ax_cons (ex_dr (ax_cons (ex_var rfl rfl (ax_cons (ex_op (ex_c rfl (ex_c rfl ⟨_, _, _, rfl, rfl, ⟨_, _, rfl, rfl, ⟨by decide, by decide, by decide⟩, rfl⟩, ax_nil ⟨a, c, _, rfl, get_one', ht, by decide, fun j2 c ht _ _ => ?_⟩⟩)))))))⟩
        rw [put_one]
        refine ax_cons (ex_c rfl (ax_cons (ex_c rfl (ax_nil ⟨_, rfl, by show 4 ≤ 1000000; decide, ?_⟩))))
        refine ex_max2 (ax_cons (ex_c rfl (ax_cons (ex_op (ex_var rfl rfl (ex_c rfl ⟨_, _, _, rfl, rfl, ⟨_, _, rfl, rfl, trivial, rfl⟩, ax_nil ⟨_, _, rfl, ?_⟩⟩))))))
        have hb : 0 ≤ (if i - 4 > 0 then i - 4 else 0) ∧ (if i - 4 > 0 then i - 4 else 0) < 4 := by
          split <;> omega
        obtain ⟨x, hx, hm, _⟩ := atI_lt (xs := [PyData.int (j - 2), .int j2, .int 0, .int 7]) hb.1 hb.2
        refine ⟨.list [PyData.int (j - 2), .int j2, .int 0, .int 7], _, x, rfl, rfl, hx, fin ht ?_⟩
        simp only [List.mem_cons, List.not_mem_nil, or_false] at hm
        rcases hm with rfl | rfl | rfl | rfl <;> exact .int _ _
      · rw [decide_eq_false h8]
        refine iteF (sx_next (sx_seq (sx_asg (ex_new (en_lst (ax_cons (ex_c rfl (ax_cons (ex_c rfl (ax_cons (ex_c rfl (ax_cons (ex_c rfl (ax_cons (ex_c rfl (ax_cons (ex_c rfl (ax_cons (ex_c rfl (ax_cons (ex_c rfl (ax_nil ⟨_, rfl, by show 8 ≤ 1000000; decide, ?_⟩))))))))))))))))))))))
        refine sx_ret (ex_op (ex_new (en_lst (ax_cons (ex_c rfl (ax_cons (ex_c rfl (ax_cons (ex_c rfl (ax_cons (ex_op (ex_var rfl rfl (ex_dr (ax_cons (ex_var rfl rfl (ax_cons (ex_c rfl (ax_nil ⟨a, c, 8, rfl, get_one', ht, by decide, fun j c ht j0 j1 => ?_⟩))))))))))))))))))
        rw [put_one]
        obtain ⟨x, hx, hxm, _⟩ := atI_lt (xs := [PyData.str "", .str " ", .str "a", .str "open", .str "nest", .str "1", .str "A", .str "a\nb"]) j0 j1
        refine ⟨.list [PyData.str "", .str " ", .str "a", .str "open", .str "nest", .str "1", .str "A", .str "a\nb"], _, x, rfl, rfl, hx, ax_cons (ex_tup (ax_cons (ex_c rfl (ax_cons (ex_c rfl (ax_nil ⟨_, rfl, by show 2 ≤ 1000000; decide, ax_nil ⟨_, rfl, by show 5 ≤ 1000000; decide, ?_⟩⟩))))))⟩
        refine ex_op (ex_var rfl rfl (ex_c rfl ⟨_, _, _, rfl, rfl, ⟨_, _, rfl, rfl, trivial, rfl⟩, ?_⟩))
        obtain ⟨y, hy, hm, _⟩ := atI_lt (xs := [PyData.bool true, .bool false, .none, x, .tuple [.int 1, .int 2]]) (i := i - 8) (by omega) (by show i - 8 < 5; omega)
        refine ⟨.list [PyData.bool true, .bool false, .none, x, .tuple [.int 1, .int 2]], _, y, rfl, rfl, hy, fin ht ?_⟩
        simp only [List.mem_cons, List.not_mem_nil, or_false] at hm
        rcases hm with rfl | rfl | rfl | rfl | rfl
        · exact .bl _ _
        · exact .bl _ _
        · exact .non _
        · exact (lit_all _ hxm).mono (Nat.le_refl _) (Nat.zero_le _)
        · exact gd_intsT n [1, 2] (by decide)
    refine sx_seq (sx_if (tx_and (tx_test (ex_op (ex_var rfl rfl (ex_c rfl ⟨_, _, _, rfl, rfl, pLt_int _ _, _, rfl, ?_⟩))))))
    by_cases h4 : i < 4
    · rw [decide_eq_true h4]
      refine iteT (tx_test (ex_op (ex_var rfl rfl (ex_c rfl ⟨_, _, _, rfl, rfl, ⟨_, _, rfl, rfl, trivial, rfl⟩, _, rfl, ?_⟩))))
      by_cases hk0 : k = 0
      · subst hk0
        exact iteF (sx_next (rest c _ ht (.inl rfl)))
      · rw [decide_eq_true (by omega)]
        obtain ⟨n', rfl⟩ : ∃ n', n = n' + 1 := ⟨n - 1, by omega⟩
        have es := hs n' rfl
        subst es
        refine iteT (sx_seq (sx_asg (ex_new (en_lc [4] (ix_rng1 (ax_cons (ex_dr (ax_cons (ex_var rfl rfl (ax_cons (ex_c rfl (ax_nil ⟨a, c, 4, rfl, get_one', ht, by decide, fun j c ht j0 j1 => ?_⟩))))))))))))
        rw [put_one]
        refine ax_nil ⟨j, rfl, by omega, ?_, fun b acc S' => (∃ c, S' = [(a, c)] ∧ TapeOk c) ∧ acc.length ≤ b ∧ ∀ d ∈ acc, Gd 8 (n' + 1) d, ⟨⟨c, rfl, ht⟩, Nat.le_refl _, fun d hd => by cases hd⟩, ?_, ?_⟩
        · rw [List.length_map, rgD_len]
          omega
        · rintro F b it acc S' hit ⟨⟨c, rfl, ht⟩, hl, hg⟩
          obtain ⟨d, hd, rfl⟩ := one_get hit
          refine gx_name (by decide) (tx_yes (iteT (ex_callT (ax_cons (ex_var rfl rfl (ax_cons (ex_op (ex_var rfl rfl (ex_c rfl ⟨_, _, _, rfl, rfl, ⟨_, _, rfl, rfl, trivial, rfl⟩, ax_nil ⟨a, _, c, _, rfl, get_one', rfl, ⟨ht, k - 1, ?_, by omega⟩, ?_⟩⟩)))))))))
          · rw [show ((k : Nat) : Int) - 1 = ((k - 1 : Nat) : Int) by omega]
          · rintro d c' ⟨ht', hd⟩
            rw [put_one]
            refine ⟨d, rfl, ⟨c', rfl, ht'⟩, ?_, fun x hx => ?_⟩
            · rw [List.length_append]
              show _ + 1 ≤ _
              omega
            · rcases List.mem_append.mp hx with hx | hx
              · exact hg x hx
              · rw [List.mem_singleton.mp hx]
                exact hd
        · rintro acc S' ⟨⟨c, rfl, ht⟩, hl, hg⟩
          rw [List.length_map, rgD_len] at hl
          have hl8 : acc.length ≤ 8 := by omega
          refine sx_ret (ex_op (ex_new (en_lst (ax_cons (ex_var rfl rfl (ax_cons (ex_tuple (ex_var rfl rfl ⟨acc, .inl rfl, ax_cons (ex_tuple (ex_var rfl rfl ⟨acc, .inl rfl, ax_cons (ex_tuple (ex_var rfl rfl ⟨acc, .inl rfl, ax_nil ⟨_, rfl, by show 4 ≤ 1000000; decide, ?_⟩⟩))⟩))⟩))))))))
          obtain ⟨y, hy, hm, _⟩ := atI_lt (xs := [PyData.list acc, .tuple acc, .tuple acc, .tuple acc]) (i := i) q0 (by show i < 4; omega)
          refine ex_var rfl rfl ⟨.list [PyData.list acc, .tuple acc, .tuple acc, .tuple acc], _, y, rfl, rfl, hy, fin ht ?_⟩
          simp only [List.mem_cons, List.not_mem_nil, or_false] at hm
          rcases hm with rfl | rfl | rfl | rfl
          · exact .lst _ _ hl8 hg
          all_goals exact .tup _ _ hl8 hg
    · rw [decide_eq_false h4]
      exact iteF (iteF (sx_next (rest c _ ht (.inr (by omega)))))
end K1

set_option maxHeartbeats 1000000
namespace K1
open PySem PySem.Spec PyProof.Rows L2 PL
variable {K : PySem.W.Frag} {TL : List Addr}
/-! ### _law_spoilt -/
def spSp (K : PySem.W.Frag) (TL : List Addr) (N : Nat) : Sp := spTG K TL (G := Nat × Nat) (fun g => g.1 ≤ 400 ∧ g.2 ≤ N) (fun g c ds => TapeOk c ∧ ∃ d, ds = [d] ∧ Gd g.1 g.2 d) (fun g c ds r c' => TapeOk c' ∧ Gd (g.1 + 8) (g.2 + 4) r)
theorem spSp_len (N : Nat) (vs : List V) (H : Hp) (Q : VK) (E : XK) (h : spSp K TL N vs H Q E) : vs.length = 2 := by
  obtain ⟨g, _, h⟩ := h
  exact spT_len (n := 1) (fun c ds ⟨_, _, e, _⟩ => by rw [e]; rfl) vs H Q E h
theorem str_len (x : Str) : x.length = x.cps.toList.length := rfl
theorem cut_str {m : Nat} {z : Str} (lo hi : Option Int) (h : z.length ≤ m) (h2 : ∀ c ∈ z.cps.toList, c < 0x110000) : (cutS z lo hi).length ≤ m ∧ ∀ c ∈ (cutS z lo hi).cps.toList, c < 0x110000 := by
  unfold cutS
  refine ⟨?_, fun c hc => ?_⟩
  · rw [str_len]
    show (List.take _ (List.drop _ z.cps.toList)).length ≤ m
    rw [List.length_take, List.length_drop]
    rw [str_len] at h
    omega
  · have hc : c ∈ List.take _ (List.drop _ z.cps.toList) := hc
    exact h2 c (List.mem_of_mem_drop (List.mem_of_mem_take hc))
theorem cut_sum (z : Str) (j : Nat) : (cutS z none (some (j : Int))).length + (cutS z (some (j : Int)) none).length ≤ z.length := by
  unfold cutS
  rw [str_len, str_len, str_len]
  show (List.take _ (List.drop _ z.cps.toList)).length + (List.take _ (List.drop _ z.cps.toList)).length ≤ _
  rw [List.length_take, List.length_take, List.length_drop, List.length_drop, HT.sIx_nat, HT.sIx_none, HT.sIx_nat, HT.sIx_none]
  omega
theorem app_str (x y : Str) : (x ++ y).cps.toList = x.cps.toList ++ y.cps.toList := by
  show (x.cps ++ y.cps).toList = _
  exact Array.toList_append
theorem gd_app {m1 m2 m n : Nat} {x y : Str} (h : m1 + m2 ≤ m) (hx : x.length ≤ m1 ∧ ∀ c ∈ x.cps.toList, c < 0x110000) (hy : y.length ≤ m2 ∧ ∀ c ∈ y.cps.toList, c < 0x110000) : (x ++ y).length ≤ m ∧ ∀ c ∈ (x ++ y).cps.toList, c < 0x110000 := by
  have h1 := hx.1
  have h2 := hy.1
  rw [str_len] at h1 h2
  refine ⟨?_, fun c hc => ?_⟩
  · rw [str_len, app_str, List.length_append]
    omega
  · rw [app_str] at hc
    rcases List.mem_append.mp hc with hc | hc
    · exact hx.2 c hc
    · exact hy.2 c hc
theorem lit2 : ∀ d ∈ [PyData.str " ", .str "z", .str "A", .str "|", .str "abcdefgh", .str ""], ∃ w : Str, d = .str w ∧ w.length ≤ 8 ∧ ∀ c ∈ w.cps.toList, c < 0x110000 := by
  intro d hd
  simp only [List.mem_cons, List.not_mem_nil, or_false] at hd
  rcases hd with rfl | rfl | rfl | rfl | rfl | rfl
  all_goals exact ⟨_, rfl, by decide, by decide⟩
abbrev R2 (K : PySem.W.Frag) (TL : List Addr) : TS := (tSeq (tIfS (tAnd (tB (tCall (sWhole K TL) [] E0 (tCons (tVar 1) tNil))) (tTest (tOp (rI0 fun i j => .bl (decide (j < i))) (tCall (spDr K TL) [] E0 (tCons (tVar 0) (tCons (tC (.int 6)) tNil))) (tC (.int 0))))) (tRet (tOp (rAddU K) (tVar 1) (tOp (rIx K) (tLst (tCons (tC (.int 1)) (tCons (tUn (rU fun i => .int (-i)) (tC (.int 1))) (tCons (tC (.int 2)) (tCons (tUn (rU fun i => .int (-i)) (tC (.int 2))) (tCons (tC (.int 9)) (tCons (tC (.int 1000)) tNil))))))) (tCall (spDr K TL) [] E0 (tCons (tVar 0) (tCons (tC (.int 6)) tNil)))))) tNext) (tSeq (tIfS (tAnd (tB (tCB (rIsi K) (tCons (tVar 1) (tCons (tC (.ty "str")) tNil)))) (tTest (tOp (rI0 fun i j => .bl (decide (j < i))) (tCall (spDr K TL) [] E0 (tCons (tVar 0) (tCons (tC (.int 3)) tNil))) (tC (.int 0))))) (tSeq (tAsg (tCall (spDr K TL) [] E0 (tCons (tVar 0) (tCons (tOp (rAddU K) (tCB (PL.rLen K) (tCons (tVar 1) tNil)) (tC (.int 1))) tNil))) (gName 5)) (tRet (tOp (rAddU K) (tOp (rAddU K) (tSl (rSlU K) (tVar 1) tNoPart (tPart (tVar 5))) (tOp (rIx K) (tLst (tCons (tC (.str " ")) (tCons (tC (.str "z")) (tCons (tC (.str "A")) (tCons (tC (.str "|")) (tCons (tC (.str "abcdefgh")) (tCons (tC (.str "")) tNil))))))) (tCall (spDr K TL) [] E0 (tCons (tVar 0) (tCons (tC (.int 6)) tNil))))) (tSl (rSlU K) (tVar 1) (tPart (tVar 5)) tNoPart)))) tNext) (tSeq (tIfS (tAnd (tB (tCB (rIsiT K) (tCons (tVar 1) (tCons (tTup (tCons (tC (.ty "tuple")) (tCons (tC (.ty "list")) tNil))) tNil)))) (tTest (tOp (rEqD K) (tCall (spDr K TL) [] E0 (tCons (tVar 0) (tCons (tC (.int 2)) tNil))) (tC (.int 0))))) (tRet (tIf (tB (tCB (rIsi K) (tCons (tVar 1) (tCons (tC (.ty "tuple")) tNil)))) (tCB (rListOf K) (tCons (tVar 1) tNil)) (tCB (rTupleF K) (tCons (tVar 1) tNil)))) tNext) (tRet (tCall (spAny K TL 3) [] E0 (tCons (tVar 0) (tCons (tC (.int 2)) tNil)))))))
def RGood (a : Addr) (m n : Nat) (r : Sl) (S' : Sto) : Prop := ∃ d c', r = .dat d ∧ PL.get S' a = some c' ∧ TapeOk c' ∧ Gd (m + 8) (n + 4) d
section
variable {F : Fm} {a : Addr} {m n : Nat} {d : PyData} {N B C : Sto → List Sl → Prop}
theorem rg {c : List PyData} (ht : TapeOk c) (h : Gd (m + 8) (n + 4) d) : RGood a m n (.dat d) [(a, c)] := ⟨d, c, rfl, get_one', ht, h⟩
theorem w_any {c : List PyData} {s2 s3 s4 s5 : Sl} (ht : TapeOk c) : SX K TL F (tRet (tCall (spAny K TL 3) [] E0 (tCons (tVar 0) (tCons (tC (.int 2)) tNil)))) [(a, c)] [.own a, .dat d, s2, s3, s4, s5] N (RGood a m n) B C := by
  refine sx_ret (ex_callT (ax_cons (ex_var rfl rfl (ax_cons (ex_c rfl (ax_nil ⟨a, _, c, _, rfl, get_one', rfl, ⟨ht, 2, rfl, by decide⟩, ?_⟩))))))
  rintro r c' ⟨ht', hg⟩
  rw [put_one]
  exact rg ht' (hg.mono (by omega) (by omega))
theorem w_r2 {c : List PyData} {s2 s3 s4 : Sl} (hm : m ≤ 400) (ht : TapeOk c) (hd : Gd m n d) : SX K TL F (R2 K TL) [(a, c)] [.own a, .dat d, s2, s3, s4, .no] N (RGood a m n) B C := by
  -- the third if and the end
  have third : ∀ c, TapeOk c → SX K TL F (tSeq (tIfS (tAnd (tB (tCB (rIsiT K) (tCons (tVar 1) (tCons (tTup (tCons (tC (.ty "tuple")) (tCons (tC (.ty "list")) tNil))) tNil)))) (tTest (tOp (rEqD K) (tCall (spDr K TL) [] E0 (tCons (tVar 0) (tCons (tC (.int 2)) tNil))) (tC (.int 0))))) (tRet (tIf (tB (tCB (rIsi K) (tCons (tVar 1) (tCons (tC (.ty "tuple")) tNil)))) (tCB (rListOf K) (tCons (tVar 1) tNil)) (tCB (rTupleF K) (tCons (tVar 1) tNil)))) tNext) (tRet (tCall (spAny K TL 3) [] E0 (tCons (tVar 0) (tCons (tC (.int 2)) tNil)))))
      [(a, c)] [.own a, .dat d, s2, s3, s4, .no] N (RGood a m n) B C := fun c ht => by
    refine sx_seq (sx_if (tx_and (tx_B (ex_isi2 ok_tuple ok_list (ex_var rfl rfl ⟨d, rfl, _, rfl, ?_⟩)))))
    cases h1 : (isTy "tuple" d || isTy "list" d) with
    | false => exact iteF (iteF (sx_next (w_any ht)))
    | true =>
      refine iteT (tx_test (ex_op (ex_dr (ax_cons (ex_var rfl rfl (ax_cons (ex_c rfl (ax_nil ⟨a, c, 2, rfl, get_one', ht, by decide, fun i c ht q0 q1 => ?_⟩))))))))
      rw [put_one]
      refine ex_c rfl ⟨_, _, _, rfl, rfl, pEq_int _ _, _, rfl, ?_⟩
      cases decide (i = 0) with
      | false => exact iteF (sx_next (w_any ht))
      | true =>
        refine iteT (sx_ret (ex_if (tx_B (ex_isi ok_tuple (ex_var rfl rfl ⟨d, rfl, _, rfl, ?_⟩)))))
        cases d with
        | tuple xs =>
          have hx := hd.tupN
          exact iteT (ex_new (en_list (ex_var rfl rfl ⟨xs, .inr rfl, rg ht (.lst _ _ (by omega) fun x hx' => (hx.2 x hx').mono (by omega) (by omega))⟩)))
        | list xs =>
          have hx := hd.lstN
          exact iteF (ex_tuple (ex_var rfl rfl ⟨xs, .inl rfl, rg ht (.tup _ _ (by omega) fun x hx' => (hx.2 x hx').mono (by omega) (by omega))⟩))
        | _ => cases h1
  -- the second if
  have second : ∀ c, TapeOk c → SX K TL F (tSeq (tIfS (tAnd (tB (tCB (rIsi K) (tCons (tVar 1) (tCons (tC (.ty "str")) tNil)))) (tTest (tOp (rI0 fun i j => .bl (decide (j < i))) (tCall (spDr K TL) [] E0 (tCons (tVar 0) (tCons (tC (.int 3)) tNil))) (tC (.int 0))))) (tSeq (tAsg (tCall (spDr K TL) [] E0 (tCons (tVar 0) (tCons (tOp (rAddU K) (tCB (PL.rLen K) (tCons (tVar 1) tNil)) (tC (.int 1))) tNil))) (gName 5)) (tRet (tOp (rAddU K) (tOp (rAddU K) (tSl (rSlU K) (tVar 1) tNoPart (tPart (tVar 5))) (tOp (rIx K) (tLst (tCons (tC (.str " ")) (tCons (tC (.str "z")) (tCons (tC (.str "A")) (tCons (tC (.str "|")) (tCons (tC (.str "abcdefgh")) (tCons (tC (.str "")) tNil))))))) (tCall (spDr K TL) [] E0 (tCons (tVar 0) (tCons (tC (.int 6)) tNil))))) (tSl (rSlU K) (tVar 1) (tPart (tVar 5)) tNoPart)))) tNext) (tSeq (tIfS (tAnd (tB (tCB (rIsiT K) (tCons (tVar 1) (tCons (tTup (tCons (tC (.ty "tuple")) (tCons (tC (.ty "list")) tNil))) tNil)))) (tTest (tOp (rEqD K) (tCall (spDr K TL) [] E0 (tCons (tVar 0) (tCons (tC (.int 2)) tNil))) (tC (.int 0))))) (tRet (tIf (tB (tCB (rIsi K) (tCons (tVar 1) (tCons (tC (.ty "tuple")) tNil)))) (tCB (rListOf K) (tCons (tVar 1) tNil)) (tCB (rTupleF K) (tCons (tVar 1) tNil)))) tNext) (tRet (tCall (spAny K TL 3) [] E0 (tCons (tVar 0) (tCons (tC (.int 2)) tNil))))))
      [(a, c)] [.own a, .dat d, s2, s3, s4, .no] N (RGood a m n) B C := fun c ht => by
    refine sx_seq (sx_if (tx_and (tx_B (ex_isi ok_str (ex_var rfl rfl ⟨d, rfl, _, rfl, ?_⟩)))))
    cases h1 : isTy "str" d with
    | false => exact iteF (iteF (sx_next (third c ht)))
    | true =>
      refine iteT (tx_test (ex_op (ex_dr (ax_cons (ex_var rfl rfl (ax_cons (ex_c rfl (ax_nil ⟨a, c, 3, rfl, get_one', ht, by decide, fun i c ht q0 q1 => ?_⟩))))))))
      rw [put_one]
      refine ex_c rfl ⟨_, _, _, rfl, rfl, ⟨_, _, rfl, rfl, trivial, rfl⟩, _, rfl, ?_⟩
      cases decide (0 < i) with
      | false => exact iteF (sx_next (third c ht))
      | true =>
        cases d with
        | str z =>
          have hz : z.length ≤ m ∧ ∀ c ∈ z.cps.toList, c < 0x110000 := by
            cases hd with
            | str _ _ h1 h2 => exact ⟨h1, h2⟩
          have hz6 : z.length ≤ 1000000 := by omega
          have el : lenD (.str z) = some z.length := if_pos hz6
          refine iteT (sx_seq (sx_asg (ex_dr (ax_cons (ex_var rfl rfl (ax_cons (ex_op (ex_len (ex_var rfl rfl ⟨.str z, _, rfl, el, ex_c rfl ⟨_, _, _, rfl, rfl, rfl, ax_nil ⟨a, c, _, rfl, get_one', ht, by omega, fun j c ht j0 j1 => ?_⟩⟩⟩)))))))))
          rw [put_one]
          obtain ⟨j, rfl⟩ := Int.eq_ofNat_of_zero_le j0
          have c1 := cut_str (m := m) none (some (j : Int)) hz.1 hz.2
          have c2 := cut_str (m := m) (some (j : Int)) none hz.1 hz.2
          have cz := cut_sum z j
          refine sx_ret (ex_op (ex_op (ex_sl (ex_var rfl rfl (ox_none (ox_some (ex_var rfl rfl ⟨_, rfl, .str z, _, rfl, ⟨hz6, rfl⟩, ?_⟩)))))))
          refine ex_op (ex_new (en_lst (ax_cons (ex_c rfl (ax_cons (ex_c rfl (ax_cons (ex_c rfl (ax_cons (ex_c rfl (ax_cons (ex_c rfl (ax_cons (ex_c rfl (ax_nil ⟨_, rfl, by show 6 ≤ 1000000; decide, ?_⟩)))))))))))))))
          refine ex_dr (ax_cons (ex_var rfl rfl (ax_cons (ex_c rfl (ax_nil ⟨a, c, 6, rfl, get_one', ht, by decide, fun l c ht l0 l1 => ?_⟩)))))
          rw [put_one]
          obtain ⟨x, hx, hxm, _⟩ := atI_lt (xs := [PyData.str " ", .str "z", .str "A", .str "|", .str "abcdefgh", .str ""]) l0 l1
          obtain ⟨w, rfl, w1, w2⟩ := lit2 x hxm
          have c3 := gd_app (n := 0) (Nat.le_refl _) ⟨Nat.le_refl _, c1.2⟩ ⟨w1, w2⟩
          have c4 := gd_app (m := m + 8) (n := 0) (by have := hz.1; omega) c3 ⟨Nat.le_refl _, c2.2⟩
          refine ⟨.list [PyData.str " ", .str "z", .str "A", .str "|", .str "abcdefgh", .str ""], _, .str w, rfl, rfl, hx, .str (cutS z none (some j)), .str w, _, rfl, rfl, ⟨by have := c1.1; omega, rfl⟩, ?_⟩
          exact ex_sl (ex_var rfl rfl (ox_some (ex_var rfl rfl ⟨_, rfl, ox_none ⟨.str z, _, rfl, ⟨hz6, rfl⟩, .str (cutS z none (some j) ++ w), .str (cutS z (some j) none), _, rfl, rfl, ⟨by have := c3.1; have := c2.1; omega, rfl⟩, rg ht (.str _ _ c4.1 c4.2)⟩⟩)))
        | _ => cases h1
  refine sx_seq (sx_if (tx_and (tx_B (ex_call (ax_cons (ex_var rfl rfl (ax_nil ⟨[d], rfl, ⟨d, rfl⟩, ?_⟩)))))))
  rintro r ⟨d', e, rfl⟩
  cases e
  refine ⟨_, rfl, ?_⟩
  cases h1 : wholeB d with
  | false => exact iteF (iteF (sx_next (second c ht)))
  | true =>
    refine iteT (tx_test (ex_op (ex_dr (ax_cons (ex_var rfl rfl (ax_cons (ex_c rfl (ax_nil ⟨a, c, 6, rfl, get_one', ht, by decide, fun i c ht q0 q1 => ?_⟩))))))))
    rw [put_one]
    refine ex_c rfl ⟨_, _, _, rfl, rfl, ⟨_, _, rfl, rfl, trivial, rfl⟩, _, rfl, ?_⟩
    cases decide (0 < i) with
    | false => exact iteF (sx_next (second c ht))
    | true =>
      obtain ⟨v, rfl⟩ := whole_int h1
      refine iteT (sx_ret (ex_op (ex_var rfl rfl (ex_op (ex_new (en_lst (ax_cons (ex_c rfl (ax_cons (ex_un (ex_c rfl ⟨_, _, rfl, ⟨_, rfl, rfl⟩, ax_cons (ex_c rfl (ax_cons (ex_un (ex_c rfl ⟨_, _, rfl, ⟨_, rfl, rfl⟩, ax_cons (ex_c rfl (ax_cons (ex_c rfl (ax_nil ⟨_, rfl, by show 6 ≤ 1000000; decide, ?_⟩))))⟩))))⟩)))))))))))
      refine ex_dr (ax_cons (ex_var rfl rfl (ax_cons (ex_c rfl (ax_nil ⟨a, c, 6, rfl, get_one', ht, by decide, fun l c ht l0 l1 => ?_⟩)))))
      rw [put_one]
      obtain ⟨x, hx, hxm, _⟩ := atI_lt (xs := [PyData.int 1, .int (-1), .int 2, .int (-2), .int 9, .int 1000]) l0 l1
      have hy : ∃ y : Int, x = .int y := by
        simp only [List.mem_cons, List.not_mem_nil, or_false] at hxm
        rcases hxm with rfl | rfl | rfl | rfl | rfl | rfl <;> exact ⟨_, rfl⟩
      obtain ⟨y, rfl⟩ := hy
      exact ⟨.list [PyData.int 1, .int (-1), .int 2, .int (-2), .int 9, .int 1000], _, .int y, rfl, rfl, hx, .int v, .int y, _, rfl, rfl, rfl, rg ht (.int _ _)⟩
end
end K1

set_option maxHeartbeats 1000000
namespace K1
open PySem PySem.Spec PyProof.Rows L2 PL
variable {K : PySem.W.Frag} {TL : List Addr}
abbrev RT (K : PySem.W.Frag) : TS := tRet (tIf (tB (tCB (rIsi K) (tCons (tVar 1) (tCons (tC (.ty "tuple")) tNil)))) (tCB (rTupleF K) (tCons (tVar 3) tNil)) (tVar 3))
abbrev CH (K : PySem.W.Frag) (TL : List Addr) (s : Sp) : TS := (tIfS (tTest (tOp (rLtD K) (tVar 4) (tC (.int 8)))) (tAsg (tCall s [] E0 (tCons (tVar 0) (tCons (tOp (rIx K) (tVar 3) (tVar 2)) tNil))) (gSub (tVar 3) (tVar 2) rSetL)) (tIfS (tTest (tOp (rEqD K) (tVar 4) (tC (.int 8)))) (tDrop (tBM K "list" rPopAt (tVar 3) (tCons (tVar 2) tNil))) (tIfS (tTest (tOp (rEqD K) (tVar 4) (tC (.int 9)))) (tDrop (tBM K "list" PL.rInsert (tVar 3) (tCons (tVar 2) (tCons (tOp (rIx K) (tVar 3) (tCall (spDr K TL) [] E0 (tCons (tVar 0) (tCons (tCB (PL.rLen K) (tCons (tVar 3) tNil)) tNil)))) tNil)))) (tIfS (tTest (tOp (rEqD K) (tVar 4) (tC (.int 10)))) (tAsg (tRevL K (tVar 3)) (gName 3)) (tDrop (tBM K "list" PL.rInsert (tVar 3) (tCons (tVar 2) (tCons (tCall (spAny K TL 3) [] E0 (tCons (tVar 0) (tCons (tC (.int 1)) tNil))) tNil))))))))
section
variable {F : Fm} {a : Addr} {m n : Nat} {d : PyData} {N B C : Sto → List Sl → Prop}
def Good (m n : Nat) (ys : List PyData) : Prop := ys.length ≤ m + 8 ∧ ∀ y ∈ ys, Gd (m + 8) (n + 3) y
theorem w_ret {q : Addr} {ys : List PyData} {T : Sto} {c : List PyData} {s2 s4 s5 : Sl} (hq : F.H q = none) (hg : PL.get T a = some c) (ht : TapeOk c) (gd : Good m n ys) : SX K TL F (RT K) ((q, ys) :: T) [.own a, .dat d, s2, .own q, s4, s5] N (RGood a m n) B C := by
  refine sx_release (i := 3) hq rfl (sx_ret (ex_if (tx_B (ex_isi ok_tuple (ex_var rfl rfl ⟨d, rfl, _, rfl, ?_⟩)))))
  cases isTy "tuple" d with
  | true => exact iteT (ex_tuple (ex_var rfl rfl ⟨ys, .inl rfl, _, _, rfl, hg, ht, .tup _ _ gd.1 gd.2⟩))
  | false => exact iteF (ex_var rfl rfl ⟨_, _, rfl, hg, ht, .lst _ _ gd.1 gd.2⟩)
theorem v_hd {p : Addr} {xs : List PyData} {T : Sto} : view ((p, xs) :: T) (.own p) = some (.list xs) := by
  show (PL.get ((p, xs) :: T) p).map PyData.list = _
  rw [get_cons_same]
  rfl
theorem w_ch {s : Sp} {p : Addr} {xs : List PyData} {c : List PyData} {k : Nat} {course : Int} {s5 : Sl} (hm : m ≤ 400) (hN : ∀ n', n = n' + 1 → ∃ N', n' ≤ N' ∧ s = spSp K TL N') (hc : course < 12) (hp : p ≠ a) (ht : TapeOk c) (hx : xs.length ≤ m ∧ ∀ x ∈ xs, ∃ n', n = n' + 1 ∧ Gd m n' x) (hk : k < xs.length)
    (hK : ∀ q ys T c', F.H q = none ∨ q = p → PL.get T a = some c' → TapeOk c' → Good m n ys → N ((q, ys) :: T) [.own a, .dat d, .dat (.int k), .own q, .dat (.int course), s5]) : SX K TL F (CH K TL s) [(p, xs), (a, c)] [.own a, .dat d, .dat (.int k), .own p, .dat (.int course), s5] N (RGood a m n) B C := by
  have hxk : xs[k]? = some xs[k] := List.getElem?_eq_getElem hk
  generalize xs[k] = y at hxk
  have hy := List.mem_of_getElem? hxk
  obtain ⟨n', hn', gy⟩ := hx.2 y hy
  have np : p ∉ dom [(a, c)] := by simpa [dom] using hp
  have up : ∀ x ∈ xs, Gd (m + 8) (n + 3) x := fun x h => by
    obtain ⟨n2, e2, g⟩ := hx.2 x h
    exact g.mono (by omega) (by omega)
  have gta : ∀ c, PL.get [(p, xs), (a, c)] a = some c := fun c => by rw [get_tl hp, get_one']
  have pta : ∀ c c', put [(p, xs), (a, c)] a c' = [(p, xs), (a, c')] := fun c c' => by rw [put_tl hp, put_one]
  have ptp : ∀ c ys, put [(p, xs), (a, c)] p ys = [(p, ys), (a, c)] := fun c ys => put_hd (by simpa [dom] using hp)
  refine sx_if (tx_test (ex_op (ex_var rfl rfl (ex_c rfl ⟨_, _, _, rfl, rfl, pLt_int _ _, _, rfl, ?_⟩))))
  by_cases h8 : course < 8
  · rw [decide_eq_true h8]
    obtain ⟨N', hN', es⟩ := hN n' hn'
    subst es
    refine iteT (sx_setL (ex_callTG (ax_cons (ex_var rfl rfl (ax_cons (ex_op (ex_var rfl rfl (ex_var rfl rfl ⟨.list xs, _, y, v_hd, rfl, PL.atI_nat hxk, ax_nil ⟨(m, n'), ⟨hm, hN'⟩, a, _, c, _, rfl, gta c, rfl, ⟨ht, y, rfl, gy⟩, ?_⟩⟩))))))))
    rintro r c' ⟨ht', gr⟩
    rw [pta]
    refine ⟨r, rfl, ex_var rfl rfl ⟨p, rfl, ex_var rfl rfl ⟨_, k, xs, rfl, get_cons_same _ _ _, ixN_nat hk, ?_⟩⟩⟩
    rw [ptp]
    refine hK p _ _ c' (.inr rfl) get_one' ht' ⟨?_, fun z hz => ?_⟩
    · rw [List.length_set]
      omega
    · rcases List.mem_or_eq_of_mem_set hz with hz | hz
      · exact up z hz
      · rw [hz]
        exact gr.mono (Nat.le_refl _) (by show n' + 4 ≤ n + 3; omega)
  · rw [decide_eq_false h8]
    refine iteF (sx_if (tx_test (ex_op (ex_var rfl rfl (ex_c rfl ⟨_, _, _, rfl, rfl, pEq_int _ _, _, rfl, ?_⟩)))))
    cases decide (course = 8) with
    | true =>
      refine iteT (sx_popAt (ex_var rfl rfl ⟨p, rfl, mem_dom_hd, ex_var rfl rfl ⟨k, xs, rfl, get_cons_same _ _ _, hk, by omega, ?_⟩⟩))
      rw [ptp]
      refine hK p _ _ c (.inr rfl) get_one' ht ⟨?_, fun z hz => up z (List.mem_of_mem_eraseIdx hz)⟩
      have := List.length_eraseIdx_le xs k
      omega
    | false =>
      refine iteF (sx_if (tx_test (ex_op (ex_var rfl rfl (ex_c rfl ⟨_, _, _, rfl, rfl, pEq_int _ _, _, rfl, ?_⟩)))))
      have ins : ∀ {z : PyData}, Gd (m + 8) (n + 3) z → Good m n (xs.take k ++ [z] ++ xs.drop k) := fun {z} gz => by
        refine ⟨?_, fun w hw => ?_⟩
        · rw [List.length_append, List.length_append, List.length_take, List.length_drop]
          show _ + 1 + _ ≤ _
          omega
        · rcases List.mem_append.mp hw with hw | hw
          · rcases List.mem_append.mp hw with hw | hw
            · exact up w (List.mem_of_mem_take hw)
            · rw [List.mem_singleton.mp hw]
              exact gz
          · exact up w (List.mem_of_mem_drop hw)
      cases decide (course = 9) with
      | true =>
        refine iteT (sx_insert (ex_var rfl rfl ⟨p, rfl, mem_dom_hd, ex_var rfl rfl (ex_op (ex_var rfl rfl (ex_dr (ax_cons (ex_var rfl rfl (ax_cons (ex_len (ex_var rfl rfl ⟨.list xs, _, v_hd, rfl, ax_nil ⟨a, c, _, rfl, gta c, ht, by omega, fun j c ht j0 j1 => ?_⟩⟩))))))))⟩))
        rw [pta]
        obtain ⟨x, hx1, hxm, _⟩ := atI_lt j0 j1
        refine ⟨.list xs, _, x, v_hd, rfl, hx1, k, x, xs, rfl, rfl, get_cons_same _ _ _, by omega, by omega, ?_⟩
        rw [ptp]
        exact hK p _ _ c (.inr rfl) get_one' ht (ins (up x hxm))
      | false =>
        refine iteF (sx_if (tx_test (ex_op (ex_var rfl rfl (ex_c rfl ⟨_, _, _, rfl, rfl, pEq_int _ _, _, rfl, ?_⟩)))))
        cases decide (course = 10) with
        | true =>
          refine iteT (sx_asgN2 (en_revL (ex_var rfl rfl ⟨xs, v_hd, fun q hq nq => ?_⟩)))
          exact hK q _ _ c (.inl hq) (gta c) ht ⟨by rw [List.length_reverse]; omega, fun z hz => up z (List.mem_reverse.mp hz)⟩
        | false =>
          refine iteF (sx_insert (ex_var rfl rfl ⟨p, rfl, mem_dom_hd, ex_var rfl rfl (ex_callT (ax_cons (ex_var rfl rfl (ax_cons (ex_c rfl (ax_nil ⟨a, _, c, _, rfl, gta c, rfl, ⟨ht, 1, rfl, by decide⟩, ?_⟩))))))⟩))
          rintro r c' ⟨ht', gr⟩
          rw [pta]
          refine ⟨k, r, xs, rfl, rfl, get_cons_same _ _ _, by omega, by omega, ?_⟩
          rw [ptp]
          exact hK p _ _ c' (.inr rfl) get_one' ht' (ins (gr.mono (by omega) (by omega)))
end
theorem p__law_spoilt (s : Sp) (N : Nat) (hs : ∀ N', N = N' + 1 → s = spSp K TL N') (vs : List V) (H : Hp) (Q : VK) (E : XK) (h : spSp K TL N vs H Q E) : t__law_spoilt K (spDr K TL) s (spAny K TL 3) (sWhole K TL) { nx := fun _ H' => Q .non H', rt := Q } (start N__law_spoilt vs) H := by
  have hlen := spSp_len N vs H Q E h
  obtain ⟨⟨m, n⟩, ⟨hm, hn⟩, h⟩ := h
  have hm : m ≤ 400 := hm
  have hn : n ≤ N := hn
  refine body_T 6 rfl h (by rw [hlen]; decide) fun F a c ds ⟨ht, d, e, gd⟩ _ => ?_
  subst e
  have gd : Gd m n d := gd
  have key : SX K TL F (t__law_spoilt K (spDr K TL) s (spAny K TL 3) (sWhole K TL)) [(a, c)] [.own a, .dat d, .no, .no, .no, .no] (fun S' _ => ∃ c', PL.get S' a = some c' ∧ TapeOk c' ∧ Gd (m + 8) (n + 4) .none) (RGood a m n) (fun _ _ => False) (fun _ _ => False) := by
    refine sx_seq (sx_if (tx_and (tx_B (ex_isi2 ok_tuple ok_list (ex_var rfl rfl ⟨d, rfl, _, rfl, ?_⟩)))))
    cases h1 : (isTy "tuple" d || isTy "list" d) with
    | false => exact iteF (iteF (sx_next (w_r2 hm ht gd)))
    | true =>
      obtain ⟨xs, hv, hl, n', en, gx⟩ : ∃ xs, ((.dat d : Sl) = .dat (.list xs) ∨ (.dat d : Sl) = .dat (.tuple xs)) ∧ xs.length ≤ m ∧ ∃ n', n = n' + 1 ∧ ∀ x ∈ xs, Gd m n' x := by
        cases gd with
        | lst n' xs q1 q2 => exact ⟨xs, .inl rfl, q1, n', rfl, q2⟩
        | tup n' xs q1 q2 => exact ⟨xs, .inr rfl, q1, n', rfl, q2⟩
        | _ => cases h1
      have el : lenD d = some xs.length := by
        rcases hv with e | e <;> (cases e; rfl)
      have hv2 : ∀ S : Sto, view S (.dat d) = some (.list xs) ∨ view S (.dat d) = some (.tuple xs) := fun S => by
        rcases hv with e | e
        · rw [e]; exact .inl rfl
        · rw [e]; exact .inr rfl
      refine iteT (tx_and (tx_test (ex_op (ex_len (ex_var rfl rfl ⟨d, _, rfl, el, ex_c rfl ⟨_, _, _, rfl, rfl, ⟨_, _, rfl, rfl, trivial, rfl⟩, _, rfl, ?_⟩⟩)))))
      by_cases h0 : 0 < xs.length
      · rw [decide_eq_true (by omega)]
        refine iteT (tx_test (ex_op (ex_dr (ax_cons (ex_var rfl rfl (ax_cons (ex_c rfl (ax_nil ⟨a, c, 7, rfl, get_one', ht, by decide, fun i c ht q0 q1 => ?_⟩))))))))
        rw [put_one]
        refine ex_c rfl ⟨_, _, _, rfl, rfl, ⟨_, _, rfl, rfl, trivial, rfl⟩, _, rfl, ?_⟩
        cases decide (0 < i) with
        | false => exact iteF (sx_next (w_r2 hm ht gd))
        | true =>
          refine iteT (sx_seq (sx_asg (ex_dr (ax_cons (ex_var rfl rfl (ax_cons (ex_len (ex_var rfl rfl ⟨d, _, rfl, el, ax_nil ⟨a, c, _, rfl, get_one', ht, by omega, fun k c ht k0 k1 => ?_⟩⟩))))))))
          rw [put_one]
          obtain ⟨k, rfl⟩ := Int.eq_ofNat_of_zero_le k0
          refine sx_seq (sx_asgN2 (en_list (ex_var rfl rfl ⟨xs, hv2 _, fun p hp np => ?_⟩)))
          have hpa : p ≠ a := by simpa [dom] using np
          refine sx_seq (sx_asg (ex_dr (ax_cons (ex_var rfl rfl (ax_cons (ex_c rfl (ax_nil ⟨a, c, 12, rfl, by rw [get_tl hpa, get_one'], ht, by decide, fun co c ht c0 c1 => ?_⟩)))))))
          rw [put_tl hpa, put_one]
          refine sx_seq (w_ch hm (fun n2 e2 => ?_) c1 hpa ht ⟨hl, fun x hx => ⟨n', en, gx x hx⟩⟩ (by omega) fun q ys T c' hq hg ht' good => w_ret (hq.elim id fun e => by rw [e]; exact hp) hg ht' good)
          obtain ⟨N', rfl⟩ : ∃ N', N = N' + 1 := ⟨N - 1, by omega⟩
          exact ⟨N', by omega, hs N' rfl⟩
      · rw [decide_eq_false (by omega)]
        exact iteF (iteF (sx_next (w_r2 hm ht gd)))
  exact key
end K1

set_option maxHeartbeats 1000000
namespace K1
open PySem PySem.Spec PyProof.Rows L2 PL
variable {K : PySem.W.Frag} {TL : List Addr}
/-! ### _law_like, of like ones -/
def spLk (K : PySem.W.Frag) (TL : List Addr) (n : Nat) : Sp := spD K TL (fun ds => ∃ d, ds = [d, d] ∧ Gd 500 n d) (fun ds r => r = .bool true)
theorem spLk_len (n : Nat) (vs : List V) (H : Hp) (Q : VK) (E : XK) (h : spLk K TL n vs H Q E) : vs.length = 2 := spD_len (fun ds ⟨_, e, _⟩ => by rw [e]; rfl) vs H Q E h
theorem p__law_like (s : Sp) (n : Nat) (hn : n ≤ 60) (hs : ∀ n', n = n' + 1 → s = spLk K TL n') (vs : List V) (H : Hp) (Q : VK) (E : XK) (h : spLk K TL n vs H Q E) : t__law_like K s { nx := fun _ H' => Q .non H', rt := Q } (start N__law_like vs) H :=
  body_D 3 rfl h (by rw [spLk_len n vs H Q E h]; decide) fun F ds ⟨d, e, gd⟩ _ => by
    subst e
    refine sx_seq (sx_if (tx_B (ex_isi2 ok_list ok_tuple (ex_var rfl rfl ⟨d, rfl, _, rfl, ?_⟩))))
    cases h1 : (isTy "list" d || isTy "tuple" d) with
    | false =>
      refine iteF (sx_next (sx_seq (sx_if (tx_B (ex_isi2 ok_list ok_tuple (ex_var rfl rfl ⟨d, rfl, _, rfl, ?_⟩))))))
      rw [h1]
      refine iteF (sx_next (sx_ret (ex_andV (ex_op (ex_isi ok_bool (ex_var rfl rfl ⟨d, rfl, ex_isi ok_bool (ex_var rfl rfl ⟨d, rfl, _, _, _, rfl, rfl, pEq_bool _ _, _, rfl, ?_⟩)⟩))))))
      rw [beq_self_eq_true]
      refine iteT (ex_op (ex_var rfl rfl (ex_var rfl rfl ⟨d, d, _, rfl, rfl, ⟨gd.shaped (by omega), gd.shaped (by omega), rfl⟩, _, rfl, ?_⟩)))
      rw [gd_refl gd]
    | true =>
      obtain ⟨xs, hv, hl, n', en, gx⟩ : ∃ xs, (d = .list xs ∨ d = .tuple xs) ∧ xs.length ≤ 500 ∧ ∃ n', n = n' + 1 ∧ ∀ x ∈ xs, Gd 500 n' x := by
        cases gd with
        | lst n' xs q1 q2 => exact ⟨xs, .inl rfl, q1, n', rfl, q2⟩
        | tup n' xs q1 q2 => exact ⟨xs, .inr rfl, q1, n', rfl, q2⟩
        | _ => cases h1
      have es := hs n' en
      subst es
      have el : lenD d = some xs.length := by
        rcases hv with rfl | rfl <;> rfl
      have ix : ∀ {i : Nat} {x : PyData}, xs[i]? = some x → pIx d (.int (i : Nat)) x := fun {i x} hx => by
        rcases hv with rfl | rfl <;> exact PL.atI_nat hx
      refine iteT (sx_seq (sx_if (tx_or (tx_test (ex_op (ex_isi ok_list (ex_var rfl rfl ⟨d, rfl, ex_isi ok_list (ex_var rfl rfl ⟨d, rfl, _, _, _, rfl, rfl, pNe_bool _ _, _, rfl, ?_⟩)⟩)))))))
      rw [beq_self_eq_true]
      refine iteF (tx_test (ex_op (ex_isi ok_tuple (ex_var rfl rfl ⟨d, rfl, ex_isi ok_tuple (ex_var rfl rfl ⟨d, rfl, _, _, _, rfl, rfl, pNe_bool _ _, _, rfl, ?_⟩)⟩))))
      rw [beq_self_eq_true]
      refine iteF (sx_next (sx_seq (sx_if (tx_test (ex_op (ex_len (ex_var rfl rfl ⟨d, _, rfl, el, ex_len (ex_var rfl rfl ⟨d, _, rfl, el, _, _, _, rfl, rfl, pNe_int _ _, _, rfl, ?_⟩)⟩)))))))
      rw [decide_eq_true rfl]
      refine iteF (sx_next (sx_ret (ex_op (ex_new (en_lcP [2] (fun _ => false) dI (ix_rng1 (ax_cons (ex_len (ex_var rfl rfl ⟨d, _, rfl, el, ax_nil ⟨_, rfl, by omega, ?_, ?_, ?_⟩⟩)))))))))
      · rw [List.length_map, rgD_len]
        omega
      · intro F it hit
        obtain ⟨e, he, rfl⟩ := List.mem_map.mp hit
        obtain ⟨j, hj⟩ := List.getElem?_of_mem he
        obtain ⟨rfl, hj2⟩ := rgD_some hj
        rw [Int.zero_add]
        have hj3 : j < xs.length := by omega
        have hx : xs[j]? = some xs[j] := List.getElem?_eq_getElem hj3
        generalize xs[j] = x at hx
        refine gx_name (by decide) (tx_not (tx_B (ex_call (ax_cons (ex_op (ex_var rfl rfl (ex_var rfl rfl ⟨d, _, x, rfl, rfl, ix hx, ax_cons (ex_op (ex_var rfl rfl (ex_var rfl rfl ⟨d, _, x, rfl, rfl, ix hx, ax_nil ⟨_, rfl, ⟨x, rfl, gx x (List.mem_of_getElem? hx)⟩, ?_⟩⟩)))⟩)))))))
        rintro r rfl
        exact ⟨_, rfl, rfl, rfl, fun z => by cases z⟩
      · rw [List.filter_eq_nil_iff.mpr (fun _ _ => Bool.false_ne_true)]
        exact ex_new (en_lst (ax_nil ⟨[], rfl, by decide, _, _, _, rfl, rfl, ⟨shaped_nil, shaped_nil, rfl⟩, _, rfl, by rw [List.map_nil, eqv_nil]; rfl⟩))
/-! ### _law_standing -/
structure StOk (j : Nat) (nss : List (List Int)) : Prop where
  len : nss.length ≤ j
  each : ∀ ns ∈ nss, ns ≠ [] ∧ Rises ns ∧ ns.length ≤ j ∧ ∀ x ∈ ns, x ≤ j
  all : ∀ i : Int, i ∈ nss.flatten ↔ 1 ≤ i ∧ i ≤ j
  nd : nss.flatten.Nodup
theorem st_nil : StOk 0 [] := ⟨by simp, fun ns h => (by cases h), fun i => ⟨fun h => (by cases h), fun h => (by omega)⟩, List.nodup_nil⟩
theorem st_app {j : Nat} {nss : List (List Int)} (h : StOk j nss) : StOk (j + 1) (nss ++ [[((j + 1 : Nat) : Int)]]) := by
  refine ⟨?_, fun ns hn => ?_, fun i => ?_, ?_⟩
  · rw [List.length_append]
    have := h.len
    show _ + 1 ≤ _
    omega
  · rcases List.mem_append.mp hn with hn | hn
    · obtain ⟨a, b, c, d⟩ := h.each ns hn
      exact ⟨a, b, by omega, fun x hx => by have := d x hx; omega⟩
    · rw [List.mem_singleton.mp hn]
      refine ⟨by simp, ?_, ?_, ?_⟩
      · exact List.pairwise_singleton _ _
      · show 1 ≤ j + 1
        omega
      · intro x hx
        rw [List.mem_singleton.mp hx]
        omega
  · rw [List.flatten_append, List.mem_append, h.all]
    simp only [List.flatten_cons, List.flatten_nil, List.append_nil, List.mem_singleton]
    omega
  · rw [List.flatten_append]
    simp only [List.flatten_cons, List.flatten_nil, List.append_nil]
    refine List.nodup_append.mpr ⟨h.nd, List.nodup_cons.mpr ⟨List.not_mem_nil, List.nodup_nil⟩, fun a ha b hb => ?_⟩
    rw [List.mem_singleton.mp hb]
    have := (h.all a).mp ha
    omega
theorem st_set {j k : Nat} {nss : List (List Int)} {ns : List Int} (h : StOk j nss) (hk : nss[k]? = some ns) : StOk (j + 1) (nss.set k (ns ++ [((j + 1 : Nat) : Int)])) := by
  have hkl : k < nss.length := (List.getElem?_eq_some_iff.mp hk).1
  obtain ⟨a, b, c, d⟩ := h.each ns (List.mem_of_getElem? hk)
  have mem_set : ∀ i : Int, i ∈ (nss.set k (ns ++ [((j + 1 : Nat) : Int)])).flatten ↔ i ∈ nss.flatten ∨ i = ((j + 1 : Nat) : Int) := fun i => by
    have e1 : nss = nss.take k ++ ns :: nss.drop (k + 1) := by
      rw [← drop_cons hk, List.take_append_drop]
    have e2 : nss.set k (ns ++ [((j + 1 : Nat) : Int)]) = nss.take k ++ (ns ++ [((j + 1 : Nat) : Int)]) :: nss.drop (k + 1) := List.set_eq_take_append_cons_drop.trans (if_pos hkl)
    rw [e2]
    conv => rhs; rw [e1]
    simp only [List.flatten_append, List.flatten_cons, List.mem_append, List.mem_singleton]
    constructor
    · rintro (q | (q | q) | q)
      · exact .inl (.inl q)
      · exact .inl (.inr (.inl q))
      · exact .inr q
      · exact .inl (.inr (.inr q))
    · rintro ((q | q | q) | q)
      · exact .inl q
      · exact .inr (.inl (.inl q))
      · exact .inr (.inr q)
      · exact .inr (.inl (.inr q))
  have pm : (nss.set k (ns ++ [((j + 1 : Nat) : Int)])).flatten.Perm (((j + 1 : Nat) : Int) :: nss.flatten) := by
    have e1 : nss.flatten = (nss.take k).flatten ++ ns ++ (nss.drop (k + 1)).flatten := by
      conv => lhs; rw [← List.take_append_drop k nss, drop_cons hk]
      rw [List.flatten_append, List.flatten_cons, List.append_assoc]
    have e2 : nss.set k (ns ++ [((j + 1 : Nat) : Int)]) = nss.take k ++ (ns ++ [((j + 1 : Nat) : Int)]) :: nss.drop (k + 1) := List.set_eq_take_append_cons_drop.trans (if_pos hkl)
    rw [e1, e2, List.flatten_append, List.flatten_cons]
    have e3 : (nss.take k).flatten ++ (ns ++ [((j + 1 : Nat) : Int)] ++ (nss.drop (k + 1)).flatten) = ((nss.take k).flatten ++ ns) ++ ((j + 1 : Nat) : Int) :: (nss.drop (k + 1)).flatten := by simp
    rw [e3]
    exact List.perm_middle
  refine ⟨?_, fun ms hm => ?_, fun i => ?_, ?_⟩
  · rw [List.length_set]
    have := h.len
    omega
  · rcases List.mem_or_eq_of_mem_set hm with hm | hm
    · obtain ⟨a, b, c, d⟩ := h.each ms hm
      exact ⟨a, b, by omega, fun x hx => by have := d x hx; omega⟩
    · rw [hm]
      refine ⟨by simp, ?_, ?_, fun x hx => ?_⟩
      · refine List.pairwise_append.mpr ⟨b, List.pairwise_singleton _ _, fun x hx y hy => ?_⟩
        rw [List.mem_singleton.mp hy]
        have := d x hx
        omega
      · rw [List.length_append]
        show _ + 1 ≤ _
        omega
      · rcases List.mem_append.mp hx with hx | hx
        · have := d x hx
          omega
        · rw [List.mem_singleton.mp hx]
          omega
  · rw [mem_set, h.all]
    omega
  · rw [pm.nodup_iff]
    refine List.nodup_cons.mpr ⟨fun z => ?_, h.nd⟩
    have := (h.all _).mp z
    omega
theorem StOk.perm {j : Nat} {a b : List (List Int)} (h : StOk j a) (p : b.Perm a) : StOk j b :=
  ⟨by rw [p.length_eq]; exact h.len, fun ns hn => h.each ns (p.mem_iff.mp hn), fun i => by rw [p.flatten.mem_iff]; exact h.all i, p.flatten.nodup_iff.mpr h.nd⟩
theorem sort_st {j : Nat} {nss : List (List Int)} (h : StOk j nss) : ∃ nss', sortD (nss.map tupI) = nss'.map tupI ∧ StOk j nss' := by
  have hp := sort_perm (nss.map tupI)
  have e : ((sortD (nss.map tupI)).map unTI).map tupI = sortD (nss.map tupI) := by
    rw [List.map_map]
    refine (List.map_congr_left (g := id) fun d hd => ?_).trans (List.map_id _)
    obtain ⟨ns, _, rfl⟩ := List.mem_map.mp (hp.mem_iff.mp hd)
    show tupI (unTI (tupI ns)) = tupI ns
    rw [unTI_tupI]
  have e2 : (nss.map tupI).map unTI = nss := by
    rw [List.map_map]
    exact (List.map_congr_left (g := id) fun ns _ => unTI_tupI ns).trans (List.map_id _)
  refine ⟨(sortD (nss.map tupI)).map unTI, e.symm, h.perm ?_⟩
  have := hp.map unTI
  rw [e2] at this
  exact this
def spStd (K : PySem.W.Frag) (TL : List Addr) : Sp := spT K TL (fun c ds => TapeOk c ∧ ∃ k : Nat, ds = [.int k] ∧ 1 ≤ k ∧ k ≤ 6) (fun c ds r c' => TapeOk c' ∧ ∃ (k : Nat) (nss : List (List Int)), ds = [.int k] ∧ r = tupS nss ∧ StOk k nss)
theorem spStd_len (vs : List V) (H : Hp) (Q : VK) (E : XK) (h : spStd K TL vs H Q E) : vs.length = 2 := spT_len (n := 1) (fun c ds ⟨_, _, e, _⟩ => by rw [e]; rfl) vs H Q E h
theorem tup_app (ns : List Int) (i : Int) : PyData.tuple (ns.map .int ++ [PyData.int i]) = tupI (ns ++ [i]) := by
  unfold tupI
  rw [List.map_append]
  rfl
theorem p__law_standing (vs : List V) (H : Hp) (Q : VK) (E : XK) (h : spStd K TL vs H Q E) : t__law_standing K (spDr K TL) { nx := fun _ H' => Q .non H', rt := Q } (start N__law_standing vs) H :=
  body_T 5 rfl h (by rw [spStd_len vs H Q E h]; decide) fun F a c ds ⟨ht, k, e, k1, k6⟩ _ => by
    subst e
    refine sx_seq (sx_asgN2 (en_lst (ax_nil ⟨[], rfl, by decide, fun p hp np => ?_⟩)))
    have hpa : p ≠ a := by simpa [dom] using np
    refine sx_seq (sx_for [3] (ix_rng2 (ax_cons (ex_c rfl (ax_cons (ex_op (ex_var rfl rfl (ex_c rfl ⟨_, _, _, rfl, rfl, rfl, ax_nil ⟨1, (k : Int) + 1, rfl, ⟨by omega, by omega, by omega, by omega⟩, fun j S' E' => (∃ s3 s4, E' = [.own a, .dat (.int k), .own p, s3, s4]) ∧ ∃ c nss, S' = [(p, nss.map tupI), (a, c)] ∧ TapeOk c ∧ StOk j nss, ⟨⟨.no, .no, rfl⟩, c, [], rfl, ht, st_nil⟩, ?_, ?_⟩⟩))))))))
    · rintro F j it S' E' hit ⟨⟨s3, s4, rfl⟩, c, nss, rfl, ht, st⟩
      obtain ⟨d, hd, rfl⟩ := one_get hit
      obtain ⟨rfl, hj⟩ := rgD_some hd
      have hl := st.len
      rw [show (1 : Int) + (j : Nat) = ((j + 1 : Nat) : Int) by omega]
      have el : lenD (.list (nss.map tupI)) = some nss.length := by
        show some (nss.map tupI).length = _
        rw [List.length_map]
      refine gx_name (by decide) (sx_seq (sx_asg (ex_dr (ax_cons (ex_var rfl rfl (ax_cons (ex_op (ex_len (ex_var rfl rfl ⟨_, _, v_hd, el, ex_c rfl ⟨_, _, _, rfl, rfl, rfl, ax_nil ⟨a, c, _, rfl, by rw [get_tl hpa, get_one'], ht, by omega, fun i c ht i0 i1 => ?_⟩⟩⟩)))))))))
      rw [put_tl hpa, put_one]
      refine sx_if (tx_test (ex_op (ex_var rfl rfl (ex_len (ex_var rfl rfl ⟨_, _, v_hd, el, _, _, _, rfl, rfl, pLt_int _ _, _, rfl, ?_⟩)))))
      obtain ⟨i, rfl⟩ := Int.eq_ofNat_of_zero_le i0
      have npd : p ∉ dom [(a, c)] := by simpa [dom] using hpa
      by_cases hi : i < nss.length
      · rw [decide_eq_true (by omega)]
        have hx : nss[i]? = some nss[i] := List.getElem?_eq_getElem hi
        generalize nss[i] = ns at hx
        have hnl := (st.each ns (List.mem_of_getElem? hx)).2.2.1
        have a1 : atI (nss.map tupI) ((i : Nat) : Int) = some (tupI ns) := PL.atI_nat (by rw [List.getElem?_map, hx]; rfl)
        have q1 : (ns.map PyData.int).length + 1 ≤ 1000000 := by
          rw [List.length_map]
          omega
        refine iteT (sx_setL (ex_op (ex_op (ex_var rfl rfl (ex_var rfl rfl ⟨_, _, _, v_hd, rfl, a1, ex_tup (ax_cons (ex_var rfl rfl (ax_nil ⟨_, rfl, by show 1 ≤ 1000000; decide, _, _, _, rfl, rfl, ⟨q1, rfl⟩, _, rfl, ex_var rfl rfl ⟨p, rfl, ex_var rfl rfl ⟨_, i, _, rfl, get_cons_same _ _ _, ixN_nat (by rw [List.length_map]; exact hi), ?_⟩⟩⟩)))⟩)))))
        rw [put_hd npd]
        refine ⟨⟨_, _, rfl⟩, c, nss.set i (ns ++ [((j + 1 : Nat) : Int)]), ?_, ht, st_set st hx⟩
        show [(p, (nss.map tupI).set i (PyData.tuple (ns.map .int ++ [PyData.int ((j + 1 : Nat) : Int)]))), (a, c)] = _
        rw [tup_app, List.map_set]
      · rw [decide_eq_false (by omega)]
        refine iteF (sx_append (ex_var rfl rfl ⟨p, rfl, mem_dom_hd, ex_tup (ax_cons (ex_var rfl rfl (ax_nil ⟨_, rfl, by show 1 ≤ 1000000; decide, _, _, rfl, get_cons_same _ _ _, by rw [List.length_map]; omega, ?_⟩)))⟩))
        rw [put_hd npd]
        refine ⟨⟨_, _, rfl⟩, c, nss ++ [[((j + 1 : Nat) : Int)]], ?_, ht, st_app st⟩
        rw [List.map_append]
        rfl
    · rintro S' E' ⟨⟨s3, s4, rfl⟩, c, nss, rfl, ht, st⟩
      rw [List.length_map, rgD_len, show ((k : Int) + 1 - 1).toNat = k by omega] at st
      have hne : ∀ ns ∈ nss, ns ≠ [] := fun ns hn => (st.each ns hn).1
      have aj := adj_intTs (tupI_intTs hne)
      obtain ⟨nss', es, st'⟩ := sort_st st
      refine sx_ret (ex_tuple (ex_new (en_sorted (ex_var rfl rfl ⟨_, v_hd, aj.1, sortable_tupI hne, fun d hd => (aj.2 d hd).2, _, .inl rfl, _, c, rfl, by rw [get_tl hpa, get_one'], ht, k, nss', rfl, ?_, st'⟩))))
      rw [es]
      rfl
end K1

set_option maxHeartbeats 1000000
namespace K1
open PySem PySem.Spec PyProof.Rows L2 PL
variable {K : PySem.W.Frag} {TL : List Addr}
def spLaw (K : PySem.W.Frag) (TL : List Addr) : Sp := spD K TL (fun ds => ∃ ns : List Int, ds = [.list (ns.map .int)]) (fun ds r => r = .bool true)
theorem spLaw_len (vs : List V) (H : Hp) (Q : VK) (E : XK) (h : spLaw K TL vs H Q E) : vs.length = 1 := spD_len (fun ds ⟨_, e⟩ => by rw [e]; rfl) vs H Q E h
theorem low_len : ∀ {nss : List (List Int)} {i : Int}, (∀ ns ∈ nss, ns.length ≤ 6) → (lowOf nss i).length ≤ 6
  | [], _, _ => by simp [lowOf]
  | ns :: r, i, h => by
    unfold lowOf
    split
    · exact Nat.le_trans (List.length_filter_le _ _) (h ns List.mem_cons_self)
    · exact low_len fun ms hm => h ms (List.mem_cons_of_mem _ hm)
def one1 : Itm → PyData := fun it => .tuple [dI it]
theorem gd7 : Gd 60 12 (.tuple ((((rgD 1 8).map Itm.one).filter fun _ => true).map one1)) := by
  rw [List.filter_eq_self.mpr (fun _ _ => rfl), List.map_map]
  refine .tup _ _ ?_ fun d hd => ?_
  · rw [List.length_map, rgD_len]
    decide
  · obtain ⟨x, hx, rfl⟩ := List.mem_map.mp hd
    obtain ⟨j, hj⟩ := List.getElem?_of_mem hx
    obtain ⟨rfl, _⟩ := rgD_some hj
    exact gd_intsT 10 [_] (by show 1 ≤ 60; decide)
theorem bell_at {k : Nat} (h1 : 1 ≤ k) (h6 : k ≤ 6) : atI [PyData.int 1, .int 2, .int 5, .int 15, .int 52, .int 203] ((k : Int) - 1) = some (.int ((allS k).length : Nat)) := by
  have hk : k = 1 ∨ k = 2 ∨ k = 3 ∨ k = 4 ∨ k = 5 ∨ k = 6 := by omega
  rcases hk with rfl | rfl | rfl | rfl | rfl | rfl
  · rw [show (allS 1).length = 1 by decide +kernel]; rfl
  · rw [show (allS 2).length = 2 by decide +kernel]; rfl
  · rw [show (allS 3).length = 5 by decide +kernel]; rfl
  · rw [show (allS 4).length = 15 by decide +kernel]; rfl
  · rw [show (allS 5).length = 52 by decide +kernel]; rfl
  · rw [show (allS 6).length = 203 by decide +kernel]; rfl
theorem gd_all {k : Nat} (h6 : k ≤ 6) : Gd 500 3 (.list (sortD ((allS k).map tupS))) := by
  refine .lst _ _ ?_ fun d hd => ?_
  · rw [sort_len, List.length_map]
    have := allS_len h6
    omega
  · obtain ⟨nss, hn, rfl⟩ := List.mem_map.mp ((sort_perm _).mem_iff.mp hd)
    have ok := allS_ok h6 hn
    exact (gd_tupS (n := 0) ok.few fun ns hns => (ok.each ns hns).1).mono (by decide) (by decide)
def Things (L : List PyData) : Prop := L.length ≤ 60 ∧ ∀ d ∈ L, Gd 60 12 d
theorem Things.app {L : List PyData} {d : PyData} (h : ∀ d ∈ L, Gd 60 12 d) (hd : Gd 60 12 d) : ∀ x ∈ L ++ [d], Gd 60 12 x := fun x hx => by
  rcases List.mem_append.mp hx with hx | hx
  · exact h x hx
  · rw [List.mem_singleton.mp hx]
    exact hd
theorem p_law (vs : List V) (H : Hp) (Q : VK) (E : XK) (h : spLaw K TL vs H Q E) : t_law K (spDr K TL) (spStd K TL) (spAny K TL 3) (spSp K TL 6) (spLk K TL 3) (sLStd K TL) (sStd K TL) (spW K TL) (spW K TL) (spSt K TL) (spSt K TL) { nx := fun _ H' => Q .non H', rt := Q } (start N_law vs) H :=
  body_D 10 rfl h (by rw [spLaw_len vs H Q E h]; decide) fun F ds ⟨ns, e⟩ _ => by
    subst e
    generalize hscr : PyData.list (ns.map .int) = scr
    refine sx_seq (sx_asgN2 (en_lst (ax_cons (ex_new (en_list (ex_var rfl rfl ⟨ns.map .int, .inl (by rw [← hscr]; rfl), ax_cons (ex_c rfl (ax_cons (ex_c rfl (ax_nil ⟨_, rfl, by show 3 ≤ 1000000; decide, fun t ht0 _ => ?_⟩))))⟩))))))
    refine sx_seq (sx_for [2] (ix_rng1 (ax_cons (ex_c rfl (ax_nil ⟨4, rfl, by decide, fun j S' E' => (∃ c, S' = [(t, c)] ∧ TapeOk c) ∧ ∃ s2 s3 s4 s5 s6 s7 s8, E' = [.dat scr, .own t, s2, s3, s4, s5, s6, s7, s8, .no], ⟨⟨_, rfl, ns, 0, 0, rfl⟩, _, _, _, _, _, _, _, rfl⟩, ?_, ?_⟩)))))
    · rintro F j it S' E' hit ⟨⟨c, rfl, ht⟩, s2, s3, s4, s5, s6, s7, s8, rfl⟩
      obtain ⟨d, hd, rfl⟩ := one_get hit
      refine gx_name (by decide) (sx_seq (sx_asg (ex_op (ex_c rfl (ex_dr (ax_cons (ex_var rfl rfl (ax_cons (ex_c rfl (ax_nil ⟨t, c, 6, rfl, get_one', ht, by decide, fun i c ht i0 i1 => ?_⟩))))))))))
      rw [put_one]
      obtain ⟨i, rfl⟩ := Int.eq_ofNat_of_zero_le i0
      refine ⟨_, _, _, rfl, rfl, rfl, ?_⟩
      rw [show (1 : Int) + (i : Nat) = ((i + 1 : Nat) : Int) by omega]
      generalize hk : i + 1 = k
      have k1 : 1 ≤ k := by omega
      have k6 : k ≤ 6 := by omega
      refine sx_seq (sx_asg (ex_callT (ax_cons (ex_var rfl rfl (ax_cons (ex_var rfl rfl (ax_nil ⟨t, _, c, _, rfl, get_one', rfl, ⟨ht, k, rfl, k1, k6⟩, ?_⟩)))))))
      rintro r c ⟨ht, k', nss, ek, rfl, st⟩
      injection ek with ek _
      injection ek with ek
      have ek : k = k' := by omega
      subst ek
      rw [put_one]
      have few : nss.length ≤ 6 := Nat.le_trans st.len k6
      have each6 : ∀ ns ∈ nss, ns.length ≤ 6 := fun ns hn => Nat.le_trans (st.each ns hn).2.2.1 k6
      have gS : Gd 6 2 (tupS nss) := gd_tupS (n := 0) few each6
      have gI : ∀ d ∈ nss.map tupI, Gd 60 11 d := fun d hd => by
        obtain ⟨ns, hn, rfl⟩ := List.mem_map.mp hd
        exact (gd_intsT 0 ns (each6 ns hn)).mono (by decide) (by decide)
      have lI : (nss.map tupI).length ≤ 6 := by rw [List.length_map]; exact few
      -- the seven things
      refine sx_seq (sx_asgN2 (en_lst (ax_cons (ex_var rfl rfl (ax_cons (ex_new (en_list (ex_var rfl rfl ⟨nss.map tupI, .inr rfl, ax_cons (ex_revT (ex_var rfl rfl ⟨nss.map tupI, rfl, ax_cons (ex_sl (ex_var rfl rfl (ox_some (ex_c rfl ⟨1, rfl, ox_none ⟨tupS nss, _, rfl, rfl, ?_⟩⟩)))) ⟩))⟩))))))) )
      rw [show cutD (nss.map tupI) (some (1 : Int)) none = (nss.map tupI).drop 1 from cut_lo _ 1]
      refine ax_cons (ex_tup (ax_nil ⟨[], rfl, by decide, ax_cons (ex_tup (ax_cons (ex_tup (ax_nil ⟨[], rfl, by decide, ax_nil ⟨_, rfl, by show 1 ≤ 1000000; decide, ax_cons (ex_tup (ax_cons (ex_tup (ax_cons (ex_c rfl (ax_nil ⟨_, rfl, by show 1 ≤ 1000000; decide, ax_nil ⟨_, rfl, by show 1 ≤ 1000000; decide, ax_nil ⟨_, rfl, by show 7 ≤ 1000000; decide, fun p hp np => ?_⟩⟩⟩))))))⟩⟩))))⟩))
      have hpt : p ≠ t := by simpa [dom] using np
      have g7 : ∀ d ∈ [tupS nss, .list (nss.map tupI), .tuple (nss.map tupI).reverse, .tuple ((nss.map tupI).drop 1), .tuple [], .tuple [.tuple []], .tuple [.tuple [.int 7]]], Gd 60 12 d := by
        intro d hd
        simp only [List.mem_cons, List.not_mem_nil, or_false] at hd
        rcases hd with rfl | rfl | rfl | rfl | rfl | rfl | rfl
        · exact gS.mono (by decide) (by decide)
        · exact .lst _ _ (by omega) gI
        · exact .tup _ _ (by rw [List.length_reverse]; omega) fun d hd => gI d (List.mem_reverse.mp hd)
        · exact .tup _ _ (by rw [List.length_drop]; omega) fun d hd => gI d (List.mem_of_mem_drop hd)
        · exact .tup _ _ (by decide) fun d hd => by cases hd
        · exact .tup _ _ (by decide) fun d hd => by
            rw [List.mem_singleton.mp hd]
            exact .tup 10 _ (by decide) fun d hd => by cases hd
        · exact (gd_tupS (m := 1) (n := 0) (nss := [[7]]) (by decide) (by decide)).mono (by decide) (by decide)
      -- standing + ((many + 1,),)
      have q1 : (nss.map tupI).length + 1 ≤ 1000000 := by omega
      refine sx_seq (sx_append (ex_var rfl rfl ⟨p, rfl, mem_dom_hd, ex_op (ex_var rfl rfl (ex_tup (ax_cons (ex_tup (ax_cons (ex_op (ex_var rfl rfl (ex_c rfl ⟨_, _, _, rfl, rfl, rfl, ax_nil ⟨_, rfl, by show 1 ≤ 1000000; decide, ax_nil ⟨_, rfl, by show 1 ≤ 1000000; decide, _, _, _, rfl, rfl, ⟨q1, rfl⟩, _, _, rfl, get_cons_same _ _ _, by show 7 < 1000000; decide, ?_⟩⟩⟩))))))))⟩))
      rw [put_hd np]
      refine sx_release (i := 5) hp rfl ?_
      have g8 : Gd 60 12 (.tuple (nss.map tupI ++ [.tuple [.int ((k : Int) + 1)]])) := .tup _ _ (by rw [List.length_append]; show _ + 1 ≤ 60; omega) fun d hd => by
        rcases List.mem_append.mp hd with hd | hd
        · exact gI d hd
        · rw [List.mem_singleton.mp hd]
          exact gd_intsT 10 [_] (by show 1 ≤ 60; decide)
      have l8 := Things.app g7 g8
      generalize hL : [tupS nss, .list (nss.map tupI), .tuple (nss.map tupI).reverse, .tuple ((nss.map tupI).drop 1), .tuple [], .tuple [.tuple []], .tuple [.tuple [.int 7]]] ++ [PyData.tuple (nss.map tupI ++ [.tuple [.int ((k : Int) + 1)]])] = L at l8
      have hL8 : L.length = 8 := by rw [← hL]; rfl
      show SX K TL F _ [(t, c)] [.dat scr, .own t, .dat d, .dat (.int k), .dat (tupS nss), .dat (.list L), s6, s7, s8, .no] _ _ _ _
      refine sx_seq (sx_asgN2 (en_catL (ex_var rfl rfl (ex_new (en_lst (ax_cons (ex_tup (ax_cons (ex_tup (ax_cons (ex_c rfl (ax_nil ⟨_, rfl, by show 1 ≤ 1000000; decide, ax_nil ⟨_, rfl, by show 1 ≤ 1000000; decide, ?_⟩⟩))))))))))))
      refine ax_cons (ex_tup (ax_cons (ex_tup (ax_cons (ex_c rfl (ax_cons (ex_c rfl (ax_nil ⟨_, rfl, by show 2 ≤ 1000000; decide, ax_nil ⟨_, rfl, by show 1 ≤ 1000000; decide, ?_⟩⟩))))))))
      refine ax_cons (ex_tup (ax_cons (ex_tup (ax_cons (ex_c rfl (ax_cons (ex_c rfl (ax_nil ⟨_, rfl, by show 2 ≤ 1000000; decide, ax_nil ⟨_, rfl, by show 1 ≤ 1000000; decide, ?_⟩⟩))))))))
      refine ax_cons (ex_callT (ax_cons (ex_var rfl rfl (ax_cons (ex_c rfl (ax_nil ⟨t, _, c, _, rfl, get_one', rfl, ⟨ht, 3, rfl, by decide⟩, ?_⟩))))))
      rintro an c ⟨ht, gan⟩
      rw [put_one]
      refine ax_nil ⟨_, rfl, by show 4 ≤ 1000000; decide, L, _, rfl, rfl, by rw [hL8]; show 8 + 4 ≤ 1000000; decide, fun p hp np => ?_⟩
      have hpt : p ≠ t := by simpa [dom] using np
      have g12 : ∀ x ∈ L ++ [PyData.tuple [.tuple [.bool true]], .tuple [.tuple [.int 1, .int 1]], .tuple [.tuple [.int 2, .int 1]], an], Gd 60 12 x := fun x hx => by
        rcases List.mem_append.mp hx with hx | hx
        · exact l8 x hx
        · simp only [List.mem_cons, List.not_mem_nil, or_false] at hx
          rcases hx with rfl | rfl | rfl | rfl
          · exact .tup _ _ (by decide) fun d hd => by
              rw [List.mem_singleton.mp hd]
              exact .tup 10 _ (by decide) fun d hd => by
                rw [List.mem_singleton.mp hd]
                exact .bl _ _
          · exact (gd_tupS (m := 2) (n := 0) (nss := [[1, 1]]) (by decide) (by decide)).mono (by decide) (by decide)
          · exact (gd_tupS (m := 2) (n := 0) (nss := [[2, 1]]) (by decide) (by decide)).mono (by decide) (by decide)
          · exact gan.mono (by decide) (by decide)
      have l12 : (L ++ [PyData.tuple [.tuple [.bool true]], .tuple [.tuple [.int 1, .int 1]], .tuple [.tuple [.int 2, .int 1]], an]).length = 12 := by
        rw [List.length_append, hL8]
        rfl
      clear hL
      generalize hL2 : L ++ [PyData.tuple [.tuple [.bool true]], .tuple [.tuple [.int 1, .int 1]], .tuple [.tuple [.int 2, .int 1]], an] = L2 at g12 l12
      show SX K TL F _ [(p, L2), (t, c)] [.dat scr, .own t, .dat d, .dat (.int k), .dat (tupS nss), .own p, s6, s7, s8, .no] _ _ _ _
      clear hL2
      -- seven dolls
      refine sx_seq (sx_append (ex_var rfl rfl ⟨p, rfl, mem_dom_hd, ex_tuple (ex_new (en_lcP [8] (fun _ => true) one1 (ix_rng2 (ax_cons (ex_c rfl (ax_cons (ex_c rfl (ax_nil ⟨1, 8, rfl, by decide, ?_, ?_, ?_⟩))))))))⟩))
      · rw [List.length_map, rgD_len]
        decide
      · intro F it hit
        obtain ⟨x, hx, rfl⟩ := List.mem_map.mp hit
        exact gx_name (by decide) (tx_yes ⟨rfl, rfl, fun _ => ex_tup (ax_cons (ex_var rfl rfl (ax_nil ⟨_, rfl, by show 1 ≤ 1000000; decide, rfl, rfl⟩)))⟩)
      refine ⟨_, .inl rfl, _, L2, rfl, get_cons_same _ _ _, by omega, ?_⟩
      rw [put_hd (by simpa [dom] using hpt)]
      have g13 := Things.app g12 gd7
      have l13 : (L2 ++ [PyData.tuple ((((rgD 1 8).map Itm.one).filter fun _ => true).map one1)]).length = 13 := by
        rw [List.length_append, l12]
        rfl
      generalize L2 ++ [PyData.tuple ((((rgD 1 8).map Itm.one).filter fun _ => true).map one1)] = L3 at g13 l13
      -- spoilt ones
      refine sx_seq (sx_for [6] (ix_rng1 (ax_cons (ex_c rfl (ax_nil ⟨10, rfl, by decide, fun b S' E' => (∃ c M, S' = [(p, M), (t, c)] ∧ TapeOk c ∧ M.length ≤ 13 + 2 * b ∧ ∀ x ∈ M, Gd 60 12 x) ∧ ∃ s6, E' = [.dat scr, .own t, .dat d, .dat (.int k), .dat (tupS nss), .own p, s6, s7, s8, .no], ⟨⟨c, L3, rfl, ht, by omega, g13⟩, _, rfl⟩, ?_, ?_⟩)))))
      · rintro F b it S' E' hit ⟨⟨c, M, rfl, ht, lM, gM⟩, s6, rfl⟩
        obtain ⟨e, he, rfl⟩ := one_get hit
        have hb : b < 10 := by
          obtain ⟨_, hb⟩ := rgD_some he
          exact hb
        refine gx_name (by decide) (sx_seq (sx_append (ex_var rfl rfl ⟨p, rfl, mem_dom_hd, ex_callTG (ax_cons (ex_var rfl rfl (ax_cons (ex_var rfl rfl (ax_nil ⟨(6, 2), by decide, t, _, c, _, rfl, by rw [get_tl hpt, get_one'], rfl, ⟨ht, _, rfl, gS⟩, ?_⟩)))))⟩)))
        rintro r c ⟨ht, gr⟩
        have gr : Gd 14 6 r := gr
        rw [put_tl hpt, put_one]
        refine ⟨r, M, rfl, get_cons_same _ _ _, by omega, ?_⟩
        rw [put_hd (by simpa [dom] using hpt)]
        have lst : atI (M ++ [r]) (-1) = some r := by
          unfold atI ixN
          rw [if_neg (by decide), if_pos (by rw [List.length_append]; show -((M.length + 1 : Nat) : Int) ≤ -1; omega)]
          show (M ++ [r])[((-1 : Int) + ((M ++ [r]).length : Nat)).toNat]? = some r
          have e : ((-1 : Int) + ((M ++ [r]).length : Nat)).toNat = M.length := by
            rw [List.length_append]
            show ((-1 : Int) + ((M.length + 1 : Nat) : Int)).toNat = M.length
            omega
          rw [e, List.getElem?_append_right (Nat.le_refl _), Nat.sub_self]
          rfl
        refine sx_append (ex_var rfl rfl ⟨p, rfl, mem_dom_hd, ex_callTG (ax_cons (ex_var rfl rfl (ax_cons (ex_op (ex_var rfl rfl (ex_un (ex_c rfl ⟨_, _, rfl, ⟨_, rfl, rfl⟩, _, _, _, v_hd, rfl, lst, ax_nil ⟨(14, 6), by decide, t, _, c, _, rfl, by rw [get_tl hpt, get_one'], rfl, ⟨ht, _, rfl, gr⟩, ?_⟩⟩)))))))⟩)
        rintro r2 c ⟨ht, gr2⟩
        have gr2 : Gd 22 10 r2 := gr2
        rw [put_tl hpt, put_one]
        refine ⟨r2, M ++ [r], rfl, get_cons_same _ _ _, by rw [List.length_append]; show _ + 1 < 1000000; omega, ?_⟩
        rw [put_hd (by simpa [dom] using hpt)]
        refine ⟨⟨c, _, rfl, ht, ?_, Things.app (Things.app gM (gr.mono (by decide) (by decide))) (gr2.mono (by decide) (by decide))⟩, _, rfl⟩
        rw [List.length_append, List.length_append]
        show _ + 1 + 1 ≤ _
        omega
      · rintro S' E' ⟨⟨c, M, rfl, ht, lM, gM⟩, s6, rfl⟩
        refine sx_release (i := 5) hp rfl ?_
        show SX K TL F _ [(t, c)] [.dat scr, .own t, .dat d, .dat (.int k), .dat (tupS nss), .dat (.list M), s6, s7, s8, .no] _ _ _ _
        refine sx_seq (sx_for [7] (ix_list (ex_var rfl rfl ⟨M, rfl, fun b S' E' => S' = [(t, c)] ∧ ∃ s7, E' = [.dat scr, .own t, .dat d, .dat (.int k), .dat (tupS nss), .dat (.list M), s6, s7, s8, .no], ⟨rfl, _, rfl⟩, ?_, ?_⟩)))
        · rintro F b it S' E' hit ⟨rfl, s7, rfl⟩
          obtain ⟨x, hx, rfl⟩ := one_get hit
          have gx : Gd 500 50 x := (gM x (List.mem_of_getElem? hx)).mono (by decide) (by decide)
          refine gx_name (by decide) (sx_if (tx_not (tx_B (ex_call (ax_cons (ex_call (ax_cons (ex_var rfl rfl (ax_nil ⟨_, rfl, ⟨x, rfl, gx⟩, ?_⟩)))))))))
          rintro r1 ⟨x1, e1, rfl⟩
          cases e1
          refine ax_cons (ex_call (ax_cons (ex_var rfl rfl (ax_nil ⟨_, rfl, ⟨x, rfl, gx⟩, ?_⟩))))
          rintro r2 ⟨x2, e2, rfl⟩
          cases e2
          refine ax_nil ⟨_, rfl, ⟨.bool (stdB x), by rw [std_eq x], .bl _ _⟩, ?_⟩
          rintro r3 rfl
          exact ⟨_, rfl, iteF (sx_next ⟨rfl, _, rfl⟩)⟩
        · rintro S' E' ⟨rfl, s7, rfl⟩
          refine sx_for [8] (ix_rng2 (ax_cons (ex_c rfl (ax_cons (ex_op (ex_var rfl rfl (ex_c rfl ⟨_, _, _, rfl, rfl, rfl, ax_nil ⟨1, (k : Int) + 1, rfl, ⟨by omega, by omega, by omega, by omega⟩, fun b S' E' => S' = [(t, c)] ∧ ∃ s8, E' = [.dat scr, .own t, .dat d, .dat (.int k), .dat (tupS nss), .dat (.list M), s6, s7, s8, .no], ⟨rfl, _, rfl⟩, ?_, ?_⟩⟩)))))))
          · rintro F b it S' E' hit ⟨rfl, s8, rfl⟩
            obtain ⟨x, hx, rfl⟩ := one_get hit
            obtain ⟨rfl, hb⟩ := rgD_some hx
            have hin : (1 : Int) + (b : Nat) ∈ nss.flatten := (st.all _).mpr ⟨by omega, by omega⟩
            have hr : ∀ ns ∈ nss, Rises ns ∧ ns.length ≤ 500 := fun ns hn => ⟨(st.each ns hn).2.1, by have := each6 ns hn; omega⟩
            have inj : ∀ {nss' : List (List Int)} {i' : Int}, [tupS nss, PyData.int (1 + (b : Nat))] = [tupS nss', .int i'] → nss' = nss ∧ i' = 1 + (b : Nat) := fun {nss' i'} e => by
              injection e with e1 e2
              injection e2 with e2 _
              injection e2 with e2
              exact ⟨by rw [← unTS_tupS nss', ← e1, unTS_tupS], e2.symm⟩
            refine gx_name (by decide) (sx_if (tx_not (tx_B (ex_call (ax_cons (ex_call (ax_cons (ex_var rfl rfl (ax_cons (ex_var rfl rfl (ax_nil ⟨_, rfl, ⟨nss, _, rfl, hr, hin⟩, ?_⟩)))))))))))
            rintro r1 ⟨n1, i1, e1, rfl⟩
            obtain ⟨rfl, rfl⟩ := inj e1
            refine ax_cons (ex_call (ax_cons (ex_var rfl rfl (ax_cons (ex_var rfl rfl (ax_nil ⟨_, rfl, ⟨_, _, rfl, hr, hin⟩, ?_⟩))))))
            rintro r2 ⟨n2, i2, e2, rfl⟩
            obtain ⟨rfl, rfl⟩ := inj e2
            refine ax_nil ⟨_, rfl, ⟨_, rfl, gd_intsT 2 _ (Nat.le_trans (low_len each6) (by decide))⟩, ?_⟩
            rintro r3 rfl
            exact ⟨_, rfl, iteF (sx_next ⟨rfl, _, rfl⟩)⟩
          · rintro S' E' ⟨rfl, s8, rfl⟩
            exact ⟨⟨c, rfl, ht⟩, _, _, _, _, _, _, _, rfl⟩
    · rintro S' E' ⟨⟨c, rfl, ht⟩, s2, s3, s4, s5, s6, s7, s8, rfl⟩
      refine sx_seq (sx_asg (ex_op (ex_new (en_lst (ax_cons (ex_c rfl (ax_cons (ex_c rfl (ax_cons (ex_c rfl (ax_cons (ex_c rfl (ax_cons (ex_c rfl (ax_cons (ex_c rfl (ax_nil ⟨_, rfl, by show 6 ≤ 1000000; decide, ?_⟩)))))))))))))))))
      refine ex_dr (ax_cons (ex_var rfl rfl (ax_cons (ex_c rfl (ax_nil ⟨t, c, 6, rfl, get_one', ht, by decide, fun l c ht l0 l1 => ?_⟩)))))
      rw [put_one]
      obtain ⟨x, hx, hxm, _⟩ := atI_lt (xs := [PyData.int 1, .int 2, .int 3, .int 4, .int 5, .int 6]) l0 l1
      obtain ⟨k, rfl, k1, k6⟩ : ∃ k : Nat, x = .int k ∧ 1 ≤ k ∧ k ≤ 6 := by
        simp only [List.mem_cons, List.not_mem_nil, or_false] at hxm
        rcases hxm with rfl | rfl | rfl | rfl | rfl | rfl
        · exact ⟨1, rfl, by decide, by decide⟩
        · exact ⟨2, rfl, by decide, by decide⟩
        · exact ⟨3, rfl, by decide, by decide⟩
        · exact ⟨4, rfl, by decide, by decide⟩
        · exact ⟨5, rfl, by decide, by decide⟩
        · exact ⟨6, rfl, by decide, by decide⟩
      refine ⟨.list [PyData.int 1, .int 2, .int 3, .int 4, .int 5, .int 6], _, _, rfl, rfl, hx, ?_⟩
      have inj : ∀ {k' : Nat}, [PyData.int k] = [.int k'] → k' = k := fun {k'} e => by
        injection e with e _
        injection e with e
        omega
      refine sx_ret (ex_andV (ex_call (ax_cons (ex_new (en_call (ax_cons (ex_var rfl rfl (ax_nil ⟨_, rfl, ⟨k, rfl, k1, k6⟩, ?_⟩))))))))
      rintro es ⟨k', e, rfl⟩
      cases inj e
      refine ax_cons (ex_new (en_call (ax_cons (ex_var rfl rfl (ax_nil ⟨_, rfl, ⟨k, rfl, k1, k6⟩, ?_⟩)))))
      rintro es ⟨k', e, rfl⟩
      cases inj e
      refine ax_nil ⟨_, rfl, ⟨_, rfl, gd_all k6⟩, ?_⟩
      rintro r3 rfl
      refine ⟨_, rfl, iteT (ex_op (ex_len (ex_new (en_call (ax_cons (ex_var rfl rfl (ax_nil ⟨_, rfl, ⟨k, rfl, k1, k6⟩, ?_⟩)))))))⟩
      rintro es ⟨k', e, rfl⟩
      cases inj e
      refine ⟨_, _, rfl, rfl, ex_op (ex_tup (ax_cons (ex_c rfl (ax_cons (ex_c rfl (ax_cons (ex_c rfl (ax_cons (ex_c rfl (ax_cons (ex_c rfl (ax_cons (ex_c rfl (ax_nil ⟨_, rfl, by show 6 ≤ 1000000; decide, ?_⟩))))))))))))))⟩
      refine ex_op (ex_var rfl rfl (ex_c rfl ⟨_, _, _, rfl, rfl, ⟨_, _, rfl, rfl, trivial, rfl⟩, .tuple [PyData.int 1, .int 2, .int 5, .int 15, .int 52, .int 203], .int ((k : Int) - 1), .int ((allS k).length : Nat), rfl, rfl, bell_at k1 k6, _, _, _, rfl, rfl, pEq_int _ _, _, rfl, ?_⟩))
      rw [sort_len, List.length_map, decide_eq_true rfl]
end K1

set_option maxHeartbeats 0
namespace K1
open PySem PySem.Spec PyProof.Rows L2 PL
def D_is_whole : He.DefD := ⟨("is_whole", none), "is_whole", "is_whole", defArgs (top 2), defBody (top 2), defScope (top 2), [], []⟩
def D_is_rising : He.DefD := ⟨("is_rising", none), "is_rising", "is_rising", defArgs (top 3), defBody (top 3), defScope (top 3), [], []⟩
def D_is_stack : He.DefD := ⟨("is_stack", none), "is_stack", "is_stack", defArgs (top 4), defBody (top 4), defScope (top 4), [], []⟩
def D_is_standing : He.DefD := ⟨("is_standing", none), "is_standing", "is_standing", defArgs (top 5), defBody (top 5), defScope (top 5), [], []⟩
def D_dolls_of : He.DefD := ⟨("dolls_of", none), "dolls_of", "dolls_of", defArgs (top 6), defBody (top 6), defScope (top 6), [], []⟩
def D_standings : He.DefD := ⟨("standings", none), "standings", "standings", defArgs (top 7), defBody (top 7), defScope (top 7), [], []⟩
def D_grown_by : He.DefD := ⟨("grown_by", none), "grown_by", "grown_by", defArgs (top 8), defBody (top 8), defScope (top 8), [], []⟩
def D_within : He.DefD := ⟨("within", none), "within", "within", defArgs (top 9), defBody (top 9), defScope (top 9), [], []⟩
def D__law_draw : He.DefD := ⟨("_law_draw", none), "_law_draw", "_law_draw", defArgs (top 11), defBody (top 11), defScope (top 11), [], []⟩
def D__law_whole : He.DefD := ⟨("_law_whole", none), "_law_whole", "_law_whole", defArgs (top 12), defBody (top 12), defScope (top 12), [], []⟩
def D__law_within : He.DefD := ⟨("_law_within", none), "_law_within", "_law_within", defArgs (top 13), defBody (top 13), defScope (top 13), [], []⟩
def D__law_like : He.DefD := ⟨("_law_like", none), "_law_like", "_law_like", defArgs (top 14), defBody (top 14), defScope (top 14), [], []⟩
def D__law_spoilt : He.DefD := ⟨("_law_spoilt", none), "_law_spoilt", "_law_spoilt", defArgs (top 15), defBody (top 15), defScope (top 15), [], []⟩
def D__law_rises : He.DefD := ⟨("_law_rises", none), "_law_rises", "_law_rises", defArgs (top 16), defBody (top 16), defScope (top 16), [], []⟩
def D__law_any : He.DefD := ⟨("_law_any", none), "_law_any", "_law_any", defArgs (top 17), defBody (top 17), defScope (top 17), [], []⟩
def D__law_standing : He.DefD := ⟨("_law_standing", none), "_law_standing", "_law_standing", defArgs (top 18), defBody (top 18), defScope (top 18), [], []⟩
def D__law_in : He.DefD := ⟨("_law_in", none), "_law_in", "_law_in", defArgs (top 19), defBody (top 19), defScope (top 19), [], []⟩
def D__law_every : He.DefD := ⟨("_law_every", none), "_law_every", "_law_every", defArgs (top 20), defBody (top 20), defScope (top 20), [], []⟩
def D__law_is_standing : He.DefD := ⟨("_law_is_standing", none), "_law_is_standing", "_law_is_standing", defArgs (top 21), defBody (top 21), defScope (top 21), [], []⟩
def D_law : He.DefD := ⟨("law", none), "law", "law", defArgs (top 22), defBody (top 22), defScope (top 22), [], []⟩
def fn : List He.DefD := [D_is_whole, D_is_rising, D_is_stack, D_is_standing, D_dolls_of, D_standings, D_grown_by, D_within, D__law_draw, D__law_whole, D__law_within, D__law_like, D__law_spoilt, D__law_rises, D__law_any, D__law_standing, D__law_in, D__law_every, D__law_is_standing, D_law]
def fa : List He.Fa := [.glo "is_whole", .glo "is_rising", .glo "is_stack", .glo "is_standing", .glo "dolls_of", .glo "standings", .glo "grown_by", .glo "within", .glo "_law_draw", .glo "_law_whole", .glo "_law_within", .glo "_law_like", .glo "_law_spoilt", .glo "_law_rises", .glo "_law_any", .glo "_law_standing", .glo "_law_in", .glo "_law_every", .glo "_law_is_standing", .glo "law", .free "all", .free "bool", .free "enumerate", .free "int", .free "isinstance", .free "len", .free "list", .free "max", .free "range", .free "sorted", .free "str", .free "sum", .free "tuple", .free "zip", .int "MOST_DOLLS" 6]
def tf : List He.Defn := [("is_rising", none), ("is_stack", none), ("is_standing", none)]
abbrev R : PySem.W.OpenRow := PySem.W.OpenLaw.row PySem.Challenge.rw_nestdolls_k01_standings_known_and_all_to
abbrev hk : PySem.W.Hook := He.hookX 4 fa fn [] tf (fun _ => true)
def ob (s : PySem.W.SharedT) : He.AlX := He.obsX 4 fa fn [] tf (fun _ => true) (HandSHeadRun.getT s)
theorem ob_eq (s : PySem.W.SharedT) : ob s = hk.obs s.abs := He.obsX_eq (HandSHeadRun.getT_eq s)
def loose : List Str := ["__name__", "MOST_DOLLS", "is_whole", "is_rising", "is_stack", "is_standing", "dolls_of", "standings", "grown_by", "within", "_law_draw", "_law_whole", "_law_within", "_law_like", "_law_spoilt", "_law_rises", "_law_any", "_law_standing", "_law_in", "_law_every", "_law_is_standing"]
theorem run (w : World) : HandSHeadRun.RunEq R (PySem.W.view R.prog [22]) hk ob 3000 loose w := by
  intro os
  kernel_rfl
end K1

set_option maxHeartbeats 0
namespace K1
open PySem PySem.Spec PyProof.Rows L2 PL
abbrev FD (K : PySem.W.Frag) (x : Str) (i : Nat) : Prop := ∃ fd, FunD K x x (defArgs (top i)) (defBody (top i)) (defScope (top i)) [] [] (He.fAd K (x, none)) fd
abbrev tbl (K : PySem.W.Frag) (x : Str) : Addr := (He.cT K (x, none)).2
abbrev TLs (K : PySem.W.Frag) : List Addr := [tbl K "is_rising", tbl K "is_stack", tbl K "is_standing"]
structure Cn (K : PySem.W.Frag) (mg : Str → Option Value) (base : Heap) (cv : Str → Value) : Prop where
  B : Blt mg cv
  d : ∀ p ∈ [("is_whole", 2), ("is_rising", 3), ("is_stack", 4), ("is_standing", 5), ("dolls_of", 6), ("standings", 7), ("grown_by", 8), ("within", 9), ("_law_draw", 11), ("_law_whole", 12), ("_law_within", 13), ("_law_like", 14), ("_law_spoilt", 15), ("_law_rises", 16), ("_law_any", 17), ("_law_standing", 18), ("_law_in", 19), ("_law_every", 20), ("_law_is_standing", 21), ("law", 22)], FD K (Str.ofString p.1) p.2 ∧ mg (Str.ofString p.1) = some (.ref (He.fAd K (Str.ofString p.1, none)))
  t : ∀ x ∈ ["is_rising", "is_stack", "is_standing"], LamX.TabB base mg (He.cT K (Str.ofString x, none)).1 (He.cT K (Str.ofString x, none)).2
section
variable {P : Program} {w : World} {K : PySem.W.Frag} {mg : Str → Option Value} {base : Heap} {cv : Str → Value}
theorem mkFu {x : Str} {i k : Nat} {ps : List Str} {sp : Sp} (h : FD K x i ∧ mg x = some (.ref (He.fAd K (x, none)))) (ok : ∀ fd, FunD K x x (defArgs (top i)) (defBody (top i)) (defScope (top i)) [] [] (He.fAd K (x, none)) fd → FnOk P w K mg base CX0 k (He.fAd K (x, none)) fd ps sp)
    (hb : ∀ (kV doc pm : Value) (an : Option Addr) (cdv ct : Value) (us : List Value), us.length = ps.length → bindArgs (PySem.W.fnOf x x (defArgs (top i)) (defBody (top i)) (defScope (top i)) .none kV doc pm an cdv ct) ⟨us, []⟩ = pure (ps.zip us)) : Fu P w K mg base x k ps sp := by
  obtain ⟨⟨fd, F⟩, hg⟩ := h
  exact ⟨_, fd, ok fd F, hg, F.kp, F.bindsN hb⟩
variable (C : Cn K mg base cv)
include C
theorem fu_is_whole : Fu P w K mg base "is_whole" 1 ["thing"] (sWhole K (TLs K)) :=
  mkFu (i := 2) (C.d ("is_whole", 2) (by simp)) (fun fd F => F.ok sc_is_whole sWhole_len fun cdv A outer s H vs Q E hr h => ⟨_, PSs.nox (d_is_whole C.B hr), p_is_whole vs H Q E h⟩) fun _ _ _ _ _ _ us hl => match us, hl with | [_], _ => rfl
theorem fu_is_rising : Fu P w K mg base "is_rising" 2 ["things"] (sRise K (TLs K)) :=
  mkFu (i := 3) (C.d ("is_rising", 3) (by simp)) (fun fd F => okC F sc_is_rising sRise_len fun A outer s H vs Q E hr h => ⟨_, PSs.nox (d_is_rising (kG := 0) C.B hr (C.t "is_rising" (by simp)) (by decide)), p_is_rising (by simp) vs H Q E h⟩) fun _ _ _ _ _ _ us hl => match us, hl with | [_], _ => rfl
theorem fu_is_stack : Fu P w K mg base "is_stack" 3 ["thing"] (sStack K (TLs K)) :=
  mkFu (i := 4) (C.d ("is_stack", 4) (by simp)) (fun fd F => okC F sc_is_stack sStack_len fun A outer s H vs Q E hr h => ⟨_, PSs.nox (d_is_stack (kG := 1) C.B hr (fu_is_whole C) (by decide) (fu_is_rising C) (by decide) (C.t "is_stack" (by simp)) (by decide)), p_is_stack (by simp) vs H Q E h⟩) fun _ _ _ _ _ _ us hl => match us, hl with | [_], _ => rfl
theorem fu_dolls_of : Fu P w K mg base "dolls_of" 1 ["standing"] (sDs K (TLs K)) :=
  mkFu (i := 6) (C.d ("dolls_of", 6) (by simp)) (fun fd F => F.ok sc_dolls_of sDs_len fun cdv A outer s H vs Q E hr h => ⟨_, PSs.nox (d_dolls_of C.B hr), p_dolls_of vs H Q E h⟩) fun _ _ _ _ _ _ us hl => match us, hl with | [_], _ => rfl
theorem fu_is_standing : Fu P w K mg base "is_standing" 5 ["thing"] (sStd K (TLs K)) :=
  mkFu (i := 5) (C.d ("is_standing", 5) (by simp)) (fun fd F => okC F sc_is_standing sStd_len fun A outer s H vs Q E hr h => ⟨_, PSs.nox (d_is_standing (kG := 3) C.B hr (fu_is_stack C) (by decide) (fu_dolls_of C) (by decide) (fu_is_rising C) (by decide) (C.t "is_standing" (by simp)) (by decide)), p_is_standing (by simp) vs H Q E h⟩) fun _ _ _ _ _ _ us hl => match us, hl with | [_], _ => rfl
theorem fu_grown_by : Fu P w K mg base "grown_by" 1 ["standing", "doll"] (spG K (TLs K)) :=
  mkFu (i := 8) (C.d ("grown_by", 8) (by simp)) (fun fd F => F.ok sc_grown_by spG_len fun cdv A outer s H vs Q E hr h => ⟨_, PSs.nox (d_grown_by C.B hr), p_grown_by vs H Q E h⟩) fun _ _ _ _ _ _ us hl => match us, hl with | [_, _], _ => rfl
theorem fu_standings : Fu P w K mg base "standings" 2 ["many"] (spSt K (TLs K)) :=
  mkFu (i := 7) (C.d ("standings", 7) (by simp)) (fun fd F => F.ok sc_standings spSt_len fun cdv A outer s H vs Q E hr h => ⟨_, PSs.nox (d_standings C.B hr (fu_grown_by C) (by decide)), p_standings vs H Q E h⟩) fun _ _ _ _ _ _ us hl => match us, hl with | [_], _ => rfl
theorem fu_within : Fu P w K mg base "within" 1 ["standing", "doll"] (spW K (TLs K)) :=
  mkFu (i := 9) (C.d ("within", 9) (by simp)) (fun fd F => F.ok sc_within spW_len fun cdv A outer s H vs Q E hr h => ⟨_, PSs.nox (d_within C.B hr), p_within vs H Q E h⟩) fun _ _ _ _ _ _ us hl => match us, hl with | [_, _], _ => rfl
theorem fu__law_draw : Fu P w K mg base "_law_draw" 1 ["tape", "many"] (spDr K (TLs K)) :=
  mkFu (i := 11) (C.d ("_law_draw", 11) (by simp)) (fun fd F => F.ok sc__law_draw spDr_len fun cdv A outer s H vs Q E hr h => ⟨_, PSs.nox (d__law_draw C.B hr), p__law_draw vs H Q E h⟩) fun _ _ _ _ _ _ us hl => match us, hl with | [_, _], _ => rfl
theorem fu__law_whole : Fu P w K mg base "_law_whole" 1 ["item"] (sWhole K (TLs K)) :=
  mkFu (i := 12) (C.d ("_law_whole", 12) (by simp)) (fun fd F => F.ok sc__law_whole sWhole_len fun cdv A outer s H vs Q E hr h => ⟨_, PSs.nox (d__law_whole C.B hr), p__law_whole vs H Q E h⟩) fun _ _ _ _ _ _ us hl => match us, hl with | [_], _ => rfl
theorem fu__law_within : Fu P w K mg base "_law_within" 2 ["item", "low", "high"] (sIn3 K (TLs K)) :=
  mkFu (i := 13) (C.d ("_law_within", 13) (by simp)) (fun fd F => F.ok sc__law_within sIn3_len fun cdv A outer s H vs Q E hr h => ⟨_, PSs.nox (d__law_within C.B hr (fu__law_whole C) (by decide)), p__law_within vs H Q E h⟩) fun _ _ _ _ _ _ us hl => match us, hl with | [_, _, _], _ => rfl
theorem no_like : Fu P w K mg base "_law_like" 1 ["one", "two"] spNo :=
  mkFu (i := 14) (C.d ("_law_like", 14) (by simp)) (fun fd F => F.ok (k := 0) sc__law_like (fun _ _ _ _ h => h.elim) fun cdv A outer s H vs Q E hr h => h.elim) fun _ _ _ _ _ _ us hl => match us, hl with | [_, _], _ => rfl
theorem fu__law_like : ∀ n, n ≤ 60 → Fu P w K mg base "_law_like" (n + 2) ["one", "two"] (spLk K (TLs K) n)
  | 0, hn => mkFu (i := 14) (C.d ("_law_like", 14) (by simp)) (fun fd F => F.ok sc__law_like (spLk_len 0) fun cdv A outer s H vs Q E hr h => ⟨_, PSs.nox (d__law_like C.B hr (no_like C) (by decide)), p__law_like spNo 0 hn (fun n' e => by omega) vs H Q E h⟩) fun _ _ _ _ _ _ us hl => match us, hl with | [_, _], _ => rfl
  | n + 1, hn => mkFu (i := 14) (C.d ("_law_like", 14) (by simp)) (fun fd F => F.ok sc__law_like (spLk_len (n + 1)) fun cdv A outer s H vs Q E hr h => ⟨_, PSs.nox (d__law_like C.B hr (fu__law_like n (by omega)) (Nat.le_refl _)), p__law_like (spLk K (TLs K) n) (n + 1) hn (fun n' e => by rw [Nat.succ.inj e]) vs H Q E h⟩) fun _ _ _ _ _ _ us hl => match us, hl with | [_, _], _ => rfl
theorem no_any : Fu P w K mg base "_law_any" 1 ["tape", "deep"] spNo :=
  mkFu (i := 17) (C.d ("_law_any", 17) (by simp)) (fun fd F => F.ok (k := 0) sc__law_any (fun _ _ _ _ h => h.elim) fun cdv A outer s H vs Q E hr h => h.elim) fun _ _ _ _ _ _ us hl => match us, hl with | [_, _], _ => rfl
theorem fu__law_any : ∀ n, Fu P w K mg base "_law_any" (n + 2) ["tape", "deep"] (spAny K (TLs K) n)
  | 0 => mkFu (i := 17) (C.d ("_law_any", 17) (by simp)) (fun fd F => F.ok sc__law_any (spAny_len 0) fun cdv A outer s H vs Q E hr h => ⟨_, PSs.nox (d__law_any C.B hr (fu__law_draw C) (by decide) (no_any C) (by decide)), p__law_any spNo 0 (fun n' e => by omega) vs H Q E h⟩) fun _ _ _ _ _ _ us hl => match us, hl with | [_, _], _ => rfl
  | n + 1 => mkFu (i := 17) (C.d ("_law_any", 17) (by simp)) (fun fd F => F.ok sc__law_any (spAny_len (n + 1)) fun cdv A outer s H vs Q E hr h => ⟨_, PSs.nox (d__law_any C.B hr (fu__law_draw C) (by omega) (fu__law_any n) (Nat.le_refl _)), p__law_any (spAny K (TLs K) n) (n + 1) (fun n' e => by rw [Nat.succ.inj e]) vs H Q E h⟩) fun _ _ _ _ _ _ us hl => match us, hl with | [_, _], _ => rfl
theorem no_spoilt : Fu P w K mg base "_law_spoilt" 1 ["tape", "item"] spNo :=
  mkFu (i := 15) (C.d ("_law_spoilt", 15) (by simp)) (fun fd F => F.ok (k := 0) sc__law_spoilt (fun _ _ _ _ h => h.elim) fun cdv A outer s H vs Q E hr h => h.elim) fun _ _ _ _ _ _ us hl => match us, hl with | [_, _], _ => rfl
theorem fu__law_spoilt : ∀ n, Fu P w K mg base "_law_spoilt" (n + 6) ["tape", "item"] (spSp K (TLs K) n)
  | 0 => mkFu (i := 15) (C.d ("_law_spoilt", 15) (by simp)) (fun fd F => F.ok sc__law_spoilt (spSp_len 0) fun cdv A outer s H vs Q E hr h => ⟨_, PSs.nox (d__law_spoilt C.B hr (fu__law_draw C) (by decide) (no_spoilt C) (by decide) (fu__law_any C 3) (by decide) (fu__law_whole C) (by decide)), p__law_spoilt spNo 0 (fun n' e => by omega) vs H Q E h⟩) fun _ _ _ _ _ _ us hl => match us, hl with | [_, _], _ => rfl
  | n + 1 => mkFu (i := 15) (C.d ("_law_spoilt", 15) (by simp)) (fun fd F => F.ok sc__law_spoilt (spSp_len (n + 1)) fun cdv A outer s H vs Q E hr h => ⟨_, PSs.nox (d__law_spoilt C.B hr (fu__law_draw C) (by omega) (fu__law_spoilt n) (Nat.le_refl _) (fu__law_any C 3) (by omega) (fu__law_whole C) (by omega)), p__law_spoilt (spSp K (TLs K) n) (n + 1) (fun n' e => by rw [Nat.succ.inj e]) vs H Q E h⟩) fun _ _ _ _ _ _ us hl => match us, hl with | [_, _], _ => rfl
theorem fu__law_rises : Fu P w K mg base "_law_rises" 1 ["some"] (sRises K (TLs K)) :=
  mkFu (i := 16) (C.d ("_law_rises", 16) (by simp)) (fun fd F => F.ok sc__law_rises sRises_len fun cdv A outer s H vs Q E hr h => ⟨_, PSs.nox (d__law_rises C.B hr), p__law_rises vs H Q E h⟩) fun _ _ _ _ _ _ us hl => match us, hl with | [_], _ => rfl
theorem fu__law_standing : Fu P w K mg base "_law_standing" 2 ["tape", "many"] (spStd K (TLs K)) :=
  mkFu (i := 18) (C.d ("_law_standing", 18) (by simp)) (fun fd F => F.ok sc__law_standing spStd_len fun cdv A outer s H vs Q E hr h => ⟨_, PSs.nox (d__law_standing C.B hr (fu__law_draw C) (by decide)), p__law_standing vs H Q E h⟩) fun _ _ _ _ _ _ us hl => match us, hl with | [_, _], _ => rfl
theorem fu__law_in : Fu P w K mg base "_law_in" 1 ["standing", "doll"] (spW K (TLs K)) :=
  mkFu (i := 19) (C.d ("_law_in", 19) (by simp)) (fun fd F => F.ok sc__law_in spW_len fun cdv A outer s H vs Q E hr h => ⟨_, PSs.nox (d__law_in C.B hr), p__law_in vs H Q E h⟩) fun _ _ _ _ _ _ us hl => match us, hl with | [_, _], _ => rfl
theorem fu__law_every : Fu P w K mg base "_law_every" 1 ["many"] (spSt K (TLs K)) :=
  mkFu (i := 20) (C.d ("_law_every", 20) (by simp)) (fun fd F => F.ok sc__law_every spSt_len fun cdv A outer s H vs Q E hr h => ⟨_, PSs.nox (d__law_every C.B hr), p__law_every vs H Q E h⟩) fun _ _ _ _ _ _ us hl => match us, hl with | [_], _ => rfl
theorem fu__law_is_standing : Fu P w K mg base "_law_is_standing" 3 ["item"] (sLStd K (TLs K)) :=
  mkFu (i := 21) (C.d ("_law_is_standing", 21) (by simp)) (fun fd F => F.ok sc__law_is_standing sLStd_len fun cdv A outer s H vs Q E hr h => ⟨_, PSs.nox (d__law_is_standing C.B hr (fu__law_within C) (by decide) (fu__law_rises C) (by decide)), p__law_is_standing vs H Q E h⟩) fun _ _ _ _ _ _ us hl => match us, hl with | [_], _ => rfl
theorem ok_law {fd : FuncData} (F : FunD K "law" "law" (defArgs (top 22)) (defBody (top 22)) (defScope (top 22)) [] [] (He.fAd K ("law", none)) fd) : FnOk P w K mg base CX0 13 (He.fAd K ("law", none)) fd ["script"] (spLaw K (TLs K)) :=
  F.ok sc_law spLaw_len fun cdv A outer s H vs Q E hr h => ⟨_, PSs.nox (d_law C.B hr (fu__law_draw C) (by decide) (fu__law_standing C) (by decide) (fu__law_any C 3) (by decide) (fu__law_spoilt C 6) (by decide) (fu__law_like C 3 (by decide)) (by decide) (fu__law_is_standing C) (by decide) (fu_is_standing C) (by decide) (fu__law_in C) (by decide) (fu_within C) (by decide) (fu__law_every C) (by decide) (fu_standings C) (by decide)), p_law vs H Q E h⟩
end
end K1

set_option maxHeartbeats 0
namespace K1
open PySem PySem.Spec PyProof.Rows L2 PL
abbrev LW : PySem.W.OpenLaw := PySem.Challenge.rw_nestdolls_k01_standings_known_and_all_to
theorem defs_of {K : PySem.W.Frag} {h : Heap} {mg : Str → Option Value} (X : K.In h) (G : h.Ns mainGlobals mg) (c : He.SaysD fa fn K) {D : He.DefD} {x : Str} {i : Nat} (e : D = ⟨(x, none), x, x, defArgs (top i), defBody (top i), defScope (top i), [], []⟩) (hD : D ∈ fn) (hg : He.Fa.glo x ∈ fa) :
    FD K x i ∧ mg x = some (.ref (He.fAd K (x, none))) := by
  subst e
  obtain ⟨fd, F⟩ := c.defs hD
  exact ⟨⟨fd, F⟩, He.glo_ok X G (c.facts hg)⟩
theorem law_at {w : World} {mg : Str → Option Value} {f : Addr} {h : Heap} {K : PySem.W.Frag} (X : K.In h) (G : h.Ns mainGlobals mg) (hmg : mg ("law" : Str) = some (.ref f)) (c : He.SaysX fa fn [] tf (fun _ => true) w h K) : LamX.LawAtS LW w K CX0 13 63 "script" mg f h := by
  have cd := c.t.d
  have dd := fun {D : He.DefD} {x : Str} {i : Nat} => defs_of (D := D) (x := x) (i := i) X G cd
  have all : ∀ p ∈ [("is_whole", 2), ("is_rising", 3), ("is_stack", 4), ("is_standing", 5), ("dolls_of", 6), ("standings", 7), ("grown_by", 8), ("within", 9), ("_law_draw", 11), ("_law_whole", 12), ("_law_within", 13), ("_law_like", 14), ("_law_spoilt", 15), ("_law_rises", 16), ("_law_any", 17), ("_law_standing", 18), ("_law_in", 19), ("_law_every", 20), ("_law_is_standing", 21), ("law", 22)], FD K (Str.ofString p.1) p.2 ∧ mg (Str.ofString p.1) = some (.ref (He.fAd K (Str.ofString p.1, none))) := by
    intro p hp
    simp only [List.mem_cons, List.not_mem_nil, or_false] at hp
    rcases hp with rfl | rfl | rfl | rfl | rfl | rfl | rfl | rfl | rfl | rfl | rfl | rfl | rfl | rfl | rfl | rfl | rfl | rfl | rfl | rfl
    · exact dd (D := D_is_whole) rfl (by simp [fn]) (by simp [fa])
    · exact dd (D := D_is_rising) rfl (by simp [fn]) (by simp [fa])
    · exact dd (D := D_is_stack) rfl (by simp [fn]) (by simp [fa])
    · exact dd (D := D_is_standing) rfl (by simp [fn]) (by simp [fa])
    · exact dd (D := D_dolls_of) rfl (by simp [fn]) (by simp [fa])
    · exact dd (D := D_standings) rfl (by simp [fn]) (by simp [fa])
    · exact dd (D := D_grown_by) rfl (by simp [fn]) (by simp [fa])
    · exact dd (D := D_within) rfl (by simp [fn]) (by simp [fa])
    · exact dd (D := D__law_draw) rfl (by simp [fn]) (by simp [fa])
    · exact dd (D := D__law_whole) rfl (by simp [fn]) (by simp [fa])
    · exact dd (D := D__law_within) rfl (by simp [fn]) (by simp [fa])
    · exact dd (D := D__law_like) rfl (by simp [fn]) (by simp [fa])
    · exact dd (D := D__law_spoilt) rfl (by simp [fn]) (by simp [fa])
    · exact dd (D := D__law_rises) rfl (by simp [fn]) (by simp [fa])
    · exact dd (D := D__law_any) rfl (by simp [fn]) (by simp [fa])
    · exact dd (D := D__law_standing) rfl (by simp [fn]) (by simp [fa])
    · exact dd (D := D__law_in) rfl (by simp [fn]) (by simp [fa])
    · exact dd (D := D__law_every) rfl (by simp [fn]) (by simp [fa])
    · exact dd (D := D__law_is_standing) rfl (by simp [fn]) (by simp [fa])
    · exact dd (D := D_law) rfl (by simp [fn]) (by simp [fa])
  obtain ⟨⟨fd, F⟩, hl⟩ := all ("law", 22) (by simp)
  have ef : f = He.fAd K ("law", none) := by
    have e := hmg.symm.trans hl
    injection e with e
    injection e
  subst ef
  obtain ⟨tk, hm⟩ := He.int_ok X G (x := "MOST_DOLLS") (i := 6) (cd.facts (by simp [fa]))
  have B : Blt mg (fun _ => Value.int 6 tk) := by
    constructor
    all_goals first
      | exact He.free_ok X G (cd.facts (by simp [fa]))
      | exact ⟨hm, ⟨_, rfl⟩⟩
  have tfm : ∀ x ∈ ["is_rising", "is_stack", "is_standing"], ((Str.ofString x, none) : He.Defn) ∈ tf := by
    intro x hx
    simp only [List.mem_cons, List.not_mem_nil, or_false] at hx
    rcases hx with rfl | rfl | rfl <;> simp [tf]
  refine ⟨fd, tf.map (He.cT K), spLaw K (TLs K), fun p hp => ?_, fun p hp => ?_, fun p hp => ?_, ?_, ?_, ?_⟩
  · obtain ⟨q, hq, rfl⟩ := List.mem_map.mp hp
    exact c.empty q hq
  · obtain ⟨q, hq, rfl⟩ := List.mem_map.mp hp
    exact c.out q hq
  · obtain ⟨q, hq, rfl⟩ := List.mem_map.mp hp
    exact PySem.W.codeHd_of_K X (c.hd q hq)
  · have b := FunD.bindsA (ps := ["script"]) F fun _ _ _ _ _ _ us hl => match us, hl with | [_], _ => rfl
    exact fun s v => b s [v] rfl
  · intro H a ns _ _ ht hs
    refine ⟨fun _ => False, [.list (ns.map .int)], fun a z => z.elim, fun P hP => ?_, ?_, ⟨ns, rfl⟩, fun v d H' _ _ hd hp => ?_⟩
    · have : ∃ x ∈ ["is_rising", "is_stack", "is_standing"], P = tbl K (Str.ofString x) := by
        simp only [List.mem_cons, List.not_mem_nil, or_false] at hP
        rcases hP with rfl | rfl | rfl
        · exact ⟨"is_rising", by simp, rfl⟩
        · exact ⟨"is_stack", by simp, rfl⟩
        · exact ⟨"is_standing", by simp, rfl⟩
      obtain ⟨x, hx, rfl⟩ := this
      exact ⟨#[], ht _ (List.mem_map.mpr ⟨_, tfm x hx, rfl⟩), True.intro⟩
    · refine .cons (.lst (sql_le (Le.of fun b o e => ?_) hs) (ints_dpa ns)) .nil
      rw [hide_of (fun z => z)]
      exact e
    · subst hp
      cases hd
      rfl
  · intro base hb hg htb
    exact ok_law ⟨B, all, fun x hx => htb _ (List.mem_map.mpr ⟨_, tfm x hx, rfl⟩)⟩ F
end K1
open PySem PySem.W PySem.Calls PyProof.Rows
theorem PySem.Challenge.cw_nestdolls_k01_standings_known_and_all_to_holds : PySem.Challenge.rw_nestdolls_k01_standings_known_and_all_to.Holds := by
  w_on; o_law
  refine HandSHeadRun.head_any (r := OpenLaw.row PySem.Challenge.rw_nestdolls_k01_standings_known_and_all_to) (q := view (OpenLaw.row PySem.Challenge.rw_nestdolls_k01_standings_known_and_all_to).prog [22]) (H := K1.hk) (ob := K1.ob) (M := 3000) (loose := K1.loose) (d := HandSHeadRun.topDef (OpenLaw.row PySem.Challenge.rw_nestdolls_k01_standings_known_and_all_to).prog 22) (kwd := []) K1.ob_eq
    (by kernel_rfl) (fun s => by kernel_rfl) K1.run (by kernel_rfl) (by kernel_rfl) (by kernel_rfl) (by rfl) (by first | assumption | decide +kernel) (by decide +kernel) ⟨rfl, rfl, rfl, rfl, rfl, by decide +kernel⟩ ?hw ?hc
  case hw => w_witness2
  case hc =>
    refine LamX.walk_ofTsE (l := PySem.Challenge.rw_nestdolls_k01_standings_known_and_all_to) (n := 63) (k := 13) (x := "script") (CX := fun _ => L2.CX0) rfl (by decide) (by kernel_rfl) ⟨rfl, by decide, by decide⟩ ?F (fun _ _ _ _ _ z => z)
    intro w mg fa h Y G hmg0
    obtain ⟨K, KX, c⟩ := Y
    have hmg : mg ("law" : PySem.Str) = some (.ref fa) := by
      have e : (HandSHeadRun.topDef (OpenLaw.row PySem.Challenge.rw_nestdolls_k01_standings_known_and_all_to).prog 22).name = ("law" : PySem.Str) := by kernel_rfl
      rw [← e]
      exact hmg0
    exact ⟨K, KX, K1.law_at KX G hmg c⟩

