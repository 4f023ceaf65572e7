import PyProof.Rows.All
import Wide.All
import OpenK.AllK
import Wide.FinOn
import PySem.Challenge.RW_whoevermay_k49_texts_of_plans
import HandS.AnyAll
import HandS.GenList
import HandS.ForMost
import HandS.Strs
import HandS.NoneIn
import HandS.More
import HandS.Star
import HandS.TupAny
import HandS.WrittenGet
import HandS.HeadHook4
import HandS.HeadWalk
import HandS.Property
import HandS.Head0
import HandS.Head1
import HandS.Head2
import HandS.HeadEnd
import HandS.MakeKwOnly
import HandS.Walk
import HandS.ExcInit
import HandS.ExcSuper
import KE.KSuperObj
import KE.KFromBytes
import HandS.FStr
import HandS.ExcIs
import HandS.ExcField
import KE.KStateDown
import HandS.Words
import HandS.ExcOwn
import HandS.IsInst
import HandS.Text
import HandS.Deep
import KE.KUnpackStar
import HandS.ReplaceLit
import PyProof.ReprRoads
-- part GenAll
set_option Elab.async false
set_option linter.all false
set_option maxRecDepth 100000
set_option maxHeartbeats 2000000
/-! all, any of a generator expression over anything that a for walks, the element any expression that raises nothing -/
namespace GA
open PySem PySem.Spec PyProof.Rows L2 GenW GxR

theorem over_gen {A : Around} {elt : Expr} {gs : List Comprehension} {sc : Scope} {pos : Pos} {it acc : Value} {env : Env} :
    A.over (.compLoop (.GeneratorExp elt gs sc pos) 0 it acc env) [] = A.deeper env := by
  first
    | rfl
    | (obtain ⟨hd, d, fr, gs, u⟩ := A; simp [Around.over, Around.deeper, marksOver, frameCount, unitsOf, envsOf, guardsOf, pushEnvs, pushGuards, Code.envs, Code.env?, Code.isFrame, Code.guards, Code.isGuard, Code.weight, Code.frames, Code.isCreation, Code.isCaller, Code.cUnits])
theorem over_gen0 {A : Around} {elt : Expr} {gs : List Comprehension} {sc : Scope} {pos : Pos} {it acc : Value} {env : Env} :
    A.over (.compStart (.GeneratorExp elt gs sc pos) 0 it acc env) [] = A.deeper env := by
  first
    | rfl
    | (obtain ⟨hd, d, fr, gs, u⟩ := A; simp [Around.over, Around.deeper, marksOver, frameCount, unitsOf, envsOf, guardsOf, pushEnvs, pushGuards, Code.envs, Code.env?, Code.isFrame, Code.guards, Code.isGuard, Code.weight, Code.frames, Code.isCreation, Code.isCaller, Code.cUnits])

/-- the context of a generator expression's frame, consumed by all or any; the iterator's objects at fp -/
abbrev gcx (X : Cx) (s : Shared) (H : Hp) (scope : Scope) (cl : List (Str × Addr)) (C : Addr) (code : Value) (fp : List Addr) : Cx :=
  { X with A := X.A.in1.in1.deeper (genEnv scope cl C code builtinsNs X.env), s_0 := s, H_0 := H, env := genEnv scope cl C code builtinsNs X.env, outer := X.stack, stack := genEnv scope cl C code builtinsNs X.env :: X.stack, ex := fp, fn := fun _ => false, calm := true, pn := [], xe := fun _ _ => False }

theorem room_gen {k : Nat} {X : Cx} {s : Shared} {H : Hp} {scope : Scope} {cl : List (Str × Addr)} {C : Addr} {code : Value} {fp : List Addr} (r : Room (k + 1) X.A) : Room k (gcx X s H scope cl C code fp).A :=
  ⟨r.hd, by have := r.dp; show X.A.depth + 1 + 3 * k + 5 < _; omega, by have := r.un; show X.A.units + 1 + 1 + 3 + 16 * k + 200 < _; omega⟩

section
variable {X : Cx} {pins : List (Addr × Obj)} {σ : L2.St} {H : Hp} {s : Shared}

theorem gen_start {scope : Scope} {own : List (Str × Nat)} {fp : List Addr} {code : Value} {h' : Heap} {it : Value} {go : Obj} {G : Array GenState} {tk : Nat} (hc : X.calm = true) (I : Inv X pins σ H s) (ok : BlkOk X.N X.env.scope scope own) (hN : X.N.Nodup)
    (hfp : ∀ b ∈ fp, FpOk X pins H b ∧ b < s.heap.objs.size) (hncell : ∀ y ∈ scope.names, y.2 ≠ .cell)
    (hn : h'.Ns s.heap.objs.size (fun y => if y = (".0" : Str) then some it else none)) (hs : Heap.SameBut s.heap.objs.size (s.heap.push { cls := .type "frame", data := .dict #[] }) h')
    (hG : AllBare G) (hgo : ∀ v, go.data ≠ .cell v) (hgp : (h'.push go).get? h'.objs.size = some go) (h0 : scope.names.lookup (".0" : Str) = some .local) :
    Inv (gcx X s H scope (cloFrom X.env.cells scope.names []) s.heap.objs.size code fp) [(h'.objs.size, go)] (wipe σ (own.map (·.2))) H { s with gens := G, toks := tk, heap := h'.push go } := by
  have hfree : ∀ y ∈ scope.names, y.2 = .free → ∃ c, X.env.cells.lookup y.1 = some c := fun y hy e => by
    rcases ok.free y hy e with k | k
    · exact I.ok.has _ (.inl k)
    · exact I.ok.has _ (.inr k)
  have hsz : h'.objs.size = s.heap.objs.size + 1 := by rw [hs.1, Heap.size_push]
  have kp0 : ∀ b o, s.heap.get? b = some o → h'.get? b = some o := fun b o e => hs.extBut b o (Nat.ne_of_lt (Heap.lt_size e)) (Heap.get?_push_of_some _ e)
  have kp : ∀ b o, s.heap.get? b = some o → (h'.push go).get? b = some o := fun b o e => Heap.get?_push_of_some _ (kp0 b o e)
  have cm : ∀ {y c}, (y, c) ∈ cloFrom X.env.cells scope.names [] → X.env.cells.lookup y = some c ∧ c < s.heap.objs.size := fun {y c} hm => by
    rcases cloFrom_mem hm with hm | ⟨h1, rfl⟩
    · cases hm
    · obtain ⟨c, hc⟩ := hfree _ h1 rfl
      rw [hc]
      obtain ⟨w, z⟩ := I.cell _ _ hc
      exact ⟨rfl, z.lt⟩
  have look : ∀ {y}, scope.names.lookup y = some .free → ∃ c, (cloFrom X.env.cells scope.names []).lookup y = some c ∧ X.env.cells.lookup y = some c := fun {y} hl => by
    have hy : (y, NameKind.free) ∈ scope.names := PySem.mem_of_lookup hl
    obtain ⟨c', e'⟩ := mem_lookup (cloFrom_has (cells := X.env.cells) (acc := []) hy)
    exact ⟨c', e', (cm (PySem.mem_of_lookup e')).1⟩
  have okB : (gcx X s H scope (cloFrom X.env.cells scope.names []) s.heap.objs.size code fp).Ok := by
    refine ⟨I.ok.mod, ok.kind, I.ok.glob, rfl, Nat.le_refl _, fun y z c e1 e2 => ?_, fun y hy => ?_, fun y c z e => ?_, fun _ => I.ok.hd hc, Around.frames_deeper I.ok.frames, .inr ⟨rfl, rfl⟩, fun b hb => ⟨?_, fun y c e z => ?_⟩, I.bs, Nat.le_trans I.ok.bsz I.sz, fun b o e hb => ?_, fun b hb z => ?_, I.stack, I.stkFree⟩
    · exact I.ok.inj y z c (cm (PySem.mem_of_lookup e1)).1 (cm (PySem.mem_of_lookup e2)).1
    · have hy : scope.names.lookup y = some .cell ∨ scope.names.lookup y = some .free := hy
      rcases hy with hy | hy
      · exact absurd rfl (hncell _ (PySem.mem_of_lookup hy))
      · obtain ⟨c, h1, _⟩ := look hy
        exact ⟨c, h1⟩
    · exact absurd (show false = true from z) Bool.false_ne_true
    · exact Nat.ne_of_lt (hfp b hb).2
    · exact (hfp b hb).1.2.2.2.2.1 y c (cm (PySem.mem_of_lookup e)).1 z
    · rcases (hfp b hb).1.2.2.2.1 with z | z
      · exact I.ok.noex b o e z
      · exact absurd (Nat.lt_of_lt_of_le (Heap.lt_size e) (Nat.le_trans I.ok.bsz z)) (Nat.lt_irrefl _)
    · rcases List.mem_cons.mp (I.stkSub b z) with z | z
      · exact (hfp b hb).1.2.1 z
      · exact (hfp b hb).1.2.2.1 z
  have fr : ∀ b, s.heap.objs.size ≤ b → H b = none := fun b hb => I.hok.fresh hb
  refine ⟨okB, rfl, hG, Un.kept kp, ⟨_, hn.push _, fun i y av e1 e2 e3 => ?_⟩, fun y c e => ?_, fr _ (Nat.le_refl _), fun y c e => ?_, fun p hp => ?_, I.hok.kept kp, by rw [wipe_length]; exact I.len⟩
  · obtain ⟨e2, hne⟩ := wipe_some e2
    have hfr : scope.names.lookup y = some .free := by
      have no : ∀ k, (y, k) ∈ scope.names → ¬ (k = .local ∨ k = .cell) := fun k hm hh => by
        rcases ok.own _ hm hh with e' | e'
        · obtain ⟨p, hp, hpy⟩ := List.mem_map.mp e'
          have e3 := ok.ix p hp
          have : p.1 = y := hpy
          rw [this] at e3
          exact hne (List.mem_map.mpr ⟨p, hp, nodup_ix hN e3 e1⟩)
        · exact e' (List.mem_of_getElem? e1)
      have e3 : Vis scope y := e3
      rcases e3 with e3 | e3 | e3
      · exact absurd (.inl rfl) (no _ (PySem.mem_of_lookup e3))
      · exact absurd (.inr rfl) (no _ (PySem.mem_of_lookup e3))
      · exact e3
    obtain ⟨m, hn, hl⟩ := I.loc
    have hvis : Vis X.env.scope y := (ok.free _ (PySem.mem_of_lookup hfr) rfl).elim (fun k => .inr (.inl k)) (fun k => .inr (.inr k))
    obtain ⟨w, r, q⟩ := hl i y av e1 e2 hvis
    refine ⟨w, r, .inr ⟨.inr hfr, ?_⟩⟩
    obtain ⟨c, h1, h2⟩ := look hfr
    rcases q with ⟨k, _⟩ | ⟨_, c', e', z⟩
    · have k : X.env.scope.names.lookup y = some .local := k
      rcases ok.free _ (PySem.mem_of_lookup hfr) rfl with k' | k' <;> rw [show X.env.scope.names.lookup y = _ from k'] at k <;> cases k
    · rw [h2] at e'; cases e'
      exact ⟨c, h1, z.keeps kp⟩
  · obtain ⟨w, z⟩ := I.cell y c (cm (PySem.mem_of_lookup e)).1
    exact ⟨w, z.keeps kp⟩
  · exact I.freeC y c (cm (PySem.mem_of_lookup e)).1
  · have hp : p ∈ ([] : List (Addr × Obj)) ++ [(h'.objs.size, go)] := hp
    rw [List.nil_append, List.mem_singleton] at hp
    subst hp
    refine ⟨hgp, fr _ (by show s.heap.objs.size ≤ h'.objs.size; omega), ?_, fun z => ?_, hgo⟩
    · show h'.objs.size ≠ s.heap.objs.size; omega
    · rcases List.mem_cons.mp (I.stkSub _ z) with z | z
      · have := I.lt; rw [← z] at this; show False; have h2 : h'.objs.size < s.heap.objs.size := this; omega
      · exact I.nofs (show s.heap.objs.size ≤ h'.objs.size by omega) z

/-- what the consumer may do between two items -/
structure Slept0 (s s' : Shared) : Prop where
  os : s'.os = s.os
  bare : AllBare s'.gens
  keep : ∀ b o, s.heap.get? b = some o → s'.heap.get? b = some o
theorem Slept0.inv {Y : Cx} {pins : List (Addr × Obj)} {σ : L2.St} {H : Hp} {s s' : Shared} (z : Slept0 s s') (I : Inv Y pins σ H s) : Inv Y pins σ H s' :=
  I.call' (ch := []) z.os (Un.kept z.keep) (I.hok.kept z.keep) z.bare fun b hb => absurd hb (by simp)

/-- the reading: d is the truth that ends the walk (all: False, any: True) -/
@[irreducible] def tGen (d : Bool) (P : Addr) (wi : TI) (g : TG) (te : TE) (vs : List Nat) : TE := fun σ H Q => wi σ H fun J H1 => TabG H1 P ∧ ∀ H2, Tabbed P H1 H2 →
  ∃ W : Nat → Nat → Hp → Prop, (∃ m, W 0 m H2) ∧ ∀ i m H, W i m H →
    (J.stop i H ∧ Q (.bl (!d)) H) ∨ (J.go i H ∧ ∃ Nx : Hp → Prop, (∀ H', Nx H' → ∃ m', m' < m ∧ W (i + 1) m' H') ∧
      ∀ x H', J.yld i H x H' → g x (wipe σ vs) H' fun σ2 H3 => wipe σ2 vs = wipe σ vs ∧ te σ2 H3 fun y H4 => ∃ b, y = .bl b ∧ (b = d → Q (.bl d) H4) ∧ (b ≠ d → Nx H4))
end

/-- an item is handed out -/
def gY (Y : Cx) (pn : List (Addr × Obj)) (σw : L2.St) (d : Bool) (Q : VK) : Protocol := fun _ _ v s kap =>
  ∃ b H', v = .bool b ∧ Inv Y pn σw H' s ∧ (b = d → Q (.bl d) H') ∧ (b ≠ d → ∀ s'', Slept0 s s'' → kap (.send .none) s'')
def gP (Y : Cx) (pn : List (Addr × Obj)) (σw : L2.St) (d : Bool) (Q : VK) : Nat → Shared → Shared → Prop := fun _ _ s => ∃ H', Inv Y pn σw H' s ∧ Q (.bl (!d)) H'
def gR (Y : Cx) (pn : List (Addr × Obj)) (σw : L2.St) (d : Bool) (Q : VK) : GenEnd := fun n s₀ r s => r = .ok .next ∧ gP Y pn σw d Q n s₀ s

section
variable {Y : Cx} {A : Around} {elt tg iter : Expr} {scope : Scope} {pos : Pos} {it : Addr} {fp : List Addr} {tn : Nat → Heap → Prop} {J : It} {pn : List (Addr × Obj)} {σ : L2.St} {vs : List Nat} {d : Bool} {Q : VK} {g : TG} {te : TE} {W : Nat → Nat → Hp → Prop}
theorem seg_loop (hA : Y.A = A.deeper Y.env) (hcalm : Y.calm = true) (hco : Y.env.scope.isCoroutine = false) (hxe : Y.xe = fun _ _ => False)
    (T : Turn Y.prog Y.w Y.K tg J fp it tn) (hex : Y.ex = fp) (hpn : ∀ b ∈ fp, ∀ p ∈ Y.pn ++ pn, p.1 ≠ b) (pg : PG Y tg g) (pe : PE Y elt te)
    (turn : ∀ i m H, W i m H → (J.stop i H ∧ Q (.bl (!d)) H) ∨ (J.go i H ∧ ∃ Nx : Hp → Prop, (∀ H', Nx H' → ∃ m', m' < m ∧ W (i + 1) m' H') ∧
      ∀ x H', J.yld i H x H' → g x (wipe σ vs) H' fun σ2 H3 => wipe σ2 vs = wipe σ vs ∧ te σ2 H3 fun y H4 => ∃ b, y = .bl b ∧ (b = d → Q (.bl d) H4) ∧ (b ≠ d → Nx H4))) :
    ∀ (n m i : Nat) (s₀ s : Shared) (H : Hp), m < n → W i m H → Inv Y pn (wipe σ vs) H s → tn i s.heap → (∀ b ∈ fp, H b = none) →
      Seg (model Y.prog Y.w) A (gR Y pn (wipe σ vs) d Q) (gY Y pn (wipe σ vs) d Q) n s₀ (.compLoop (.GeneratorExp elt [⟨tg, iter, [], 0⟩] scope pos) 0 (.ref it) .none Y.env)
        ((model Y.prog Y.w).den (.compLoop (.GeneratorExp elt [⟨tg, iter, [], 0⟩] scope pos) 0 (.ref it) .none Y.env)) [] s := by
  have eA : A.over (.compLoop (.GeneratorExp elt [⟨tg, iter, [], 0⟩] scope pos) 0 (.ref it) .none Y.env) [] = Y.A := by rw [over_gen, hA]
  have stat : ∀ {σ' : L2.St} {H' : Hp} {s' : Shared}, Inv Y pn σ' H' s' → (∀ b ∈ fp, H' b = none) → ∀ b ∈ fp, FpOk Y pn H' b := fun {σ' H' s'} I' hn b hb =>
    ⟨hn b hb, (I'.ok.exf b (by rw [hex]; exact hb)).1, I'.ok.exfs b (by rw [hex]; exact hb), .inl (by rw [hex]; exact hb), fun x c e => (I'.ok.exf b (by rw [hex]; exact hb)).2 x c e, hpn b hb⟩
  intro n
  induction n with
  | zero => intro m i s₀ s H hm; exact absurd hm (Nat.not_lt_zero _)
  | succ n ih =>
    intro m i s₀ s H hm w I st hnf
    show Seg _ A _ _ _ s₀ _ ((compTurn (.GeneratorExp elt [⟨tg, iter, [], 0⟩] scope pos) 0 (.ref it) .none Y.env).onRaise (leaving Y.env)) [] s
    rw [compTurn_gen, Sem.onRaise_eq_wrap]
    refine seg_bind_wrap (wpAny_standAt ?_)
    rcases turn i m H w with ⟨stop, q⟩ | ⟨go, Nx, hNx, step⟩
    · refine seg_bind_wrap ?_
      rw [eA]
      refine thnF (T.done Y rfl rfl rfl hcalm i pn s _ H (fun _ _ => False) I (stat I hnf) st stop) fun r s1 ⟨hr, I1⟩ => ?_
      subst hr
      exact seg_end (.ok .next) ⟨rfl, H, I1, q⟩
    · refine seg_bind_wrap ?_
      rw [eA]
      refine thnF (T.item Y rfl rfl rfl hcalm i pn s _ H (fun _ _ => False) I (stat I hnf) st go) fun r s1 ⟨u, hr, h1⟩ => ?_
      subst hr
      refine seg_bind_wrap ?_
      rw [eA]
      refine thnF h1 fun _ s2 ⟨x, H2, I2, r2, y2, st2, n2⟩ => ?_
      have I2' := I2.pinned (stat I2 n2) (T.obj _ _ st2)
      refine seg_bind_wrap ?_
      rw [eA]
      have pgr := pg.run _ s2 _ H2 x u _ I2' r2 (step x H2 y2)
      rw [hxe] at pgr
      refine thnF pgr fun _ s3 ⟨σ3, H3, I3, hw3, q3⟩ => ?_
      refine seg_bind_wrap (wpAny_tests_nil ?_)
      simp only [if_true]
      have hy : ∀ v, yieldOut Y.env v = yieldValue v := fun v => by simp only [yieldOut, hco, Bool.false_eq_true, if_false]
      simp only [hy]
      rw [Sem.bind_eq_wrap', Sem.bind_eq_wrap', Sem.wrap_wrap, Sem.wrap_wrap]
      refine seg_wrap ?_
      rw [eA]
      have per := pe.run _ s3 σ3 H3 _ I3 q3
      rw [hxe] at per
      refine thnF per fun yv s4 ⟨y, H4, I4, r4, b, hb, q1, q2⟩ => ?_
      subst hb
      cases r4
      have pin' : ∀ b ∈ fp, ∀ o, s2.heap.get? b = some o → s4.heap.get? b = some o ∧ H4 b = none := fun b hb o e =>
        let z := I4.pin (b, o) (List.mem_append_right _ (List.mem_append_right _ (mem_pinsAt hb e)))
        ⟨z.1, z.2.1⟩
      have hl : (wipe σ vs).length = σ3.length := by rw [← hw3, wipe_length]
      have I4' : Inv Y pn (wipe σ vs) H4 s4 := (I4.unpinned (pins := pn)).weak hl fun j v e => by
        rw [← hw3] at e
        exact (wipe_some e).1
      have st4 : tn (i + 1) s4.heap := T.keep _ _ _ st2 fun b hb o e => (pin' b hb o e).1
      have n4 : ∀ b ∈ fp, H4 b = none := fun b hb => by
        obtain ⟨o, e, _⟩ := T.obj _ _ st2 b hb
        exact (pin' b hb o e).2
      refine seg_at (seg_yield rfl rfl rfl ⟨b, H4, rfl, I4', q1, fun hne s'' z => ?_⟩)
      obtain ⟨m', hm', w'⟩ := hNx H4 (q2 hne)
      exact seg_again rfl (ih m' (i + 1) s'' s'' H4 (by omega) w' (z.inv I4') (T.keep _ _ _ st4 fun b _ o e => z.keep b o e) n4)

theorem seg_start (hA : Y.A = A.deeper Y.env) (hcalm : Y.calm = true) (hco : Y.env.scope.isCoroutine = false) (hxe : Y.xe = fun _ _ => False)
    (T : Turn Y.prog Y.w Y.K tg J fp it tn) (hex : Y.ex = fp) (hpn : ∀ b ∈ fp, ∀ p ∈ Y.pn ++ pn, p.1 ≠ b) (pg : PG Y tg g) (pe : PE Y elt te)
    (turn : ∀ i m H, W i m H → (J.stop i H ∧ Q (.bl (!d)) H) ∨ (J.go i H ∧ ∃ Nx : Hp → Prop, (∀ H', Nx H' → ∃ m', m' < m ∧ W (i + 1) m' H') ∧
      ∀ x H', J.yld i H x H' → g x (wipe σ vs) H' fun σ2 H3 => wipe σ2 vs = wipe σ vs ∧ te σ2 H3 fun y H4 => ∃ b, y = .bl b ∧ (b = d → Q (.bl d) H4) ∧ (b ≠ d → Nx H4)))
    (m : Nat) (s₀ s : Shared) (H : Hp) (w : W 0 m H) (I : Inv Y pn (wipe σ vs) H s) (st : tn 0 s.heap) (hnf : ∀ b ∈ fp, H b = none) :
      Seg (model Y.prog Y.w) A (gR Y pn (wipe σ vs) d Q) (gY Y pn (wipe σ vs) d Q) (m + 1) s₀ (.compStart (.GeneratorExp elt [⟨tg, iter, [], 0⟩] scope pos) 0 (.ref it) .none Y.env)
        ((model Y.prog Y.w).den (.compStart (.GeneratorExp elt [⟨tg, iter, [], 0⟩] scope pos) 0 (.ref it) .none Y.env)) [] s := by
  have loop := seg_loop (iter := iter) (scope := scope) (pos := pos) hA hcalm hco hxe T hex hpn pg pe turn (m + 1) m 0 s₀ s H (Nat.lt_succ_self _) w I st hnf
  show Seg _ A _ _ _ s₀ _ ((compStart (.GeneratorExp elt [⟨tg, iter, [], 0⟩] scope pos) 0 (.ref it) .none Y.env).onRaise (leaving Y.env)) [] s
  unfold compStart
  rw [Sem.onRaise_eq_wrap]
  show Seg _ A _ _ _ s₀ _ ((ask >>= _).wrap _ _ _ _) [] s
  refine seg_bind_wrap (wpAny_askSetting ?_)
  split
  · exact seg_again rfl loop
  · first
      | exact seg_bind_wrap (wpAny_rule (seg_bind_wrap (wpAny_standAt (seg_bind_wrap (T.self _ 0 s _ _ st (seg_again rfl loop))))))
      | (refine seg_bind_wrap (wpAny_rule ?_); show Seg _ A _ _ _ s₀ _ ((standAt iter.pos >>= _).wrap _ _ _ _) [] s; exact seg_bind_wrap (wpAny_standAt (seg_bind_wrap (T.self _ 0 s _ _ st (seg_again rfl loop)))))
end

/-- the generator between two items: at most n more -/
def Waits (Y : Cx) (pn : List (Addr × Obj)) (σw : L2.St) (d : Bool) (Q : VK) (A : Around) (g n : Nat) (s : Shared) : Prop :=
  (∃ H, Inv Y pn σw H s) ∧ ∃ gs, s.gens[g]? = some gs ∧ ∀ s'', Slept0 s s'' → gs.Goes (model Y.prog Y.w) A (gR Y pn σw d Q) (gY Y pn σw d Q) n (.send .none) s''
section
variable {Y : Cx} {A : Around} {pn : List (Addr × Obj)} {σw : L2.St} {d : Bool} {Q : VK} {a : Addr} {go : Obj} {g : Nat}
theorem next_gen {n : Nat} {s : Shared} {Kp : Option Value → Shared → Prop} {E : Value → Shared → Prop} (hh : A.handled = none) (hroom : A.depth < recursionLimit) (hpn : (a, go) ∈ Y.pn ++ pn)
    (hgo : ∀ h : Heap, h.get? a = some go → h.IsGen a g) (w : Waits Y pn σw d Q A.in1 g n s)
    (hstop : ∀ s' H', Inv Y pn σw H' s' → Q (.bl (!d)) H' → Kp none s')
    (hitem : ∀ b s' H', Inv Y pn σw H' s' → (b = d → Q (.bl d) H') → (b ≠ d → ∃ m, n = m + 1 ∧ Waits Y pn σw d Q A.in1 g m s') → Kp (some (.bool b)) s') :
    wpAny (model Y.prog Y.w) A (pyNext (.ref a)) Kp E s := by
  obtain ⟨⟨H, I⟩, gs, hgs, hgoes⟩ := w
  have hg : s.heap.IsGen a g := hgo _ (I.pin (a, go) hpn).1
  have hlt : g + 1 ≤ s.gens.size := (Array.getElem?_eq_some_iff.mp hgs).1
  refine wpAny_gsz hlt ?_
  refine wpAny_pyNext_genexpQ (P := gP Y pn σw d Q) hh I.nolimit hroom hg hgs (hgoes _ ⟨rfl, allBare_setGen I.bare rfl, fun _ _ e => e⟩) (fun v s₁ gs' hb hv hsz => ?_) (fun s₁ hp h' hk hsz => ?_)
  · obtain ⟨b, H', rfl, I', q1, q2⟩ := hv
    have hlt1 : g < s₁.gens.size := by
      have e := setGen_size s₁ g gs'
      omega
    have z1 : Slept0 s₁ (s₁.setGen g gs') := ⟨rfl, allBare_setGen I'.bare hb, fun _ _ e => e⟩
    refine hitem b _ H' (z1.inv I') q1 fun hne => ?_
    cases n with
    | zero => exact (q2 hne s₁ ⟨rfl, I'.bare, fun _ _ e => e⟩).elim
    | succ m =>
      refine ⟨m, rfl, ⟨H', z1.inv I'⟩, gs', setGen_self (Array.getElem?_eq_getElem hlt1), fun s'' z => ?_⟩
      exact q2 hne s'' ⟨z.os.trans z1.os, z.bare, fun b o e => z.keep b o (z1.keep b o e)⟩
  · obtain ⟨H', I', q⟩ := hp
    have z1 : Slept0 s₁ { s₁.setGen g .finished with heap := h' } := ⟨rfl, allBare_setGen I'.bare rfl, hk⟩
    exact hstop _ H' (z1.inv I') q
end

section
variable {Y : Cx} {A : Around} {pn : List (Addr × Obj)} {σw : L2.St} {Q : VK} {a : Addr} {go : Obj} {g : Nat}
theorem all_loop {R : Result → Shared → Prop} (hh : A.handled = none) (hroom : A.depth < recursionLimit) (hpn : (a, go) ∈ Y.pn ++ pn)
    (hgo : ∀ h : Heap, h.get? a = some go → h.IsGen a g) (hR : ∀ b s' H', Inv Y pn σw H' s' → Q (.bl b) H' → R (.ok (.ret (.bool b))) s') :
    ∀ (n : Nat) (s : Shared), Waits Y pn σw false Q A.in1.in1 g n s → codeAny (model Y.prog Y.w) A (.builtin "all.loop" ⟨[.ref a], []⟩) R s := by
  intro n
  induction n with
  | zero =>
    intro s w
    refine codeAny_builtin F.entry_all_loop ?_
    rw [Around.under_plainId F.plain_all_loop _]
    show wpAny _ A.in1 (pyNext (.ref a) >>= _) _ _ s
    refine wpAny_bind (next_gen (A := A.in1) hh hroom hpn hgo w (fun s' H' I' q => ?_) fun b s' H' I' q1 q2 => ?_)
    · exact wpAny_bind (wpAny_rule (wpAny_pure (hR true s' H' I' q)))
    · refine wpAny_bind (wpAny_holding (wpAny_truthy_bool ?_))
      refine wpAny_bind (wpAny_letGo ?_)
      cases b with
      | true => obtain ⟨m, e, _⟩ := q2 (by decide); exact absurd e (by omega)
      | false =>
        simp only [Bool.false_eq_true, if_false]
        exact wpAny_bind (wpAny_rule (wpAny_pure (hR false s' H' I' (q1 rfl))))
  | succ n ih =>
    intro s w
    refine codeAny_builtin F.entry_all_loop ?_
    rw [Around.under_plainId F.plain_all_loop _]
    show wpAny _ A.in1 (pyNext (.ref a) >>= _) _ _ s
    refine wpAny_bind (next_gen (A := A.in1) hh hroom hpn hgo w (fun s' H' I' q => ?_) fun b s' H' I' q1 q2 => ?_)
    · exact wpAny_bind (wpAny_rule (wpAny_pure (hR true s' H' I' q)))
    · refine wpAny_bind (wpAny_holding (wpAny_truthy_bool ?_))
      refine wpAny_bind (wpAny_letGo ?_)
      cases b with
      | true =>
        obtain ⟨m, e, w'⟩ := q2 (by decide)
        simp only [if_true]
        obtain rfl : n = m := by omega
        exact wpAny_pure ⟨plainId_quiet F.plain_all_loop _, ih s' w'⟩
      | false =>
        simp only [Bool.false_eq_true, if_false]
        exact wpAny_bind (wpAny_rule (wpAny_pure (hR false s' H' I' (q1 rfl))))
theorem any_loop {R : Result → Shared → Prop} (hh : A.handled = none) (hroom : A.depth < recursionLimit) (hpn : (a, go) ∈ Y.pn ++ pn)
    (hgo : ∀ h : Heap, h.get? a = some go → h.IsGen a g) (hR : ∀ b s' H', Inv Y pn σw H' s' → Q (.bl b) H' → R (.ok (.ret (.bool b))) s') :
    ∀ (n : Nat) (s : Shared), Waits Y pn σw true Q A.in1.in1 g n s → codeAny (model Y.prog Y.w) A (.builtin "any.loop" ⟨[.ref a], []⟩) R s := by
  intro n
  induction n with
  | zero =>
    intro s w
    refine codeAny_builtin F.entry_any_loop ?_
    rw [Around.under_plainId F.plain_any_loop _]
    show wpAny _ A.in1 (pyNext (.ref a) >>= _) _ _ s
    refine wpAny_bind (next_gen (A := A.in1) hh hroom hpn hgo w (fun s' H' I' q => ?_) fun b s' H' I' q1 q2 => ?_)
    · exact wpAny_bind (wpAny_rule (wpAny_pure (hR false s' H' I' q)))
    · refine wpAny_bind (wpAny_holding (wpAny_truthy_bool ?_))
      refine wpAny_bind (wpAny_letGo ?_)
      cases b with
      | false => obtain ⟨m, e, _⟩ := q2 (by decide); exact absurd e (by omega)
      | true =>
        simp only [if_true]
        exact wpAny_bind (wpAny_rule (wpAny_pure (hR true s' H' I' (q1 rfl))))
  | succ n ih =>
    intro s w
    refine codeAny_builtin F.entry_any_loop ?_
    rw [Around.under_plainId F.plain_any_loop _]
    show wpAny _ A.in1 (pyNext (.ref a) >>= _) _ _ s
    refine wpAny_bind (next_gen (A := A.in1) hh hroom hpn hgo w (fun s' H' I' q => ?_) fun b s' H' I' q1 q2 => ?_)
    · exact wpAny_bind (wpAny_rule (wpAny_pure (hR false s' H' I' q)))
    · refine wpAny_bind (wpAny_holding (wpAny_truthy_bool ?_))
      refine wpAny_bind (wpAny_letGo ?_)
      cases b with
      | false =>
        obtain ⟨m, e, w'⟩ := q2 (by decide)
        simp only [Bool.false_eq_true, if_false]
        obtain rfl : n = m := by omega
        exact wpAny_pure ⟨plainId_quiet F.plain_any_loop _, ih s' w'⟩
      | true =>
        simp only [if_true]
        exact wpAny_bind (wpAny_rule (wpAny_pure (hR true s' H' I' (q1 rfl))))
end

/-- the generator over the walked thing, made -/
theorem gen_make {X : Cx} {pins : List (Addr × Obj)} {σ : L2.St} {H : Hp} {s : Shared} {c P : Addr} {elt tg iter : Expr} {gpos : Pos} {scope : Scope} {own : List (Str × Nat)} {wi : TI} {g : TG} {te : TE} {d : Bool} {k : Nat} {Q : VK} {Q' : Value → Shared → Prop}
    (hc : X.calm = true) (hN : X.N.Nodup) (hr : Room k X.A) (TB : TabB X.base X.mg c P) (hcode : X.env.code = .ref c) (ok : BlkOk X.N X.env.scope scope own) (hncell : ∀ y ∈ scope.names, y.2 ≠ .cell) (h0 : scope.names.lookup (".0" : Str) = some .local) (hco : scope.isCoroutine = false)
    (hi : PI X tg iter wi) (hg : ∀ (s : Shared) (H : Hp) (cl : List (Str × Addr)) (C : Addr) (code : Value) (fp : List Addr), PG (gcx X s H scope cl C code fp) tg g)
    (he : ∀ (s : Shared) (H : Hp) (cl : List (Str × Addr)) (C : Addr) (code : Value) (fp : List Addr), PE (gcx X s H scope cl C code fp) elt te)
    (hs : ∀ v, genFold iter X.env v = pure v) (I : Inv X pins σ H s) (h : tGen d P wi g te (own.map (·.2)) σ H Q)
    (hQ : ∀ (Y : Cx) (pn : List (Addr × Obj)) (σw : L2.St) (a : Addr) (go : Obj) (gn n : Nat) (s5 : Shared), Y.prog = X.prog → Y.w = X.w → (a, go) ∈ Y.pn ++ pn → (∀ h : Heap, h.get? a = some go → h.IsGen a gn) → s5.heap.get? a = some go → Waits Y pn σw d Q X.A.in1.in1 gn n s5 →
      (∀ s' H' v, Inv Y pn σw H' s' → Q v H' → ∃ H'', Inv X pins σ H'' s' ∧ Q v H'') → Q' (.ref a) s5) :
    wpAny (model X.prog X.w) X.A (eval (.GeneratorExp elt [⟨tg, iter, [], 0⟩] scope gpos) X.env) Q' X.xe s := by
  unfold tGen at h
  have hfree : ∀ y ∈ scope.names, y.2 = .free → ∃ c, X.env.cells.lookup y.1 = some c := fun y hy e => by
    rcases ok.free y hy e with k | k
    · exact I.ok.has _ (.inl k)
    · exact I.ok.has _ (.inr k)
  refine wpAny_GeneratorExp_make hco (closure_ok hfree) hncell h0 ok.kind (by have := hr.dp; omega) (thn (hi.run pins s σ H _ I h) fun xv s1 hx => thn hx fun itv s2 h2 => ?_) hs
  obtain ⟨it, fp, tn, J, H2, e, I2, T, st2, f2, ⟨ps, hP, ht⟩, q⟩ := h2
  subst e
  refine ⟨I2.nolimit, ?_⟩
  have hP2 : s2.heap.get? P = some { cls := .none, data := .fields ps } := I2.hok P _ hP
  have cd : PySem.W.CodeHd s2.heap c P := TB.code.keeps fun b u e => I2.bk b u e
  have fpP : ∀ b ∈ fp, b ≠ P := fun b hb e => by
    have z := (f2 b hb).1
    rw [e, hP] at z; cases z
  have cont : ∀ (code : Value) (h3 : Heap) (tk : Nat) (ps' : Array Value), Heap.ExtBut P s2.heap h3 → h3.get? P = some { cls := .none, data := .fields ps' } → (∃ more, ps' = ps ++ more) → TriplesOk ps'.toList →
      wpAny (model X.prog X.w) X.A (builtinsFor X.env.globals X.env.builtins) (fun bi s₄ =>
        ∀ h', h'.Ns s₄.heap.objs.size (fun y => if y = (".0" : Str) then some (.ref it) else none) → Heap.SameBut s₄.heap.objs.size (s₄.heap.push { cls := .type "frame", data := .dict #[] }) h' →
          Q' (.ref h'.objs.size) { s₄ with
            gens := s₄.gens.push (.fresh (.compStart (.GeneratorExp elt [⟨tg, iter, [], 0⟩] scope gpos) 0 (.ref it) .none (genEnv scope (cloFrom X.env.cells scope.names []) s₄.heap.objs.size code bi X.env))),
            toks := s₄.toks + 1 + 1 + 1,
            heap := h'.push { cls := .type "generator", data := .fields #[.int s₄.gens.size 0, .str "<genexpr>" (s₄.toks + 1), .str (X.env.qual ++ "<genexpr>") (s₄.toks + 1 + 1)] } }) X.xe { s2 with heap := h3, toks := tk } := by
    intro code h3 tk ps' hx hP3 hmore ht3
    obtain ⟨more, em⟩ := hmore
    obtain ⟨bm, ob, e1, e2, e3, e4, e5, e6, e7, e8⟩ := TB.bm
    have I3 : Inv X pins σ (upd H2 P (.tbl (ps ++ more))) { s2 with heap := h3, gens := s2.gens, drawn := s2.drawn, toks := tk } := inv_tab I2 hP (fun b o hb e => hx b o hb e) (by rw [← em]; exact hP3) I2.bare
    have hTb : Tabbed P H2 (upd H2 P (.tbl (ps ++ more))) := ⟨⟨ps ++ more, upd_same, by rw [← em]; exact ht3⟩, fun b hb => upd_ne hb⟩
    obtain ⟨W, ⟨m0, w0⟩, turn⟩ := q _ hTb
    generalize upd H2 P (.tbl (ps ++ more)) = H3 at I3 w0 hTb
    generalize hs3 : ({ s2 with heap := h3, gens := s2.gens, drawn := s2.drawn, toks := tk } : Shared) = s3 at I3
    have eh3 : s3.heap = h3 := by rw [← hs3]
    have st3 : tn 0 s3.heap := T.keep _ _ _ st2 fun b hb o e => by rw [eh3]; exact hx b o (fpP b hb) e
    have f3 : ∀ b ∈ fp, FpOk X pins H3 b ∧ b < s3.heap.objs.size := fun b hb => by
      obtain ⟨o, e, _⟩ := T.obj _ _ st3 b hb
      exact ⟨⟨(hTb.2 b (fpP b hb)).trans (f2 b hb).1, (f2 b hb).2⟩, Heap.lt_size e⟩
    refine wpAny_builtinsFor (m := X.mg) (by rw [I3.ok.glob]; exact I3.ok.mod.glob.keeps I3.bk) e1 e2 (I3.bk _ _ e5) e6 e7 e8 ?_
    intro h' hn hsb
    have main : ∀ (go : Obj) (tk' : Nat), (∀ v, go.data ≠ .cell v) → (∀ (h : Heap) (a : Addr), h.get? a = some go → h.IsGen a s3.gens.size) → (h'.push go).get? h'.objs.size = some go →
        Q' (.ref h'.objs.size) { s3 with gens := s3.gens.push (.fresh (.compStart (.GeneratorExp elt [⟨tg, iter, [], 0⟩] scope gpos) 0 (.ref it) .none (genEnv scope (cloFrom X.env.cells scope.names []) s3.heap.objs.size code builtinsNs X.env))), toks := tk', heap := h'.push go } := by
      intro go tk' hgo hgen hgp
      have I5 := gen_start (code := code) (tk := tk') (it := .ref it) hc I3 ok hN f3 hncell hn hsb (I3.bare.push (g := .fresh (.compStart (.GeneratorExp elt [⟨tg, iter, [], 0⟩] scope gpos) 0 (.ref it) .none (genEnv scope (cloFrom X.env.cells scope.names []) s3.heap.objs.size code builtinsNs X.env))) rfl) hgo hgp h0
      have pgr := hg s3 H3 (cloFrom X.env.cells scope.names []) s3.heap.objs.size code fp
      have per := he s3 H3 (cloFrom X.env.cells scope.names []) s3.heap.objs.size code fp
      have kp0 : ∀ b o, s3.heap.get? b = some o → (h'.push go).get? b = some o := fun b o e => Heap.get?_push_of_some _ (hsb.extBut b o (Nat.ne_of_lt (Heap.lt_size e)) (Heap.get?_push_of_some _ e))
      have nf3 : ∀ b ∈ fp, H3 b = none := fun b hb => (f3 b hb).1.1
      have hsz : h'.objs.size = s3.heap.objs.size + 1 := by rw [hsb.1, Heap.size_push]
      refine hQ (gcx X s3 H3 scope (cloFrom X.env.cells scope.names []) s3.heap.objs.size code fp) [(h'.objs.size, go)] (wipe σ (own.map (·.2))) h'.objs.size go s3.gens.size (m0 + 1) _ rfl rfl (List.mem_append_right _ (List.mem_singleton.mpr rfl)) (fun h e => hgen h _ e) hgp
        ⟨⟨H3, I5⟩, _, Array.getElem?_push_size .., fun s'' z => ⟨rfl, ?_⟩⟩ (fun s' H' v I' qv => ⟨H', ?_, qv⟩)
      · refine seg_start (Y := gcx X s3 H3 scope (cloFrom X.env.cells scope.names []) s3.heap.objs.size code fp) (A := X.A.in1.in1) rfl rfl hco rfl T rfl (fun b hb p hp => ?_) pgr per turn m0 s'' s'' H3 w0 (z.inv I5) ?_ nf3
        · have hp : p ∈ ([] : List (Addr × Obj)) ++ [(h'.objs.size, go)] := hp
          rw [List.nil_append, List.mem_singleton] at hp
          subst hp
          have hlt := (f3 b hb).2
          intro e
          have e : h'.objs.size = b := e
          rw [← e, hsz] at hlt
          exact absurd hlt (Nat.not_lt.mpr (Nat.le_succ _))
        · exact T.keep _ _ _ st3 fun b _ o e => z.keep b o (kp0 b o e)
      · exact I3.call' (ch := fp) I'.os I'.base I'.hok I'.bare fun b hb => ⟨(f3 b hb).1.2.2.2.1, (f3 b hb).1.2.1, (f3 b hb).1.2.2.2.2.1, (f3 b hb).1.2.2.2.2.2⟩
    exact main _ _ (fun v e => by cases e) (fun h a e => ⟨_, _, _, e, rfl, rfl, rfl⟩) (Heap.get?_push_size _ rfl)
  cases hf : codeAmong gpos ps.toList with
  | none =>
    refine wpAny_genexprCodeX hcode (cd.code hP2 ht) (cd.tab hP2) hf fun c' h' tk hx hge hlt hco' _ htab' _ => ?_
    obtain ⟨o1, vs, f1, tf, fl, tg', inF, tx, tt, op, _, _, _, _, _, _, _, _, _, htr, _⟩ := hco'
    exact cont _ h' tk _ hx htab'.2 ⟨_, rfl⟩ htr
  | some cv =>
    refine wpAny_genexprCode_hit hcode (cd.code hP2 ht) hf ?_
    exact cont cv s2.heap s2.toks ps (Heap.ExtBut.refl _ _) hP2 ⟨#[], by simp⟩ ht

section
variable {X : Cx} {c P : Addr} {elt tg iter : Expr} {p pos gpos : Pos} {scope : Scope} {own : List (Str × Nat)} {wi : TI} {g : TG} {te : TE} {k : Nat}
/-- all(elt for tg in iter) -/
theorem pe_all (hr : Room k X.A) (hc : X.calm = true) (hN : X.N.Nodup) (hm : X.mg "all" = none) (TB : TabB X.base X.mg c P) (hcode : X.env.code = .ref c) (ok : BlkOk X.N X.env.scope scope own) (hi : PI X tg iter wi)
    (hg : ∀ (s : Shared) (H : Hp) (cl : List (Str × Addr)) (C : Addr) (code : Value) (fp : List Addr), PG (gcx X s H scope cl C code fp) tg g)
    (he : ∀ (s : Shared) (H : Hp) (cl : List (Str × Addr)) (C : Addr) (code : Value) (fp : List Addr), PE (gcx X s H scope cl C code fp) elt te)
    (hncell : ∀ y ∈ scope.names, y.2 ≠ .cell := by decide +kernel) (h0 : scope.names.lookup (".0" : Str) = some .local := by decide +kernel) (hco : scope.isCoroutine = false := by rfl) (hgl : Gl X "all" := by rfl) (hs : ∀ v, genFold iter X.env v = pure v := by intro _; rfl)
    (hst : starEach [.GeneratorExp elt [⟨tg, iter, [], 0⟩] scope gpos] X.env = (false, eval (.GeneratorExp elt [⟨tg, iter, [], 0⟩] scope gpos) X.env) :: starEach [] X.env := by rfl) :
    PE X (.Call (.Name "all" p) [.GeneratorExp elt [⟨tg, iter, [], 0⟩] scope gpos] [] pos) (tGen false P wi g te (own.map (·.2))) := by
  refine ⟨fun pins s σ H Q I h => ?_⟩
  refine wpAny_Call_Name_kw (ld_blt I hgl hm boot_all ?_)
  refine PyProof.Rows.callWith_builtin1 ?_ hst (by rfl)
  rw [hst]
  show wpAny _ _ (spliced ((false, eval (.GeneratorExp elt [⟨tg, iter, [], 0⟩] scope gpos) X.env) :: backTo pos (starEach [] X.env))) _ _ s
  refine Calls.spliced_cons (gen_make hc hN hr TB hcode ok hncell h0 hco hi hg he hs I h fun Y pn σw a go gn n s5 e1 e2 hpn hgo hat w back => ?_)
  refine Calls.spliced_nil ?_
  refine call_function_tree F.kind_all F.plain_all F.entry_all (F.args_all1 _) ?_
  unfold Builtin.«all»
  refine wpAny_bind (m := oneArg "all" _) (wpAny_pure ?_)
  refine wpAny_bind (wpAny_pyIter_gen (hgo _ hat) ?_)
  refine wpAny_pure ⟨plainId_quiet F.plain_all_loop _, ?_⟩
  rw [← e1, ← e2]
  refine all_loop (A := X.A) hr.hd (by have := hr.dp; omega) hpn hgo (fun b s' H' I' q => ?_) n s5 w
  obtain ⟨H'', I'', q''⟩ := back s' H' (.bl b) I' q
  exact ⟨.bl b, H'', I'', rfl, q''⟩
/-- any(elt for tg in iter) -/
theorem pe_any (hr : Room k X.A) (hc : X.calm = true) (hN : X.N.Nodup) (hm : X.mg "any" = none) (TB : TabB X.base X.mg c P) (hcode : X.env.code = .ref c) (ok : BlkOk X.N X.env.scope scope own) (hi : PI X tg iter wi)
    (hg : ∀ (s : Shared) (H : Hp) (cl : List (Str × Addr)) (C : Addr) (code : Value) (fp : List Addr), PG (gcx X s H scope cl C code fp) tg g)
    (he : ∀ (s : Shared) (H : Hp) (cl : List (Str × Addr)) (C : Addr) (code : Value) (fp : List Addr), PE (gcx X s H scope cl C code fp) elt te)
    (hncell : ∀ y ∈ scope.names, y.2 ≠ .cell := by decide +kernel) (h0 : scope.names.lookup (".0" : Str) = some .local := by decide +kernel) (hco : scope.isCoroutine = false := by rfl) (hgl : Gl X "any" := by rfl) (hs : ∀ v, genFold iter X.env v = pure v := by intro _; rfl)
    (hst : starEach [.GeneratorExp elt [⟨tg, iter, [], 0⟩] scope gpos] X.env = (false, eval (.GeneratorExp elt [⟨tg, iter, [], 0⟩] scope gpos) X.env) :: starEach [] X.env := by rfl) :
    PE X (.Call (.Name "any" p) [.GeneratorExp elt [⟨tg, iter, [], 0⟩] scope gpos] [] pos) (tGen true P wi g te (own.map (·.2))) := by
  refine ⟨fun pins s σ H Q I h => ?_⟩
  refine wpAny_Call_Name_kw (ld_blt I hgl hm boot_any ?_)
  refine PyProof.Rows.callWith_builtin1 ?_ hst (by rfl)
  rw [hst]
  show wpAny _ _ (spliced ((false, eval (.GeneratorExp elt [⟨tg, iter, [], 0⟩] scope gpos) X.env) :: backTo pos (starEach [] X.env))) _ _ s
  refine Calls.spliced_cons (gen_make hc hN hr TB hcode ok hncell h0 hco hi hg he hs I h fun Y pn σw a go gn n s5 e1 e2 hpn hgo hat w back => ?_)
  refine Calls.spliced_nil ?_
  refine call_function_tree F.kind_any F.plain_any F.entry_any (F.args_any1 _) ?_
  unfold Builtin.«any»
  refine wpAny_bind (m := oneArg "any" _) (wpAny_pure ?_)
  refine wpAny_bind (wpAny_pyIter_gen (hgo _ hat) ?_)
  refine wpAny_pure ⟨plainId_quiet F.plain_any_loop _, ?_⟩
  rw [← e1, ← e2]
  refine any_loop (A := X.A) hr.hd (by have := hr.dp; omega) hpn hgo (fun b s' H' I' q => ?_) n s5 w
  obtain ⟨H'', I'', q''⟩ := back s' H' (.bl b) I' q
  exact ⟨.bl b, H'', I'', rfl, q''⟩
end
end GA
#print axioms GA.pe_all
#print axioms GA.pe_any

-- part GenSetA
set_option Elab.async false
set_option linter.all false
set_option maxRecDepth 100000
set_option maxHeartbeats 4000000
/-! len(set(xs)) of texts, any number below the line; written dicts asked; products of great ints; defs with their code told -/
namespace GS
open PySem PySem.Spec PyProof.Rows L2 SS
/-- the different ones, in their order -/
def dis (l : List Str) : List Str := l.foldl (fun a x => if a.contains x then a else a ++ [x]) []
theorem dis_snoc (l : List Str) (x : Str) : dis (l ++ [x]) = if (dis l).contains x then dis l else dis l ++ [x] := by
  unfold dis
  rw [List.foldl_append]
  rfl
theorem dis_any : ∀ (n : Nat) (l : List Str), l.length = n → ∀ k, (dis l).any (· == k) = l.any (· == k) := by
  intro n
  induction n with
  | zero =>
    intro l hl k
    rw [List.length_eq_zero_iff.mp hl]
    rfl
  | succ n ih =>
    intro l hl k
    obtain ⟨r, x, rfl⟩ : ∃ r x, l = r ++ [x] := ⟨l.dropLast, l.getLast (by intro z; rw [z] at hl; cases hl), (List.dropLast_concat_getLast _).symm⟩
    have hr : r.length = n := by simpa using hl
    have e := ih r hr
    rw [dis_snoc]
    by_cases hc : (dis r).contains x = true
    · rw [if_pos hc, e k, List.any_append]
      have hx : (dis r).any (· == x) = true := by
        rw [List.any_eq_true]
        exact ⟨x, by simpa using hc, by simp⟩
      by_cases hk : x = k
      · subst hk
        rw [← e x, hx]
        rfl
      · have : (x == k) = false := by simpa using hk
        simp [this]
    · rw [if_neg hc, List.any_append, List.any_append, e k]
theorem dis_len (l : List Str) : (dis l).length ≤ l.length := by
  have : ∀ (n : Nat) (l : List Str), l.length = n → (dis l).length ≤ n := by
    intro n
    induction n with
    | zero => intro l hl; rw [List.length_eq_zero_iff.mp hl]; exact Nat.le_refl _
    | succ n ih =>
      intro l hl
      obtain ⟨r, x, rfl⟩ : ∃ r x, l = r ++ [x] := ⟨l.dropLast, l.getLast (by intro z; rw [z] at hl; cases hl), (List.dropLast_concat_getLast _).symm⟩
      have hr : r.length = n := by simpa using hl
      have := ih r hr
      rw [dis_snoc]
      split
      · omega
      · rw [List.length_append, List.length_singleton]; omega
  exact this _ l rfl
theorem dis_mem {l : List Str} {k : Str} : k ∈ dis l ↔ k ∈ l := by
  have e := dis_any _ l rfl k
  constructor
  · intro h
    have : (dis l).any (· == k) = true := List.any_eq_true.mpr ⟨k, h, by simp⟩
    rw [e] at this
    obtain ⟨y, hy, hk⟩ := List.any_eq_true.mp this
    rw [← beq_iff_eq.mp hk]; exact hy
  · intro h
    have : l.any (· == k) = true := List.any_eq_true.mpr ⟨k, h, by simp⟩
    rw [← e] at this
    obtain ⟨y, hy, hk⟩ := List.any_eq_true.mp this
    rw [← beq_iff_eq.mp hk]; exact hy
theorem dis_lt (l : List Str) : (dis l).length < l.length ↔ ¬ l.Nodup := by
  have : ∀ (n : Nat) (l : List Str), l.length = n → ((dis l).length < n ↔ ¬ l.Nodup) := by
    intro n
    induction n with
    | zero => intro l hl; rw [List.length_eq_zero_iff.mp hl]; simp [dis]
    | succ n ih =>
      intro l hl
      obtain ⟨r, x, rfl⟩ : ∃ r x, l = r ++ [x] := ⟨l.dropLast, l.getLast (by intro z; rw [z] at hl; cases hl), (List.dropLast_concat_getLast _).symm⟩
      have hr : r.length = n := by simpa using hl
      have ih := ih r hr
      have hle := dis_len r
      have hnd : (r ++ [x]).Nodup ↔ r.Nodup ∧ x ∉ r := by
        rw [List.nodup_append]
        constructor
        · rintro ⟨a, _, b⟩
          exact ⟨a, fun h => b x h x (List.mem_singleton.mpr rfl) rfl⟩
        · rintro ⟨a, b⟩
          refine ⟨a, by simp, fun y hy z hz e => b ?_⟩
          rw [List.mem_singleton] at hz
          rw [← hz, ← e]; exact hy
      rw [dis_snoc, hnd]
      by_cases hc : (dis r).contains x = true
      · rw [if_pos hc]
        have hx : x ∈ r := dis_mem.mp (by simpa using hc)
        constructor
        · intro _ h; exact h.2 hx
        · intro _; omega
      · rw [if_neg hc, List.length_append, List.length_singleton]
        have hx : x ∉ r := fun h => hc (by simpa using dis_mem.mpr h)
        constructor
        · intro h hh
          exact (ih.mp (by omega)) hh.1
        · intro h
          have : ¬ r.Nodup := fun z => h ⟨z, hx⟩
          have := ih.mpr this
          omega
  exact this _ l rfl

section
variable {prog : Program} {w : World} {A : Around} {R : Result → Shared → Prop} {I : Addr} {fp wr : List Addr} {G : Array GenState → Array GenState → Prop} {n : Nat} {P : Nat → Value → Prop} {St : Nat → Shared → Prop}
theorem fill (W : WalksS prog w A.in1 I fp wr G n P St) (S : Addr) (hSf : S ∉ fp) (xs : List Str) (hsz : xs.length = n) (hn1 : n + 1 < scanBound)
    (hval : ∀ i v, P i v → ∃ t, v = .str (xs.getD i Str.empty) t) (turns : Nat) :
    ∀ (i : Nat) (s : Shared), i + turns = n → St i s →
      s.heap.SetOf (PySem.strKind prog w) S (fun y => (xs.take i).any (· == y)) (dis (xs.take i)).length →
      (∀ s', Moved (S :: wr) G s s' → s'.heap.SetOf (PySem.strKind prog w) S (fun y => xs.any (· == y)) (dis xs).length → R (.ok (.ret .none)) s') →
      codeAny (model prog w) A (.builtin "set.update.loop" ⟨[.ref S, .ref I], []⟩) R s := by
  have nS : S ∉ wr := fun z => hSf (W.sub _ z)
  have more : ∀ b ∈ wr, b ∈ S :: wr := fun b z => List.mem_cons_of_mem _ z
  have carry : ∀ {s s' : Shared} {F : Str → Bool} {m : Nat}, Moved wr G s s' → s.heap.SetOf (PySem.strKind prog w) S F m → s'.heap.SetOf (PySem.strKind prog w) S F m := fun hm ⟨o, es, ep, tb, ho, r⟩ => ⟨o, es, ep, tb, hm.heap S _ nS ho, r⟩
  induction turns with
  | zero =>
    intro i s hi st hS hR
    obtain rfl : i = n := by omega
    refine codeAny_builtin PyProof.Rows.F.entry_set_update_loop ?_
    rw [Around.under_plainId PyProof.Rows.F.plain_set_update_loop _]
    show wpAny _ A.in1 (pyNext (.ref I) >>= _) _ _ s
    refine wpAny_bind (W.done s _ _ st fun s' hm => ?_)
    rw [← hsz, List.take_length] at hS
    exact wpAny_pure (hR s' (hm.mono more) (carry hm hS))
  | succ turns ih =>
    intro i s hi st hS hR
    refine codeAny_builtin PyProof.Rows.F.entry_set_update_loop ?_
    rw [Around.under_plainId PyProof.Rows.F.plain_set_update_loop _]
    show wpAny _ A.in1 (pyNext (.ref I) >>= _) _ _ s
    refine wpAny_bind (W.item i s _ _ (by omega) st fun v s' hP st' hm => ?_)
    obtain ⟨t, rfl⟩ := hval i v hP
    have hS' := carry hm hS
    have hx : xs[i]? = some (xs.getD i Str.empty) := by
      rw [List.getD_eq_getElem?_getD, List.getElem?_eq_getElem (by omega)]; rfl
    generalize xs.getD i Str.empty = x at hx ⊢
    have tk : xs.take (i + 1) = xs.take i ++ [x] := by
      rw [List.take_add_one, hx]; rfl
    show wpAny _ A.in1 (holding [Value.str x t] (setAdd S (.str x t)) >>= _) _ _ s'
    refine wpAny_bind (wpAny_holding ?_)
    unfold setAdd
    refine wpAny_holding (wpAny_bind ((PySem.strKind prog w).pyHash (k := x) (strKind_is _ _ _ _) ?_))
    have room : (dis (xs.take i)).length + 1 < scanBound := by
      have := dis_len (xs.take i)
      rw [List.length_take] at this
      omega
    refine wpAny_setAddHashed_of (knd := PySem.strKind prog w) (s := { s' with toks := s'.toks + 1 }) (strKind_is _ _ _ _) rfl hS' room fun h' hsb hS2 => ?_
    have hin : ((xs.take i).any (· == x)) = (dis (xs.take i)).contains x := by
      rw [← dis_any _ (xs.take i) rfl x, Bool.eq_iff_iff, List.any_eq_true]
      simp
    have hS3 : h'.SetOf (PySem.strKind prog w) S (fun y => (xs.take (i + 1)).any (· == y)) (dis (xs.take (i + 1))).length := by
      refine SetOf_congr hS2 (fun y => ?_) ?_
      · rw [tk, List.any_append]
        by_cases e : y = x
        · subst e; simp
        · have e2 : (x == y) = false := by simpa using fun z : x = y => e z.symm
          simp [e, e2]
      · rw [tk, dis_snoc]
        by_cases hc : (dis (xs.take i)).contains x = true
        · rw [if_pos hc, if_pos (by rw [hin]; exact hc)]
        · rw [if_neg hc, if_neg (by rw [hin]; exact hc), List.length_append, List.length_singleton]
    have hkeep : ∀ b o, b ≠ S → s'.heap.get? b = some o → h'.get? b = some o := fun b o hb e => (hsb.2 b hb).trans e
    refine wpAny_pure ⟨plainId_quiet PyProof.Rows.F.plain_set_update_loop _, ih (i + 1) _ (by omega) (W.frame _ s' _ _ st' (Nat.le_succ _) fun b hb o e => hkeep b o (fun z => hSf (z ▸ hb)) e) hS3 fun s2 hm2 hS4 => ?_⟩
    exact hR s2 (Moved.trans W.gtrans ((hm.mono more).then_heap (Nat.le_succ _) fun b o hb e => hkeep b o (fun z => hb (by rw [z]; exact List.mem_cons_self)) e) hm2) hS4
end

section
variable {prog : Program} {w : World} {A : Around} {E : Value → Shared → Prop} {s : Shared}
theorem call_set_list {l : Addr} {its : Array Value} {xs : List Str} {Q : Value → Shared → Prop} (hh : A.handled = none) (hl : s.heap.IsList l its) (hi : PyProof.Rows.StrsAre its.toList xs) (hn1 : xs.length + 1 < scanBound)
    (h : ∀ (h' : Heap) (tk : Nat), h'.SetOf (PySem.strKind prog w) s.heap.objs.size (fun y => xs.any (· == y)) (dis xs).length → (∀ b o, b < s.heap.objs.size → s.heap.get? b = some o → h'.get? b = some o) → Q (.ref s.heap.objs.size) { s with heap := h', toks := tk }) :
    wpAny (model prog w) A (call (.type "set") [.ref l]) Q E s := by
  obtain ⟨c, tl, hmro⟩ := PySem.F.called_set.mro
  have hmade := PySem.F.called_set.made
  have hsub := PySem.F.called_set.sub
  refine wpAny_call (codeAny_of_tree (show wpAny _ _ (callAny (.type "set") _) _ _ _ from ?_))
  refine wpAny_pure ⟨Code.quiet_builtin _ (by decide +kernel), codeAny_builtin PySem.F.entry_type_call ?_⟩
  rw [Around.under_plain (weight_type_call_type "set" [.ref l] []) rfl]
  have f1 := PySem.F.called_set.notType
  have f2 := PySem.F.called_set.canCreate
  have f3 := PySem.F.typeCall_set_1 (.ref l)
  repeat (any_goals (first | assumption | wp_step))
  let S0 : Bool → Obj := fun led => { cls := .type "set", dict := none, data := .set #[] 0 (.fresh 0 0 led) }
  refine codeAny_mono (code_set_new_1 (.ref l) (E := E) (Q₁ := fun obj s₁ => ∃ led : Bool, obj = .ref s.heap.objs.size ∧ s₁ = { s with heap := s.heap.push (S0 led) }) fun led => ⟨led, rfl, rfl⟩) fun r s₁ hr => ?_
  cases r with
  | error e => exact hr
  | ok fl =>
    cases fl with
    | ret obj =>
      obtain ⟨led, rfl, rfl⟩ := hr
      have hS : (s.heap.push (S0 led)).get? s.heap.objs.size = some (S0 led) := Heap.get?_push_size _ rfl
      have hT : Shared.TypeIs { s with heap := s.heap.push (S0 led) } (.ref s.heap.objs.size) "set" := ⟨_, hS, rfl⟩
      have g1 := PySem.F.called_set.init.lookup
      have g2 := PySem.F.called_set.init.bind (.ref s.heap.objs.size)
      repeat (any_goals (first | assumption | wp_step))
      refine codeAny_mono (codeAny_call_builtin (R := wants (fun r s₂ => r = .none ∧ ∃ h' tk, s₂ = { s with heap := h', toks := tk } ∧ h'.SetOf (PySem.strKind prog w) s.heap.objs.size (fun y => xs.any (· == y)) (dis xs).length ∧
          (∀ b o, b < s.heap.objs.size → s.heap.get? b = some o → h'.get? b = some o)) E) PySem.F.called_set.init.plain PySem.F.entry_set_init (check_set_init_1 hT ?_)) fun r₂ s₂ hr₂ => ?_
      · obtain ⟨ol, hol, hcl, nl, hdl⟩ := hl
        obtain ⟨oc, od, odt, os⟩ := ol
        simp only at hcl hdl
        subst hcl
        subst hdl
        have hol' : (s.heap.push (S0 led)).get? l = some { cls := .type "list", dict := od, data := .seq its nl, slots := os } := Heap.get?_push_of_some _ hol
        have k1 := PySem.F.sub_list_set
        have k2 := PySem.F.sub_list_frozenset
        have k3 : (Value.type "list" == Value.type "dict") = false := by decide
        have hl1 : (s.heap.push (S0 led)).IsList l its := ⟨_, hol', rfl, nl, rfl⟩
        unfold Builtin.«set.__init__» noKeywords Builtin.Frozenset.updateFrom
        generalize hPI : pyIter = PI
        wp_walk
        subst hPI
        refine wpAny_pyIter_list hl1 (wpAny_bind (wpAny_runValue ?_))
        have ltl : l < s.heap.objs.size := Heap.lt_size hol
        have hh3 : A.in1.in1.in1.handled = none := hh
        have szp : (s.heap.push (S0 led)).objs.size = s.heap.objs.size + 1 := Heap.size_push ..
        have nI : l ≠ (s.heap.push (S0 led)).objs.size := by rw [szp]; exact Nat.ne_of_lt (Nat.lt_succ_of_lt ltl)
        have nF : s.heap.objs.size ∉ [(s.heap.push (S0 led)).objs.size, l] := by
          rw [szp]
          intro z
          rcases List.mem_cons.mp z with z | z
          · exact Nat.ne_of_lt (Nat.lt_succ_self _) z
          · exact Nat.ne_of_gt ltl (List.mem_singleton.mp z)
        have hsz : xs.length = its.size := by rw [← StrsAre.len_eq hi, Array.length_toList]
        refine fill ((Walks.list hh3 _ l nI its).toS) s.heap.objs.size nF xs hsz (by rw [← hsz]; exact hn1) (fun i v hv => strs_at hi i v (by rw [Array.getElem?_toList]; exact hv)) its.size 0 _ (Nat.zero_add _)
          ⟨⟨_, Heap.get?_push_size _ rfl, rfl, rfl⟩, (hl1.push _)⟩ ?a0 ?a1
        case a0 =>
          have hget : ((s.heap.push (S0 led)).push { cls := .type "list_iterator", data := .fields #[.ref l, .int 0 0] }).get? s.heap.objs.size = some (S0 led) := Heap.get?_push_of_some _ hS
          exact PyProof.Rows.SetOf_congr ((PyProof.Rows.setObjOf_fresh (knd := PySem.strKind prog w) led).setOf hget (by unfold scanBound; omega)) (fun _ => rfl) rfl
        case a1 =>
          intro s' hm hS'
          obtain ⟨h', g', d', tk', os'⟩ := s'
          have eg : g' = s.gens := hm.gens
          have ed : d' = s.drawn := hm.drawn
          have eo : os' = s.os := hm.os
          subst eg
          subst ed
          subst eo
          show wpAny _ _ _ _ _ _
          refine wpAny_pure ?_
          show wpAny _ _ (ret Value.none) _ _ _
          refine wpAny_pure ⟨rfl, h', tk', rfl, hS', fun b o hb e => hm.heap b o (fun z => ?_) (Heap.get?_push_of_some _ (Heap.get?_push_of_some _ e))⟩
          rcases List.mem_cons.mp z with z | z
          · exact Nat.ne_of_lt hb z
          · have z := List.mem_singleton.mp z
            rw [szp] at z
            exact Nat.ne_of_lt (Nat.lt_succ_of_lt hb) z
      · cases r₂ with
        | error e => exact hr₂
        | ok fl₂ =>
          cases fl₂ with
          | ret r =>
            obtain ⟨rfl, h', tk, rfl, hS', hk'⟩ := hr₂
            repeat (any_goals (first | assumption | wp_step))
            exact h _ _ hS' hk'
          | _ => exact hr₂.elim
    | _ => exact hr.elim
end

section
variable {prog : Program} {w : World} {A : Around} {E : Value → Shared → Prop} {s : Shared}
theorem call_set_tuple {l : Addr} {its : Array Value} {xs : List Str} {Q : Value → Shared → Prop} (hh : A.handled = none) (hl : s.heap.IsTuple l its) (hi : PyProof.Rows.StrsAre its.toList xs) (hn1 : xs.length + 1 < scanBound)
    (h : ∀ (h' : Heap) (tk : Nat), h'.SetOf (PySem.strKind prog w) s.heap.objs.size (fun y => xs.any (· == y)) (dis xs).length → (∀ b o, b < s.heap.objs.size → s.heap.get? b = some o → h'.get? b = some o) → Q (.ref s.heap.objs.size) { s with heap := h', toks := tk }) :
    wpAny (model prog w) A (call (.type "set") [.ref l]) Q E s := by
  obtain ⟨c, tl, hmro⟩ := PySem.F.called_set.mro
  have hmade := PySem.F.called_set.made
  have hsub := PySem.F.called_set.sub
  refine wpAny_call (codeAny_of_tree (show wpAny _ _ (callAny (.type "set") _) _ _ _ from ?_))
  refine wpAny_pure ⟨Code.quiet_builtin _ (by decide +kernel), codeAny_builtin PySem.F.entry_type_call ?_⟩
  rw [Around.under_plain (weight_type_call_type "set" [.ref l] []) rfl]
  have f1 := PySem.F.called_set.notType
  have f2 := PySem.F.called_set.canCreate
  have f3 := PySem.F.typeCall_set_1 (.ref l)
  repeat (any_goals (first | assumption | wp_step))
  let S0 : Bool → Obj := fun led => { cls := .type "set", dict := none, data := .set #[] 0 (.fresh 0 0 led) }
  refine codeAny_mono (code_set_new_1 (.ref l) (E := E) (Q₁ := fun obj s₁ => ∃ led : Bool, obj = .ref s.heap.objs.size ∧ s₁ = { s with heap := s.heap.push (S0 led) }) fun led => ⟨led, rfl, rfl⟩) fun r s₁ hr => ?_
  cases r with
  | error e => exact hr
  | ok fl =>
    cases fl with
    | ret obj =>
      obtain ⟨led, rfl, rfl⟩ := hr
      have hS : (s.heap.push (S0 led)).get? s.heap.objs.size = some (S0 led) := Heap.get?_push_size _ rfl
      have hT : Shared.TypeIs { s with heap := s.heap.push (S0 led) } (.ref s.heap.objs.size) "set" := ⟨_, hS, rfl⟩
      have g1 := PySem.F.called_set.init.lookup
      have g2 := PySem.F.called_set.init.bind (.ref s.heap.objs.size)
      repeat (any_goals (first | assumption | wp_step))
      refine codeAny_mono (codeAny_call_builtin (R := wants (fun r s₂ => r = .none ∧ ∃ h' tk, s₂ = { s with heap := h', toks := tk } ∧ h'.SetOf (PySem.strKind prog w) s.heap.objs.size (fun y => xs.any (· == y)) (dis xs).length ∧
          (∀ b o, b < s.heap.objs.size → s.heap.get? b = some o → h'.get? b = some o)) E) PySem.F.called_set.init.plain PySem.F.entry_set_init (check_set_init_1 hT ?_)) fun r₂ s₂ hr₂ => ?_
      · obtain ⟨ol, hol, hcl, nl, hdl⟩ := hl
        obtain ⟨oc, od, odt, os⟩ := ol
        simp only at hcl hdl
        subst hcl
        subst hdl
        have hol' : (s.heap.push (S0 led)).get? l = some { cls := .type "tuple", dict := od, data := .seq its nl, slots := os } := Heap.get?_push_of_some _ hol
        have k1 := PySem.F.sub_tuple_set
        have k2 := PySem.F.sub_tuple_frozenset
        have k3 : (Value.type "tuple" == Value.type "dict") = false := by decide
        have hl1 : (s.heap.push (S0 led)).IsTuple l its := ⟨_, hol', rfl, nl, rfl⟩
        unfold Builtin.«set.__init__» noKeywords Builtin.Frozenset.updateFrom
        generalize hPI : pyIter = PI
        wp_walk
        subst hPI
        refine wpAny_pyIter_tuple hl1 (wpAny_bind (wpAny_runValue ?_))
        have ltl : l < s.heap.objs.size := Heap.lt_size hol
        have hh3 : A.in1.in1.in1.handled = none := hh
        have szp : (s.heap.push (S0 led)).objs.size = s.heap.objs.size + 1 := Heap.size_push ..
        have nI : l ≠ (s.heap.push (S0 led)).objs.size := by rw [szp]; exact Nat.ne_of_lt (Nat.lt_succ_of_lt ltl)
        have nF : s.heap.objs.size ∉ [(s.heap.push (S0 led)).objs.size, l] := by
          rw [szp]
          intro z
          rcases List.mem_cons.mp z with z | z
          · exact Nat.ne_of_lt (Nat.lt_succ_self _) z
          · exact Nat.ne_of_gt ltl (List.mem_singleton.mp z)
        have hsz : xs.length = its.size := by rw [← StrsAre.len_eq hi, Array.length_toList]
        refine fill ((Walks.tuple hh3 _ l nI its).toS) s.heap.objs.size nF xs hsz (by rw [← hsz]; exact hn1) (fun i v hv => strs_at hi i v (by rw [Array.getElem?_toList]; exact hv)) its.size 0 _ (Nat.zero_add _)
          ⟨⟨_, Heap.get?_push_size _ rfl, rfl, rfl⟩, (hl1.push _)⟩ ?a0 ?a1
        case a0 =>
          have hget : ((s.heap.push (S0 led)).push { cls := .type "tuple_iterator", data := .fields #[.ref l, .int 0 0] }).get? s.heap.objs.size = some (S0 led) := Heap.get?_push_of_some _ hS
          exact PyProof.Rows.SetOf_congr ((PyProof.Rows.setObjOf_fresh (knd := PySem.strKind prog w) led).setOf hget (by unfold scanBound; omega)) (fun _ => rfl) rfl
        case a1 =>
          intro s' hm hS'
          obtain ⟨h', g', d', tk', os'⟩ := s'
          have eg : g' = s.gens := hm.gens
          have ed : d' = s.drawn := hm.drawn
          have eo : os' = s.os := hm.os
          subst eg
          subst ed
          subst eo
          show wpAny _ _ _ _ _ _
          refine wpAny_pure ?_
          show wpAny _ _ (ret Value.none) _ _ _
          refine wpAny_pure ⟨rfl, h', tk', rfl, hS', fun b o hb e => hm.heap b o (fun z => ?_) (Heap.get?_push_of_some _ (Heap.get?_push_of_some _ e))⟩
          rcases List.mem_cons.mp z with z | z
          · exact Nat.ne_of_lt hb z
          · have z := List.mem_singleton.mp z
            rw [szp] at z
            exact Nat.ne_of_lt (Nat.lt_succ_of_lt hb) z
      · cases r₂ with
        | error e => exact hr₂
        | ok fl₂ =>
          cases fl₂ with
          | ret r =>
            obtain ⟨rfl, h', tk, rfl, hS', hk'⟩ := hr₂
            repeat (any_goals (first | assumption | wp_step))
            exact h _ _ hS' hk'
          | _ => exact hr₂.elim
    | _ => exact hr.elim
end

end GS

-- part Rules2
set_option Elab.async false
set_option linter.all false
set_option maxRecDepth 100000
set_option maxHeartbeats 4000000
namespace GS
open PySem PySem.Spec PyProof.Rows L2 SS
section
variable {X : Cx}
/-- a list or a tuple of texts -/
def TxL (K : PySem.W.Frag) (H : Hp) (a : Addr) (xs : List Str) : Prop := SqL K H a (xs.map V.str) ∨ SqT K H a (xs.map V.str)
def tLenSetS (K : PySem.W.Frag) (ta : TE) : TE := fun σ H Q => ta σ H fun x H1 => ∃ l, ∃ xs : List Str, x = .ref l ∧ TxL K H1 l xs ∧ xs.length ≤ 4000 ∧ Q (.int ((dis xs).length : Nat)) H1
theorem pe_lenSetS {a : Expr} {ta : TE} {p p2 q pos : Pos} (hc : X.calm = true) (hm : X.mg "len" = none) (hm2 : X.mg "set" = none) (ha : PE X a ta) (hg : Gl X "len" := by rfl) (hg2 : Gl X "set" := by rfl)
    (na : starEach [a] X.env = (false, eval a X.env) :: starEach [] X.env := by rfl) : PE X (.Call (.Name "len" p) [.Call (.Name "set" p2) [a] [] q] [] pos) (tLenSetS X.K ta) := by
  refine ⟨fun pins s σ H Q I h => ?_⟩
  refine Call_ (ld_blt I hg hm boot_len (PyProof.Rows.callWith_builtin1 (PyProof.Rows.args_cons ?_ rfl) rfl rfl))
  refine Call_ (ld_blt I hg2 hm2 boot_set ?_)
  refine PyProof.Rows.callWith_type1 (PyProof.Rows.args_cons (thn (ha.run pins s σ H _ I h) fun v s1 ⟨x, H1, I1, r1, q1⟩ => PyProof.Rows.args_nil ?_) na) na rfl
  obtain ⟨l, xs, rfl, hq, h1, q1⟩ := q1
  cases r1
  have lim : xs.length + 1 < scanBound := by unfold scanBound; omega
  have le := dis_len xs
  have fin : ∀ (h' : Heap) (tk : Nat), h'.SetOf (PySem.strKind X.prog X.w) s1.heap.objs.size (fun y => xs.any (· == y)) (dis xs).length → (∀ b o, b < s1.heap.objs.size → s1.heap.get? b = some o → h'.get? b = some o) →
      wpAny (model X.prog X.w) X.A (spliced (backTo pos (starEach [] X.env))) (fun vs s₂ => wpAny (model X.prog X.w) X.A (call (.builtin "len") (Value.ref s1.heap.objs.size :: vs)) (EP X pins σ Q) X.xe s₂) X.xe { s1 with heap := h', toks := tk } := fun h' tk hS hk => by
    refine PyProof.Rows.args_nil ?_
    obtain ⟨o, es, ep, t, ho, hex, hd, _, _, _, hf, hn⟩ := hS
    have I2 : Inv X pins σ H1 { s1 with heap := h', toks := tk } := I1.kept fun b o e => hk b o (Heap.lt_size e) e
    exact call_len_set ho hex hd hf (by rw [hn]; omega) ⟨.int ((dis xs).length : Nat), H1, I2.tok _, ⟨_, by rw [hn]⟩, q1⟩
  rcases hq with hq | hq
  · obtain ⟨its, r, pl, hz⟩ := I1.list hq
    exact call_set_list (I1.ok.hd hc) pl.isList (by simpa using strsAre_of r) lim fin
  · obtain ⟨its, r, pl, hz⟩ := I1.tuple hq
    exact call_set_tuple (I1.ok.hd hc) pl (by simpa using strsAre_of r) lim fin
/-- a written dict with text keys: is the key there -/
def KHas (K : PySem.W.Frag) (w : World) (a : Addr) (z : Str) (b : Bool) : Prop := ∃ es n o, K.lookup a = some ⟨.type "dict", none, .dict es n, #[]⟩ ∧ PySem.W.KeysLit w.params es.toList ∧ (a == sysModules) = false ∧ PySem.W.nsIn K a z = some o ∧ b = o.isSome
def rInK (K : PySem.W.Frag) (w : World) : R2 := fun x y H Q => ∃ p z b, x = .str z ∧ y = .ref p ∧ KHas K w p z b ∧ Q (.bl b) H
def rNotInK (K : PySem.W.Frag) (w : World) : R2 := fun x y H Q => ∃ p z b, x = .str z ∧ y = .ref p ∧ KHas K w p z b ∧ Q (.bl (!b)) H
theorem op_inK : OpR X (compareOp .In) (rInK X.K X.w) := by
  intro pins s σ H x y v u Q I rx ry h
  obtain ⟨p, z, b, rfl, rfl, ⟨es, n, o, hl, hk, hs, hn, rfl⟩, q⟩ := h
  obtain ⟨t, rfl⟩ := rx
  obtain rfl : u = Value.ref p := ry
  have hm := PySem.W.mapOf_K (prog := X.prog) (w := X.w) I.kIn hl hk
  refine wpAny_in_of (strKind_is X.prog X.w z t) hs hm ?_
  rw [PySem.W.find_K hl hn]
  exact ⟨.bl _, H, I.tok _, rfl, q⟩
theorem op_notInK : OpR X (compareOp .NotIn) (rNotInK X.K X.w) := by
  intro pins s σ H x y v u Q I rx ry h
  obtain ⟨p, z, b, rfl, rfl, ⟨es, n, o, hl, hk, hs, hn, rfl⟩, q⟩ := h
  obtain ⟨t, rfl⟩ := rx
  obtain rfl : u = Value.ref p := ry
  have hm := PySem.W.mapOf_K (prog := X.prog) (w := X.w) I.kIn hl hk
  refine wpAny_notIn_of (strKind_is X.prog X.w z t) hs hm ?_
  rw [PySem.W.find_K hl hn]
  exact ⟨.bl _, H, I.tok _, rfl, q⟩
/-- * of two factors of together less than a hundred million bits -/
def CMulB (i j : Int) : Prop := i.natAbs.log2 + j.natAbs.log2 < 100000000
theorem CMulB.ok {i j : Int} (h : CMulB i j) : IntMulOk i j := by
  have b : ∀ x : Int, Builtin.Int.intBits x ≤ x.natAbs.log2 + 1 := fun x => by
    unfold Builtin.Int.intBits
    split <;> omega
  have h1 := b i
  have h2 := b j
  have h3 : i.natAbs.log2 + j.natAbs.log2 < 100000000 := h
  have e : bitsLine = 134217728 := by decide
  unfold IntMulOk
  intro z
  rw [Bool.and_eq_true] at z
  have z2 := z.2
  unfold Builtin.Int.intTooBig at z2
  have z3 := of_decide_eq_true z2
  rw [e] at z3
  omega
theorem op_mulB : OpR X (binaryOp .Mult) (rI CMulB fun i j => .int (i * j)) := opI fun _ _ _ _ _ _ _ hc q => mul_int q hc.ok
end
section
variable {P : Program} {w : World} {K : PySem.W.Frag} {mg : Str → Option Value} {base : Heap} {x qual : Str} {params : Arguments} {body : List Stmt} {scope : Scope} {dvs : List V} {kws : List (Str × V)} {f : Addr} {fd : FuncData}
/-- FunD.ok where the body asks for the def's own code object -/
theorem okC {CX : CXT} {N ps : List Str} {k : Nat} {sp : Sp} {c : Addr} (F : FunD K x qual params body scope dvs kws f fd) (hc : fd.code = .ref c) (S : FnScope N ps scope) (len : ∀ vs H Q E, sp vs H Q E → vs.length = ps.length)
    (hbody : ∀ (A : Around) (outer : List Env) (s : Shared) (H : Hp) (vs : List V) (Q : VK) (E : XK), Room k (A.deeper (envOfC qual scope s.heap.objs.size f (.ref c))) → sp vs H Q E →
      ∃ t, PSs (cxOf CX P w K mg base N qual scope f (.ref c) A outer s H E) body t ∧ t { nx := fun _ H' => Q .non H', rt := Q } (start N vs) H) : FnOk P w K mg base CX (k + 1) f fd ps sp := by
  obtain ⟨oc, od, dV, kV, doc, pm, an, cdv, ct, osl, rfl, lk, hcd, _, _⟩ := F.ex
  have e : cdv = .ref c := hc
  subst e
  exact fn_of lk hcd S len fun A outer s H vs Q E hr hsp => hbody A outer s H vs Q E hr hsp
/-- the code object by the head's way to it -/
theorem codeOf_at {p : Str × Option Str} (F : FunD K x qual params body scope dvs kws (He.fAd K p) fd) : fd.code = .ref (He.codeOf K p) := by
  obtain ⟨oc, od, dV, kV, doc, pm, an, cdv, ct, osl, rfl, lk, hcd, _, _⟩ := F.ex
  show cdv = .ref (He.codeOf K p)
  cases cdv with
  | ref c => rw [He.codeOf_eq lk (c := c) rfl]
  | _ => cases hcd
end
end GS

-- part HdHook
set_option Elab.async false
set_option linter.all false
set_option maxRecDepth 100000
set_option maxHeartbeats 2000000
/-! a Hook that tells the getters of properties too -/
namespace Hd
open PySem PySem.Spec PyProof.Rows L2 He
/-- a property's object, its getter -/
def prpA (K : PySem.W.Frag) (C f : Str) : Addr := ma K (ga K C) f
def gtrA (K : PySem.W.Frag) (C f : Str) : Addr := match PySem.W.recIn K (prpA K C f) "property" with
  | some (.ref g :: _) => g
  | _ => 0
structure PrD where
  cls : Str
  f : Str
  name : Str
  qual : Str
  params : Arguments
  body : List Stmt
  scope : Scope
def PrD.val (d : PrD) : FnW := some (d.name, d.qual, d.params, .stmts d.body, d.scope, mainGlobals, [], builtinsNs)
def fnP (K : PySem.W.Frag) (a : Addr) : FnW := match K.lookup a with
  | some ⟨_, _, .func fd, _⟩ => some (fd.name, fd.qualname, fd.params, fd.body, fd.scope, fd.globals, fd.closure, fd.builtins)
  | _ => none
def PrD.ok (K : PySem.W.Frag) (d : PrD) : Bool := PySem.W.keepIn K (.ref (gtrA K d.cls d.f)) && (eqO (PySem.W.findIn K (.ref (ga K d.cls)) d.f) (some (some (.ref (prpA K d.cls d.f)))) &&
  (decide (PySem.W.specialIn K (.ref (prpA K d.cls d.f)) "__get__" = some (some (.builtin "property.__get__"))) && (decide (PySem.W.takesIn K (.ref (prpA K d.cls d.f)) = some true) &&
  ((match PySem.W.recIn K (prpA K d.cls d.f) "property" with
    | some (.ref g :: _) => true
    | _ => false) &&
  (match K.lookup (gtrA K d.cls d.f) with
    | some ⟨_, _, .func fd, _⟩ => PySem.W.codeIn K fd.code d.qual && (decide (fd.defaults = .none) && decide (fd.kwdefaults = .none))
    | _ => false)))))
theorem PrD.prop {K : PySem.W.Frag} {d : PrD} (c : d.ok K = true) : PropOf K (ga K d.cls) d.f (prpA K d.cls d.f) (gtrA K d.cls d.f) := by
  obtain ⟨c1, c⟩ := ba c
  obtain ⟨c2, c⟩ := ba c
  obtain ⟨c3, c⟩ := ba c
  obtain ⟨c4, c⟩ := ba c
  obtain ⟨c5, c6⟩ := ba c
  refine ⟨eqO_ok c2, of_decide_eq_true c3, of_decide_eq_true c4, ?_⟩
  unfold gtrA
  split at c5
  · rename_i g r e
    rw [e]
    exact ⟨r, rfl⟩
  · cases c5
theorem PrD.funD {K : PySem.W.Frag} {d : PrD} (e : fnP K (gtrA K d.cls d.f) = d.val) (c : d.ok K = true) : ∃ fd, FunD K d.name d.qual d.params d.body d.scope [] [] (gtrA K d.cls d.f) fd := by
  obtain ⟨c1, c⟩ := ba c
  obtain ⟨c2, c⟩ := ba c
  obtain ⟨c3, c⟩ := ba c
  obtain ⟨c4, c⟩ := ba c
  obtain ⟨c5, c6⟩ := ba c
  unfold fnP at e
  cases q : K.lookup (gtrA K d.cls d.f) with
  | none =>
    rw [q] at c6
    cases c6
  | some o =>
    obtain ⟨oc, od, dt, osl⟩ := o
    rw [q] at c6 e
    cases dt with
    | func fd =>
      obtain ⟨n1, n2, n3, n4, n5, n6, n7, n8, n9, n10, n11, n12, n13, n14, n15⟩ := fd
      have e2 : (some (n1, n2, n3, n4, n5, n6, n7, n15) : FnW) = some (d.name, d.qual, d.params, .stmts d.body, d.scope, mainGlobals, [], builtinsNs) := e
      simp only [Option.some.injEq, Prod.mk.injEq] at e2
      obtain ⟨h1, h2, h3, h4, h5, h6, h7, h9⟩ := e2
      obtain ⟨z1, z2⟩ := ba c6
      obtain ⟨z3, z4⟩ := ba z2
      have y3 : n8 = .none := of_decide_eq_true z3
      have y4 : n9 = .none := of_decide_eq_true z4
      subst h1 h2 h3 h4 h5 h6 h7 h9
      subst y3
      subst y4
      exact ⟨_, ⟨oc, od, .none, .none, n10, n11, n12, n13, n14, osl, rfl, q, z1, .inl ⟨rfl, rfl⟩, .inl rfl⟩, c1⟩
    | _ => cases c6

abbrev AlP : Type := AlX × List FnW
def obsP (n : Nat) (fa : List Fa) (fn : List DefD) (ts : List Tab) (tf : List Defn) (ex : PySem.W.Frag → Bool) (ps : List PrD) (g : Addr → Option Obj) : AlP :=
  (obsX n fa fn ts tf (fun K => ex K && ps.all fun d => d.ok K) g, ps.map fun d => fnP (frT g (asD g n)) (gtrA (frT g (asD g n)) d.cls d.f))
def valP (fn : List DefD) (ts : List Tab) (ps : List PrD) (w : World) : AlP := (valX fn ts w, ps.map PrD.val)
structure SaysP (fa : List Fa) (fn : List DefD) (ts : List Tab) (tf : List Defn) (ex : PySem.W.Frag → Bool) (ps : List PrD) (w : World) (h : Heap) (K : PySem.W.Frag) : Prop where
  x : SaysX fa fn ts tf (fun K => ex K && ps.all fun d => d.ok K) w h K
  p : ps.map (fun d => fnP K (gtrA K d.cls d.f)) = ps.map PrD.val
def hookP (n : Nat) (fa : List Fa) (fn : List DefD) (ts : List Tab) (tf : List Defn) (ex : PySem.W.Frag → Bool) (ps : List PrD) : PySem.W.Hook where
  α := AlP
  obs := fun s => obsP n fa fn ts tf ex ps s.heap.get?
  val := fun w => valP fn ts ps w
  says := fun w h => ∃ K : PySem.W.Frag, K.In h ∧ SaysP fa fn ts tf ex ps w h K
  of := fun _ _ e => ⟨_, frT_in, saysX_of (congrArg (fun z : AlP => z.1) e), congrArg (fun z : AlP => z.2) e⟩
  keeps := fun _ _ _ ⟨K, hK, c⟩ k => ⟨K, PySem.W.Frag.In.keeps hK k, ⟨c.x.t, c.x.more, c.x.hd, c.x.out, fun p hp => k _ _ (c.x.empty p hp)⟩, c.p⟩
theorem obsP_eq {n : Nat} {fa : List Fa} {fn : List DefD} {ts : List Tab} {tf : List Defn} {ex : PySem.W.Frag → Bool} {ps : List PrD} {g : Addr → Option Obj} {s : Shared} (h : ∀ a, g a = s.heap.get? a) : obsP n fa fn ts tf ex ps g = (hookP n fa fn ts tf ex ps).obs s := by
  have e : g = s.heap.get? := funext h
  rw [e] <;> rfl
section
variable {fa : List Fa} {fn : List DefD} {ts : List Tab} {tf : List Defn} {ex : PySem.W.Frag → Bool} {ps : List PrD} {w : World} {h : Heap} {K : PySem.W.Frag}
theorem SaysP.exB (c : SaysP fa fn ts tf ex ps w h K) : ex K = true := (ba c.x.more).1
theorem SaysP.pr (c : SaysP fa fn ts tf ex ps w h K) (i : Nat) {d : PrD} (e : ps[i]? = some d := by rfl) : PropOf K (ga K d.cls) d.f (prpA K d.cls d.f) (gtrA K d.cls d.f) ∧ ∃ fd, FunD K d.name d.qual d.params d.body d.scope [] [] (gtrA K d.cls d.f) fd := by
  have ok : d.ok K = true := List.all_eq_true.mp (ba c.x.more).2 d (List.mem_of_getElem? e)
  have e2 : (ps.map fun d => fnP K (gtrA K d.cls d.f))[i]? = (ps.map PrD.val)[i]? := by rw [c.p]
  rw [List.getElem?_map, List.getElem?_map, e] at e2
  exact ⟨PrD.prop ok, PrD.funD (Option.some.inj e2) ok⟩
end
/-- a keyword-only default that is an object -/
def kwAt (p : Str × Option Str) (x : Str) (K : PySem.W.Frag) : Addr := match K.lookup (fAd K p) with
  | some ⟨_, _, .func fd, _⟩ => (match fd.kwdefaults with
    | .ref D => (match PySem.W.nsIn K D x with
      | some (some (.ref a)) => a
      | _ => 0)
    | _ => 0)
  | _ => 0
/-- an empty tuple of the top -/
def emptyB (K : PySem.W.Frag) (a : Addr) : Bool := match K.lookup a with
  | some ⟨.type c, none, .seq its _, sl⟩ => decide (c = "tuple") && (its.isEmpty && sl.isEmpty)
  | _ => false
end Hd

-- part Data
set_option Elab.async false
set_option linter.all false
set_option maxRecDepth 100000
set_option maxHeartbeats 2000000
/-! heaps that grow, lists of texts -/
namespace GD
open PySem PySem.Spec PyProof.Rows L2 GxR GS GA
theorem ifT {c : Bool} {A B : Prop} (hc : c = true) (h : A) : if c = true then A else B := by rw [if_pos hc]; exact h
theorem ifF {c : Bool} {A B : Prop} (hc : c = false) (h : B) : if c = true then A else B := by rw [hc, if_neg Bool.false_ne_true]; exact h
/-- all that is tracked stands; tables may have grown -/
structure Sm (H H' : Hp) : Prop where
  st : ∀ b o, H b = some o → (∀ ps, o ≠ .tbl ps) → H' b = some o
  tb : ∀ P, TabG H P → TabG H' P
  fr : ∀ b, H' b = none → H b = none
theorem Sm.refl {H : Hp} : Sm H H := ⟨fun _ _ e _ => e, fun _ t => t, fun _ e => e⟩
theorem Sm.trans {H1 H2 H3 : Hp} (a : Sm H1 H2) (b : Sm H2 H3) : Sm H1 H3 := ⟨fun x o e n => b.st x o (a.st x o e n) n, fun P t => b.tb P (a.tb P t), fun x e => a.fr x (b.fr x e)⟩
theorem Sm.new {H : Hp} {d : Addr} {o : HO} (h : H d = none) : Sm H (upd H d o) := by
  refine ⟨fun b u e _ => ?_, fun P ⟨ps, e, t⟩ => ⟨ps, ?_, t⟩, fun b e => ?_⟩
  · rw [upd_ne (ne_of_none e h)]; exact e
  · rw [upd_ne (ne_of_none e h)]; exact e
  · by_cases hb : b = d
    · rw [hb, upd_same] at e; cases e
    · rw [upd_ne hb] at e; exact e
theorem Sm.tab {H H' : Hp} {P : Addr} (hP : TabG H P) (t : Tabbed P H H') : Sm H H' := by
  refine ⟨fun b o e n => ?_, fun Q q => ?_, fun b e => ?_⟩
  · by_cases hb : b = P
    · obtain ⟨ps, e2, _⟩ := hP
      rw [hb, e2] at e; cases e
      exact absurd rfl (n ps)
    · rw [t.2 b hb]; exact e
  · by_cases hb : Q = P
    · rw [hb]; exact t.1
    · obtain ⟨ps, e, z⟩ := q
      exact ⟨ps, (t.2 Q hb).trans e, z⟩
  · by_cases hb : b = P
    · obtain ⟨ps, e2, _⟩ := t.1
      rw [hb, e2] at e; cases e
    · rw [← t.2 b hb]; exact e
/-- an object of one's own, younger than H0, is written -/
theorem Sm.own {H0 H : Hp} {d : Addr} {o : HO} (a : Sm H0 H) (h : H0 d = none) (n : ∀ P, TabG H P → P ≠ d) : Sm H0 (upd H d o) := by
  refine ⟨fun b u e z => ?_, fun P t => ?_, fun b e => ?_⟩
  · rw [upd_ne (ne_of_none e h)]; exact a.st b u e z
  · obtain ⟨ps, e, t2⟩ := a.tb P t
    exact ⟨ps, by rw [upd_ne (n P ⟨ps, e, t2⟩)]; exact e, t2⟩
  · by_cases hb : b = d
    · rw [hb, upd_same] at e; cases e
    · rw [upd_ne hb] at e; exact a.fr b e
theorem tabG_ne {H : Hp} {P d : Addr} {o : HO} (t : TabG H P) (e : H d = some o) (n : ∀ ps, o ≠ .tbl ps) : P ≠ d := fun z => by
  obtain ⟨ps, e2, _⟩ := t
  rw [z, e] at e2; cases e2
  exact n ps rfl
section
variable {K : PySem.W.Frag} {H H' : Hp} {a : Addr} {xs : List V} {ss : List Str}
theorem Sm.lst (s : Sm H H') (h : SqL K H a xs) : SqL K H' a xs := by
  rcases h with (h | ⟨o, h⟩) | h
  · exact .inl (.inl (s.st a _ h fun _ z => by cases z))
  · exact .inl (.inr ⟨o, s.st a _ h fun _ z => by cases z⟩)
  · exact .inr h
theorem Sm.tup (s : Sm H H') (h : SqT K H a xs) : SqT K H' a xs := by
  rcases h with (h | ⟨o, h⟩) | h
  · exact .inl (.inl (s.st a _ h fun _ z => by cases z))
  · exact .inl (.inr ⟨o, s.st a _ h fun _ z => by cases z⟩)
  · exact .inr h
theorem Sm.txl (s : Sm H H') (h : TxL K H a ss) : TxL K H' a ss := h.elim (fun z => .inl (s.lst z)) fun z => .inr (s.tup z)
end
/-- a list or a tuple of anything -/
def Sq (K : PySem.W.Frag) (H : Hp) (a : Addr) (xs : List V) : Prop := SqL K H a xs ∨ SqT K H a xs
theorem Sm.sq {K : PySem.W.Frag} {H H' : Hp} {a : Addr} {xs : List V} (s : Sm H H') (h : Sq K H a xs) : Sq K H' a xs := h.elim (fun z => .inl (s.lst z)) fun z => .inr (s.tup z)
theorem TxL.sq {K : PySem.W.Frag} {H : Hp} {a : Addr} {ss : List Str} (h : TxL K H a ss) : Sq K H a (ss.map V.str) := h

/-! ### walks over what is a list or a tuple -/
section
variable {X : Cx} {l : Expr} {tl : TE} {tg : Expr}
/-- over a list or a tuple: the reading is told for both -/
def iSq (K : PySem.W.Frag) (tl : TE) : TI := fun σ H R => tl σ H fun x H1 => ∃ a, x = .ref a ∧ ((∃ xs, SqL K H1 a xs) ∧ R (Itl K a) H1 ∨ (∃ xs, SqT K H1 a xs) ∧ R (Itt K a) H1)
theorem pi_sq (hl : PE X l tl) : PI X tg l (iSq X.K tl) := by
  refine ⟨fun pins s σ H R I h => ?_⟩
  -- by the value's own kind
  have h1 : wpAny (model X.prog X.w) X.A (eval l X.env) (fun v s1 => ∃ H1, Inv X pins σ H1 s1 ∧ ∃ a, v = Value.ref a ∧ ((∃ xs, SqL X.K H1 a xs) ∧ R (Itl X.K a) H1 ∨ (∃ xs, SqT X.K H1 a xs) ∧ R (Itt X.K a) H1)) X.xe s :=
    thn (hl.run pins s σ H _ I h) fun v s1 ⟨x, H1, I1, r1, a, e, q⟩ => by
      subst e
      exact ⟨H1, I1, a, r1, q⟩
  refine thn h1 fun v s1 ⟨H1, I1, a, ev, q⟩ => ?_
  subst ev
  rcases q with ⟨⟨xs, hq⟩, q⟩ | ⟨⟨xs, hq⟩, q⟩
  · obtain ⟨its, rv, p, hz⟩ := I1.list hq
    refine wpAny_pyIter_list p.isList ?_
    refine ⟨s1.heap.objs.size, [s1.heap.objs.size], _, _, H1, rfl, I1.kept (t' := s1.toks) fun b o e => Heap.get?_push_of_some _ e, turn_list a _, ⟨_, Heap.get?_push_size _ rfl, rfl, rfl⟩, fun b hb => ?_, q⟩
    rw [List.mem_singleton.mp hb]
    exact I1.fpOk (Nat.le_refl _) (I1.hok.fresh (Nat.le_refl _))
  · obtain ⟨its, rv, p, hz⟩ := I1.tuple hq
    refine wpAny_pyIter_tuple (show s1.heap.IsTuple a its.toArray from p) ?_
    refine ⟨s1.heap.objs.size, [s1.heap.objs.size], _, _, H1, rfl, I1.kept (t' := s1.toks) fun b o e => Heap.get?_push_of_some _ e, turn_tuple a _, ⟨_, Heap.get?_push_size _ rfl, rfl, rfl⟩, fun b hb => ?_, q⟩
    rw [List.mem_singleton.mp hb]
    exact I1.fpOk (Nat.le_refl _) (I1.hok.fresh (Nat.le_refl _))
end
/-- a reading over iSq from one over any walk -/
theorem iSq_of {K : PySem.W.Frag} {a : Addr} {xs : List V} {H : Hp} {R : It → Hp → Prop} (h : Sq K H a xs) (hR : ∀ (J : It) (G : Hp → Prop), Walk J xs.length G (YAt xs) → (∀ H', Sm H H' → G H') → R J H) :
    (∃ xs, SqL K H a xs) ∧ R (Itl K a) H ∨ (∃ xs, SqT K H a xs) ∧ R (Itt K a) H := by
  rcases h with h | h
  · exact .inl ⟨⟨xs, h⟩, hR _ _ walk_list fun H' s => s.lst h⟩
  · exact .inr ⟨⟨xs, h⟩, hR _ _ walk_tup fun H' s => s.tup h⟩
/-- the reading of all, any over a walk: Pv by the turn and the heap -/
theorem gen_it {J : It} {n : Nat} {G : Hp → Prop} {Y : Nat → Hp → V → Hp → Prop} (w : Walk J n G Y) {d : Bool} {P : Addr} {g : TG} {te : TE} {vs : List Nat} {σ : L2.St} {H1 : Hp} {Q : VK} (ht : TabG H1 P) (Pv : Nat → Hp → Prop) (h0 : ∀ H2, Tabbed P H1 H2 → Pv 0 H2)
    (hG : ∀ i H, i ≤ n → Pv i H → G H) (hs : ∀ i x H H', i < n → Pv i H → Y i H x H' → g x (wipe σ vs) H' fun σ2 H3 => wipe σ2 vs = wipe σ vs ∧ te σ2 H3 fun y H4 => ∃ b, y = .bl b ∧ (b = d → Q (.bl d) H4) ∧ (b ≠ d → Pv (i + 1) H4))
    (hd : ∀ H, Pv n H → Q (.bl (!d)) H) : TabG H1 P ∧ ∀ H2, Tabbed P H1 H2 → ∃ W : Nat → Nat → Hp → Prop, (∃ m, W 0 m H2) ∧ ∀ i m H, W i m H →
    (J.stop i H ∧ Q (.bl (!d)) H) ∨ (J.go i H ∧ ∃ Nx : Hp → Prop, (∀ H', Nx H' → ∃ m', m' < m ∧ W (i + 1) m' H') ∧
      ∀ x H', J.yld i H x H' → g x (wipe σ vs) H' fun σ2 H3 => wipe σ2 vs = wipe σ vs ∧ te σ2 H3 fun y H4 => ∃ b, y = .bl b ∧ (b = d → Q (.bl d) H4) ∧ (b ≠ d → Nx H4)) := by
  refine ⟨ht, fun H2 t => ⟨fun i m H => m = n - i ∧ i ≤ n ∧ Pv i H, ⟨n, by simp, Nat.zero_le _, h0 H2 t⟩, ?_⟩⟩
  rintro i m H ⟨rfl, hi, p⟩
  have q := hG i H hi p
  by_cases hlt : i < n
  · exact .inr ⟨w.goes i H hlt q, Pv (i + 1), fun H' p' => ⟨n - (i + 1), by omega, rfl, hlt, p'⟩, fun x H' y => hs i x H H' hlt p (w.yields i H x H' hlt q y)⟩
  · obtain rfl : i = n := by omega
    exact .inl ⟨w.stops H q, hd H p⟩
theorem wipe_set (σ : L2.St) (i : Nat) (x : Option V) : wipe ((wipe σ [i]).set i x) [i] = wipe σ [i] := by
  show ((σ.set i none).set i x).set i none = σ.set i none
  rw [List.set_set, List.set_set]
/-- all(f(x) for x in xs), any(..), xs what a walk gives -/
theorem rd_genW (d : Bool) {J : It} {G : Hp → Prop} {xs : List V} (w : Walk J xs.length G (YAt xs)) {f : V → Bool} {P : Addr} {te : TE} {i : Nat} {σ : L2.St} {H : Hp} {Q : VK} (ht : TabG H P) (hG : ∀ H', Sm H H' → G H')
    (hel : ∀ x H' (R : VK), x ∈ xs → Sm H H' → (∀ H'', Sm H H'' → R (.bl (f x)) H'') → te ((wipe σ [i]).set i (some x)) H' R) (hq : ∀ H', Sm H H' → Q (.bl (if d then xs.any f else xs.all f)) H') :
    TabG H P ∧ ∀ H2, Tabbed P H H2 → ∃ W : Nat → Nat → Hp → Prop, (∃ m, W 0 m H2) ∧ ∀ k m H, W k m H →
    (J.stop k H ∧ Q (.bl (!d)) H) ∨ (J.go k H ∧ ∃ Nx : Hp → Prop, (∀ H', Nx H' → ∃ m', m' < m ∧ W (k + 1) m' H') ∧
      ∀ x H', J.yld k H x H' → gName i x (wipe σ [i]) H' fun σ2 H3 => wipe σ2 [i] = wipe σ [i] ∧ te σ2 H3 fun y H4 => ∃ b, y = .bl b ∧ (b = d → Q (.bl d) H4) ∧ (b ≠ d → Nx H4)) := by
  refine gen_it w ht (fun k H' => Sm H H' ∧ ∀ x ∈ xs.take k, f x ≠ d) (fun H2 t => ⟨Sm.tab ht t, by simp⟩) (fun k H' _ p => hG H' p.1) (fun k x H' H'' hk p y => ?_) fun H' p => ?_
  · obtain ⟨rfl, hx⟩ := y
    have hm : x ∈ xs := List.mem_of_getElem? hx
    refine ⟨wipe_set σ i (some x), hel x H'' _ hm p.1 fun H3 s3 => ⟨f x, rfl, fun e => ?_, fun e => ⟨s3, fun y hy => ?_⟩⟩⟩
    · have q := hq H3 s3
      cases d with
      | true =>
        have : xs.any f = true := List.any_eq_true.mpr ⟨x, hm, e⟩
        simpa [this] using q
      | false =>
        have : xs.all f = false := by
          rw [List.all_eq_false]
          exact ⟨x, hm, by simp [e]⟩
        simpa [this] using q
    · rw [List.take_add_one, hx] at hy
      rcases List.mem_append.mp hy with hy | hy
      · exact p.2 y hy
      · have : y = x := by simpa using hy
        rw [this]; exact e
  · have q := hq H' p.1
    rw [List.take_length] at p
    cases d with
    | true =>
      have : xs.any f = false := by
        rw [List.any_eq_false]
        exact fun x hx => p.2 x hx
      simpa [this] using q
    | false =>
      have : xs.all f = true := by
        rw [List.all_eq_true]
        exact fun x hx => by simpa using p.2 x hx
      simpa [this] using q
/-- .. over a list or a tuple in hand -/
theorem rd_gen (d : Bool) {K : PySem.W.Frag} {a : Addr} {xs : List V} {f : V → Bool} {P : Addr} {te : TE} {i : Nat} {σ : L2.St} {H : Hp} {Q : VK} (h : Sq K H a xs) (ht : TabG H P)
    (hel : ∀ x H' (R : VK), x ∈ xs → Sm H H' → (∀ H'', Sm H H'' → R (.bl (f x)) H'') → te ((wipe σ [i]).set i (some x)) H' R) (hq : ∀ H', Sm H H' → Q (.bl (if d then xs.any f else xs.all f)) H') {tl : TE}
    (htl : ∀ R : VK, R (.ref a) H → tl σ H R) : tGen d P (iSq K tl) (gName i) te [i] σ H Q := by
  unfold tGen
  refine htl _ ⟨a, rfl, ?_⟩
  rcases h with h | h
  · exact .inl ⟨⟨xs, h⟩, rd_genW d walk_list ht (fun H' s => s.lst h) hel hq⟩
  · exact .inr ⟨⟨xs, h⟩, rd_genW d walk_tup ht (fun H' s => s.tup h) hel hq⟩
/-- .. over a text's signs -/
theorem rd_genS (d : Bool) {z : Str} {f : V → Bool} {P : Addr} {te : TE} {i : Nat} {σ : L2.St} {H : Hp} {Q : VK} (ht : TabG H P)
    (hel : ∀ x H' (R : VK), x ∈ z.cps.toList.map (fun c => V.str ⟨#[c]⟩) → Sm H H' → (∀ H'', Sm H H'' → R (.bl (f x)) H'') → te ((wipe σ [i]).set i (some x)) H' R)
    (hq : ∀ H', Sm H H' → Q (.bl (if d then (z.cps.toList.map fun c => V.str ⟨#[c]⟩).any f else (z.cps.toList.map fun c => V.str ⟨#[c]⟩).all f)) H') {tl : TE} (htl : ∀ R : VK, R (.str z) H → tl σ H R) : tGen d P (iStr tl) (gName i) te [i] σ H Q := by
  unfold tGen
  refine htl _ ⟨z, rfl, ?_⟩
  have w : Walk (Its z) (z.cps.toList.map fun c => V.str ⟨#[c]⟩).length (fun _ => True) (YAt (z.cps.toList.map fun c => V.str ⟨#[c]⟩)) := by
    have w0 := walk_str (z := z)
    rw [List.length_map, Array.length_toList]
    exact w0.mono (fun _ _ => trivial) fun k H v H' _ _ y => ⟨y.1, by
      obtain ⟨c, hc, rfl⟩ := y.2
      rw [List.getElem?_map, Array.getElem?_toList, hc]; rfl⟩
  exact rd_genW d w ht (fun _ _ => trivial) hel hq

/-- [f(x) for x in xs if p(x)], xs what a walk gives -/
theorem rd_lcW {J : It} {G : Hp → Prop} {xs : List V} (w : Walk J xs.length G (YAt xs)) {p : V → Bool} {f : V → V} {tt : TT} {te : TE} {i : Nat} {σ : L2.St} {H : Hp} {Q : VK} (hG : ∀ H', Sm H H' → G H') (hz : xs.length ≤ sizeLine)
    (htt : ∀ x H' (R : Bool → Hp → Prop), x ∈ xs → Sm H H' → (∀ H'', Sm H' H'' → R (p x) H'') → tt ((wipe σ [i]).set i (some x)) H' R)
    (hte : ∀ x H' (R : VK), x ∈ xs → p x = true → Sm H H' → (∀ H'', Sm H' H'' → R (f x) H'') → te ((wipe σ [i]).set i (some x)) H' R)
    (hq : ∀ D H', H D = none → Sm H H' → H' D = some (.lst ((xs.filter p).map f)) → Q (.ref D) H') :
    ∀ D, H D = none → ∃ W : Nat → Nat → Hp → Prop, (∃ m, W 0 m (upd H D (.lst []))) ∧ ∀ k m H, W k m H →
      (J.stop k H ∧ Q (.ref D) H) ∨ (J.go k H ∧ ∃ Nx : Hp → Prop, (∀ H', Nx H' → ∃ m', m' < m ∧ W (k + 1) m' H') ∧ ∀ x H', J.yld k H x H' → gName i x (wipe σ [i]) H' fun σ2 H2 => wipe σ2 [i] = wipe σ [i] ∧ tt σ2 H2 fun b H3 =>
        if b = true then te σ2 H3 fun y H4 => ∃ acc, H4 D = some (.lst acc) ∧ acc.length < sizeLine ∧ Nx (upd H4 D (.lst (acc ++ [y]))) else Nx H3) := by
  intro D hD
  refine lc_it w (Qd := fun H => Q (.ref D) H) (fun k H' => Sm H H' ∧ H' D = some (.lst (((xs.take k).filter p).map f))) ⟨Sm.new hD, upd_same⟩ (fun k H' _ q => hG H' q.1) (fun k x H' H'' hk q y => ?_) fun H' q => ?_
  · obtain ⟨rfl, hx⟩ := y
    have hm : x ∈ xs := List.mem_of_getElem? hx
    have tk : xs.take (k + 1) = xs.take k ++ [x] := by rw [List.take_add_one, hx]; rfl
    refine ⟨wipe_set σ i (some x), htt x H'' _ hm q.1 fun H3 s3 => ?_⟩
    have q3 : H3 D = some (.lst (((xs.take k).filter p).map f)) := s3.st D _ q.2 fun _ z => by cases z
    cases hp : p x with
    | false =>
      refine ifF rfl ⟨q.1.trans s3, ?_⟩
      rw [tk, List.filter_append, List.filter_cons_of_neg (by simp [hp]), List.filter_nil, List.append_nil]
      exact q3
    | true =>
      refine ifT rfl (hte x H3 _ hm hp (q.1.trans s3) fun H4 s4 => ?_)
      have q4 : H4 D = some (.lst (((xs.take k).filter p).map f)) := s4.st D _ q3 fun _ z => by cases z
      refine ⟨_, q4, ?_, Sm.own ((q.1.trans s3).trans s4) hD (fun P t => tabG_ne t q4 fun _ z => by cases z), ?_⟩
      · rw [List.length_map]
        have h1 := List.length_filter_le p (xs.take k)
        rw [List.length_take] at h1
        omega
      · rw [tk, List.filter_append, List.filter_cons_of_pos hp, List.filter_nil, List.map_append]
        exact upd_same
  · have q2 := q.2
    rw [List.take_length] at q2
    exact hq D H' hD q.1 q2
/-- a comprehension's reading, kept shut -/
@[irreducible] def tLcI (wi : TI) (g : TG) (tt : TT) (te : TE) (vs : List Nat) : TE := tLc wi g tt te vs
theorem pe_lcI {X : Cx} {elt tg iter : Expr} {ifs : List Expr} {scope : Scope} {own : List (Str × Nat)} {pos : Pos} {wi : TI} {g : TG} {tt : TT} {te : TE} (hc : X.calm = true) (hN : X.N.Nodup) (hi : PI X tg iter wi) (ok : BlkOk X.N X.env.scope scope own)
    (hg : ∀ (s : Shared) (H : Hp) (C : Addr) (cl : List (Str × Addr)) (fp : List Addr), PG (X.blk s H scope (compEnvC scope cl C X.env) fp) tg g) (ht : ∀ (s : Shared) (H : Hp) (C : Addr) (cl : List (Str × Addr)) (fp : List Addr), PTs (X.blk s H scope (compEnvC scope cl C X.env) fp) ifs tt)
    (he : ∀ (s : Shared) (H : Hp) (C : Addr) (cl : List (Str × Addr)) (fp : List Addr), PE (X.blk s H scope (compEnvC scope cl C X.env) fp) elt te) (hs : ∀ x, foldedSetIterable iter X.env x = pure x := by intro _; rfl) :
    PE X (.ListComp elt [⟨tg, iter, ifs, 0⟩] scope pos) (tLcI wi g tt te (own.map (·.2))) := by
  unfold tLcI
  exact pe_lc hc hN hi ok hg ht he hs
/-- .. over a list or a tuple in hand -/
theorem rd_lc {K : PySem.W.Frag} {a : Addr} {xs : List V} {p : V → Bool} {f : V → V} {tt : TT} {te : TE} {i : Nat} {σ : L2.St} {H : Hp} {Q : VK} (h : Sq K H a xs) (hz : xs.length ≤ sizeLine)
    (htt : ∀ x H' (R : Bool → Hp → Prop), x ∈ xs → Sm H H' → (∀ H'', Sm H' H'' → R (p x) H'') → tt ((wipe σ [i]).set i (some x)) H' R)
    (hte : ∀ x H' (R : VK), x ∈ xs → p x = true → Sm H H' → (∀ H'', Sm H' H'' → R (f x) H'') → te ((wipe σ [i]).set i (some x)) H' R)
    (hq : ∀ D H', H D = none → Sm H H' → H' D = some (.lst ((xs.filter p).map f)) → Q (.ref D) H') {tl : TE} (htl : ∀ R : VK, R (.ref a) H → tl σ H R) : tLcI (iSq K tl) (gName i) tt te [i] σ H Q := by
  unfold tLcI tLc
  refine htl _ ⟨a, rfl, ?_⟩
  rcases h with h | h
  · exact .inl ⟨⟨xs, h⟩, rd_lcW walk_list (fun H' s => s.lst h) hz htt hte hq⟩
  · exact .inr ⟨⟨xs, h⟩, rd_lcW walk_tup (fun H' s => s.tup h) hz htt hte hq⟩

/-- a for's reading, kept shut -/
@[irreducible] def tForI (wi : TI) (g : TG) (tb : TS) : TS := tFor wi g tb
theorem ps_forI {X : Cx} {tg iter : Expr} {body : List Stmt} {wi : TI} {g : TG} {tb : TS} {pos : Pos} (hp : PassesOwn (model X.prog X.w) X.A X.env X.xe) (hc : X.calm = true) (hi : PI X tg iter wi) (hg : PG X tg g) (hb : PSs X body tb)
    (hs : ∀ x, foldedSetIterable iter X.env x = pure x := by intro _; rfl) : PS X (.For tg iter body [] pos) (tForI wi g tb) := by
  unfold tForI
  exact ps_for hp hc hi hg hb hs
/-- for x in xs, a list or a tuple that stands since H0: Pv by the turn, the slots, the heap -/
theorem rd_for {K : PySem.W.Frag} {a : Addr} {xs : List V} {tb : TS} {D : Ends} {σ : L2.St} {H H0 : Hp} {i : Nat} (h : Sq K H0 a xs) (Pv : Nat → L2.St → Hp → Prop) (h0 : Pv 0 σ H) (hG : ∀ k σ' H', Pv k σ' H' → Sm H0 H')
    (hs : ∀ k x σ' H', xs[k]? = some x → Pv k σ' H' → tb { D with nx := Pv (k + 1), ct := Pv (k + 1), bk := D.nx } (σ'.set i (some x)) H') (hd : ∀ σ' H', Pv xs.length σ' H' → D.nx σ' H') {tl : TE} (htl : ∀ R : VK, R (.ref a) H → tl σ H R) :
    tForI (iSq K tl) (gName i) tb D σ H := by
  unfold tForI tFor
  refine htl _ ⟨a, rfl, ?_⟩
  have s0 := hG 0 σ H h0
  rcases h with h | h
  · exact .inl ⟨⟨xs, s0.lst h⟩, for_it walk_list Pv h0 (fun k σ' H' _ p => (hG k σ' H' p).lst h) (fun k x σ' H' H'' _ p y => by obtain ⟨rfl, hx⟩ := y; exact hs k x σ' H'' hx p) hd⟩
  · exact .inr ⟨⟨xs, s0.tup h⟩, for_it walk_tup Pv h0 (fun k σ' H' _ p => (hG k σ' H' p).tup h) (fun k x σ' H' H'' _ p y => by obtain ⟨rfl, hx⟩ := y; exact hs k x σ' H'' hx p) hd⟩
/-- what an exception that a call lets out becomes in a def that lets it out -/
theorem passX {X : Cx} {E : XK} (tk : Takes X (fun cls d _ H => E cls d H)) : Passes (L2.CX X.prog X.w) X E := passes_call tk fun _ _ _ _ h => h

theorem Paired.get {α β : Type} {F : α → β → Prop} : ∀ {xs : List α} {ys : List β} {i : Nat} {x : α}, Paired F xs ys → xs[i]? = some x → ∃ y, ys[i]? = some y ∧ F x y
  | _, _, _, _, .nil, e => by simp at e
  | _, _, 0, _, .cons r _, e => by simp at e; subst e; exact ⟨_, rfl, r⟩
  | _, _, i + 1, x, .cons _ t, e => by
    obtain ⟨y, h1, h2⟩ := Paired.get (i := i) t (by simpa using e)
    exact ⟨y, by simpa using h1, h2⟩
theorem Paired.mem {α β : Type} {F : α → β → Prop} {xs : List α} {ys : List β} {x : α} (h : Paired F xs ys) (hx : x ∈ xs) : ∃ y, y ∈ ys ∧ F x y := by
  obtain ⟨i, hi⟩ := List.mem_iff_getElem?.mp hx
  obtain ⟨y, e, r⟩ := Paired.get h hi
  exact ⟨y, List.mem_of_getElem? e, r⟩
theorem Paired.snoc {α β : Type} {F : α → β → Prop} : ∀ {xs : List α} {ys : List β} {x : α} {y : β}, Paired F xs ys → F x y → Paired F (xs ++ [x]) (ys ++ [y])
  | _, _, _, _, .nil, r => .cons r .nil
  | _, _, _, _, .cons q t, r => .cons q (Paired.snoc t r)
theorem Paired.imp {α β : Type} {F G : α → β → Prop} (h : ∀ x y, F x y → G x y) : ∀ {xs : List α} {ys : List β}, Paired F xs ys → Paired G xs ys
  | _, _, .nil => .nil
  | _, _, .cons q t => .cons (h _ _ q) (Paired.imp h t)
theorem Paired.len {α β : Type} {F : α → β → Prop} {xs : List α} {ys : List β} (h : Paired F xs ys) : xs.length = ys.length := by
  induction h with
  | nil => rfl
  | cons _ _ ih => rw [List.length_cons, List.length_cons, ih]
/-- tuples and what is locked stand -/
structure Tu (H H' : Hp) : Prop where
  tup : ∀ b xs, H b = some (.tup xs) → H' b = some (.tup xs)
  frz : ∀ b o u, H b = some (.frz o u) → H' b = some (.frz o u)
theorem Sm.tu {H H' : Hp} (s : Sm H H') : Tu H H' := ⟨fun b _ e => s.st b _ e (fun _ z => by cases z), fun b _ _ e => s.st b _ e (fun _ z => by cases z)⟩
theorem Tu.trans {A B C : Hp} (a : Tu A B) (b : Tu B C) : Tu A C := ⟨fun x y e => b.tup x y (a.tup x y e), fun x o u e => b.frz x o u (a.frz x o u e)⟩
theorem Tu.lset {H : Hp} {l : Addr} {xs : List V} {o : HO} (e : H l = some (.lst xs)) : Tu H (upd H l o) :=
  ⟨fun b y q => by rw [upd_ne (ne_of q e (by intro z; cases z))]; exact q, fun b y u q => by rw [upd_ne (ne_of q e (by intro z; cases z))]; exact q⟩
theorem Tu.sqt {K : PySem.W.Frag} {H H' : Hp} {a : Addr} {xs : List V} (s : Tu H H') (h : SqT K H a xs) : SqT K H' a xs := by
  rcases h with (h | ⟨o, h⟩) | h
  · exact .inl (.inl (s.tup _ _ h))
  · exact .inl (.inr ⟨o, s.frz _ _ _ h⟩)
  · exact .inr h
/-- [g for x in us if q], what is behind each x told by a pairing -/
theorem rd_lcP {κ : Type} {F : V → κ → Prop} {us : List V} {ks : List κ} (hp : Paired F us ks) {K : PySem.W.Frag} {a : Addr} {q : κ → Bool} {g : V → κ → V} {tt : TT} {te : TE} {i : Nat} {σ : L2.St} {H : Hp} {Q : VK} (h : Sq K H a us) (hz : us.length ≤ sizeLine)
    (htt : ∀ x y H' (R : Bool → Hp → Prop), F x y → y ∈ ks → Sm H H' → (∀ H'', Sm H' H'' → R (q y) H'') → tt ((wipe σ [i]).set i (some x)) H' R)
    (hte : ∀ x y H' (R : VK), F x y → y ∈ ks → q y = true → Sm H H' → (∀ H'', Sm H' H'' → R (g x y) H'') → te ((wipe σ [i]).set i (some x)) H' R)
    (hq : ∀ D H', H D = none → Sm H H' → H' D = some (.lst (((us.zip ks).filter fun z => q z.2).map fun z => g z.1 z.2)) → Q (.ref D) H') {tl : TE} (htl : ∀ R : VK, R (.ref a) H → tl σ H R) : tLcI (iSq K tl) (gName i) tt te [i] σ H Q := by
  have core : ∀ (J : It) (G : Hp → Prop), Walk J us.length G (YAt us) → (∀ H', Sm H H' → G H') → ∀ D, H D = none → ∃ W : Nat → Nat → Hp → Prop, (∃ m, W 0 m (upd H D (.lst []))) ∧ ∀ k m H, W k m H →
      (J.stop k H ∧ Q (.ref D) H) ∨ (J.go k H ∧ ∃ Nx : Hp → Prop, (∀ H', Nx H' → ∃ m', m' < m ∧ W (k + 1) m' H') ∧ ∀ x H', J.yld k H x H' → gName i x (wipe σ [i]) H' fun σ2 H2 => wipe σ2 [i] = wipe σ [i] ∧ tt σ2 H2 fun b H3 =>
        if b = true then te σ2 H3 fun y H4 => ∃ acc, H4 D = some (.lst acc) ∧ acc.length < sizeLine ∧ Nx (upd H4 D (.lst (acc ++ [y]))) else Nx H3) := by
    intro J G w hG D hD
    refine lc_it w (Qd := fun H => Q (.ref D) H) (fun k H' => Sm H H' ∧ H' D = some (.lst ((((us.zip ks).take k).filter fun z => q z.2).map fun z => g z.1 z.2))) ⟨Sm.new hD, upd_same⟩ (fun k H' _ z => hG H' z.1) (fun k x H' H'' hk r y => ?_) fun H' r => ?_
    · obtain ⟨rfl, hx⟩ := y
      obtain ⟨y, hy, hF⟩ := Paired.get hp hx
      have hm := List.mem_of_getElem? hy
      have hzp : (us.zip ks)[k]? = some (x, y) := by
        rw [List.getElem?_zip_eq_some]
        exact ⟨hx, hy⟩
      have tk : (us.zip ks).take (k + 1) = (us.zip ks).take k ++ [(x, y)] := by rw [List.take_add_one, hzp]; rfl
      refine ⟨wipe_set σ i (some x), htt x y H'' _ hF hm r.1 fun H3 s3 => ?_⟩
      have q3 := s3.st D _ r.2 fun _ z => by cases z
      cases hpy : q y with
      | false =>
        refine ifF rfl ⟨r.1.trans s3, ?_⟩
        rw [tk, List.filter_append, List.filter_cons_of_neg (by simp [hpy]), List.filter_nil, List.append_nil]
        exact q3
      | true =>
        refine ifT rfl (hte x y H3 _ hF hm hpy (r.1.trans s3) fun H4 s4 => ?_)
        have q4 := s4.st D _ q3 fun _ z => by cases z
        refine ⟨_, q4, ?_, Sm.own ((r.1.trans s3).trans s4) hD (fun P t => tabG_ne t q4 fun _ z => by cases z), ?_⟩
        · rw [List.length_map]
          have h1 := List.length_filter_le (fun z : V × κ => q z.2) ((us.zip ks).take k)
          rw [List.length_take] at h1
          omega
        · rw [tk, List.filter_append, List.filter_cons_of_pos (by simpa using hpy), List.filter_nil, List.map_append]
          exact upd_same
    · have q2 := r.2
      rw [List.take_of_length_le (by rw [List.length_zip]; omega)] at q2
      exact hq D H' hD r.1 q2
  unfold tLcI tLc
  refine htl _ ⟨a, rfl, ?_⟩
  rcases h with h | h
  · exact .inl ⟨⟨us, h⟩, core _ _ walk_list fun H' s => s.lst h⟩
  · exact .inr ⟨⟨us, h⟩, core _ _ walk_tup fun H' s => s.tup h⟩
theorem zip_all {κ : Type} {F : V → κ → Prop} {us : List V} {ks : List κ} (hp : Paired F us ks) (g : κ → V) : ((us.zip ks).filter fun _ => true).map (fun z => g z.2) = ks.map g := by
  have e : (us.zip ks).map Prod.snd = ks := List.map_snd_zip (by rw [Paired.len hp]; exact Nat.le_refl _)
  rw [List.filter_eq_self.mpr (fun _ _ => rfl)]
  conv => rhs; rw [← e]
  rw [List.map_map]
  rfl
theorem zip_len {κ : Type} {F : V → κ → Prop} {us : List V} {ks : List κ} (hp : Paired F us ks) (q : κ → Bool) (g : V → κ → V) : (((us.zip ks).filter fun z => q z.2).map fun z => g z.1 z.2).length = (ks.filter q).length := by
  have e : (us.zip ks).map Prod.snd = ks := List.map_snd_zip (by rw [Paired.len hp]; exact Nat.le_refl _)
  conv => rhs; rw [← e]
  rw [List.length_map, List.filter_map, List.length_map]
  rfl

theorem miss_of {P : Params} {z : Str} : ∀ {l : List DictEntry} {ks : List Str}, l.map He.keyOf = He.keysIn P ks → z ∉ ks → l.find? (fun e => e.key.isStr z) = none ∧ l.any (fun e => e.refKey) = false
  | [], _, _, _ => ⟨rfl, rfl⟩
  | e :: r, [], h, _ => by cases h
  | e :: r, k :: ks, h, hz => by
    have h1 : He.keyOf e :: r.map He.keyOf = some (k, PyData.keyHash P k) :: He.keysIn P ks := h
    injection h1 with h2 h3
    obtain ⟨i1, i2⟩ := miss_of (z := z) h3 (fun q => hz (List.mem_cons_of_mem _ q))
    unfold He.keyOf at h2
    split at h2
    · rename_i x t q
      have h5 : x = k := (Prod.mk.inj (Option.some.inj h2)).1
      have nz : x ≠ z := fun y => hz (by rw [← y, h5]; exact List.mem_cons_self)
      have e1 : e.key.isStr z = false := by
        rw [q]
        show (x == z) = false
        simpa using nz
      have e2 : e.refKey = false := by
        unfold DictEntry.refKey
        rw [q]
      exact ⟨by rw [List.find?_cons_of_neg (by simp [e1])]; exact i1, by rw [List.any_cons, e2, i2]; rfl⟩
    · cases h2
/-- a written dict with text keys and ints: what it has -/
def KLook (K : PySem.W.Frag) (w : World) (a : Addr) (kvs : List (Str × Int)) : Prop := ∀ z, (∀ i, kvs.lookup z = some i → KDct K w a z (.int i)) ∧ KHas K w a z (kvs.lookup z).isSome
theorem lookup_some {α : Type} {z : Str} {i : α} : ∀ {l : List (Str × α)}, l.lookup z = some i → (z, i) ∈ l
  | (k, v) :: r, h => by
    rw [List.lookup_cons] at h
    cases e : z == k with
    | true => rw [e] at h; cases h; rw [beq_iff_eq.mp e]; exact List.mem_cons_self
    | false => rw [e] at h; exact List.mem_cons_of_mem _ (lookup_some h)
theorem lookup_none {α : Type} {z : Str} : ∀ {l : List (Str × α)}, l.lookup z = none → z ∉ l.map (·.1)
  | [], _ => by simp
  | (k, v) :: r, h => by
    rw [List.lookup_cons] at h
    cases e : z == k with
    | true => rw [e] at h; cases h
    | false =>
      rw [e] at h
      have n := lookup_none h
      intro q
      rcases List.mem_cons.mp q with q | q
      · have q : z = k := q
        rw [q] at e; simp at e
      · exact n q
theorem klook_of {K : PySem.W.Frag} {w : World} {a : Addr} {kvs : List (Str × Int)} (h : He.dicW K a = some (He.keysIn w.params (kvs.map (·.1)))) (hv : He.valsB K a (kvs.map fun q => (q.1, He.Dv.int q.2)) = true) : KLook K w a kvs := by
  obtain ⟨es, n, D⟩ := He.dicW_ok h
  have hk : es.toList.map He.keyOf = He.keysIn w.params (kvs.map (·.1)) := by
    unfold He.dicW at h
    rw [D.at_] at h
    simp only [decide_true, Bool.true_and, D.low, Bool.not_false, Bool.and_true] at h
    exact Option.some.inj h
  intro z
  cases e : kvs.lookup z with
  | some i =>
    have hm := lookup_some e
    obtain ⟨u, h1, h2⟩ := He.valsB_ok hv (q := (z, .int i)) (List.mem_map.mpr ⟨(z, i), hm, rfl⟩)
    exact ⟨fun j hj => by cases hj; exact ⟨es, n, u, D.at_, D.lit, h1, h2⟩, es, n, some u, D.at_, D.lit, D.low, h1, rfl⟩
  | none =>
    obtain ⟨m1, m2⟩ := miss_of hk (lookup_none e)
    refine ⟨fun j hj => (by cases hj), es, n, none, D.at_, D.lit, D.low, ?_, rfl⟩
    unfold PySem.W.nsIn
    rw [D.at_]
    dsimp only
    rw [m1, m2]
    rfl

/-- an if whose test gives b and lets the heap grow -/
theorem rd_ifN {c : TT} {t rest : TS} {D : Ends} {σ : L2.St} {H : Hp} (b : Bool) (hc : ∀ R : Bool → Hp → Prop, (∀ H1, Sm H H1 → R b H1) → c σ H R) (hT : b = true → ∀ H1, Sm H H1 → t { D with nx := rest D } σ H1) (hF : b = false → ∀ H1, Sm H H1 → rest D σ H1) :
    tSeq (tIfS c t tNext) rest D σ H := by
  refine hc _ fun H1 s1 => ?_
  cases b with
  | true => exact ifT rfl (hT rfl H1 s1)
  | false => exact ifF rfl (hF rfl H1 s1)
theorem rd_if1 {c : TT} {t : TS} {D : Ends} {σ : L2.St} {H : Hp} (b : Bool) (hc : ∀ R : Bool → Hp → Prop, (∀ H1, Sm H H1 → R b H1) → c σ H R) (hT : b = true → ∀ H1, Sm H H1 → t D σ H1) (hF : b = false → ∀ H1, Sm H H1 → D.nx σ H1) :
    tIfS c t tNext D σ H := by
  refine hc _ fun H1 s1 => ?_
  cases b with
  | true => exact ifT rfl (hT rfl H1 s1)
  | false => exact ifF rfl (hF rfl H1 s1)
theorem at0 {α : Type} {x : α} {xs : List α} : atI (x :: xs) 0 = some x := atI_nat (j := 0) rfl

/-- a promise that lets nothing out where nothing is raised -/
theorem quiet {P : Program} {w : World} {K : PySem.W.Frag} {mg : Str → Option Value} {base : Heap} {k : Nat} {f : Addr} {fd : FuncData} {ps : List Str} {sp : Sp} (F : FnOk P w K mg base (L2.CX P w) k f fd ps sp) :
    FnOk P w K mg base CX0 k f fd ps (fun vs H Q _ => sp vs H Q fun _ _ _ => False) := by
  refine ⟨fun vs H Q E h => F.len _ _ _ _ h, fun A outer s H args us vs Q E hr e0 hb hv h => codeAny_mono (F.run A outer s H args us vs Q _ hr e0 hb hv h) fun r s' q => ?_⟩
  cases r with
  | ok fl => cases fl <;> exact q
  | error e =>
    obtain ⟨_, _, _, _, _, _, _, _, _, _, _, _, z⟩ := q
    exact z.elim
/-- name = [..], kept shut -/
theorem ps_setLcI {X : Cx} {i : Nat} {y : Str} {py : Pos} {elt tg iter : Expr} {ifs : List Expr} {scope : Scope} {own : List (Str × Nat)} {pos spos : Pos} {wi : TI} {g : TG} {tt : TT} {te : TE} (hc : X.calm = true) (hN : X.N.Nodup) (hy : X.N[i]? = some y) (hyl : X.env.scope.names.lookup y = some .local)
    (hsw : swapsWith (.ListComp elt [⟨tg, iter, ifs, 0⟩] scope pos) (some (.Name y py)) spos.line X.env = pure true) (hi : PI X tg iter wi) (ok : BlkOk X.N X.env.scope scope own)
    (hg : ∀ (s : Shared) (H : Hp) (C : Addr) (cl : List (Str × Addr)) (fp : List Addr), PG (X.blk s H scope (compEnvC scope cl C X.env) fp) tg g) (ht : ∀ (s : Shared) (H : Hp) (C : Addr) (cl : List (Str × Addr)) (fp : List Addr), PTs (X.blk s H scope (compEnvC scope cl C X.env) fp) ifs tt)
    (he : ∀ (s : Shared) (H : Hp) (C : Addr) (cl : List (Str × Addr)) (fp : List Addr), PE (X.blk s H scope (compEnvC scope cl C X.env) fp) elt te) (hs : ∀ x, foldedSetIterable iter X.env x = pure x := by intro _; rfl) :
    PS X (.Assign [.Name y py] (.ListComp elt [⟨tg, iter, ifs, 0⟩] scope pos) spos) (tAsg (tLcI wi g tt te (own.map (·.2))) (gName i)) := by
  unfold tLcI
  exact ps_setLc hc hN hy hyl hsw hi ok hg ht he hs

/-- [g for x in us], each item told by a relation that the growing heap keeps; the source comes by a reading of its own -/
theorem rd_lcR {κ ρ : Type} {F : V → κ → Prop} {us : List V} {ks : List κ} (hp : Paired F us ks) {K : PySem.W.Frag} {Rel : Hp → V → ρ → Prop} {h : κ → ρ} {te : TE} {i : Nat} {σ : L2.St} {H : Hp} {Q : VK} (hz : us.length ≤ sizeLine) {tl : TE}
    (htl : ∀ R : VK, (∀ a H1, Sm H H1 → Sq K H1 a us → R (.ref a) H1) → tl σ H R) (mono : ∀ {H' H'' : Hp} {v : V} {z : ρ}, Tu H' H'' → Rel H' v z → Rel H'' v z)
    (hte : ∀ x y H' (R : VK), F x y → y ∈ ks → Sm H H' → (∀ v H'', Sm H' H'' → Rel H'' v (h y) → R v H'') → te ((wipe σ [i]).set i (some x)) H' R)
    (hq : ∀ D H' vs, H D = none → Sm H H' → H' D = some (.lst vs) → Paired (Rel H') vs (ks.map h) → Q (.ref D) H') : tLcI (iSq K tl) (gName i) tYes te [i] σ H Q := by
  have core : ∀ (H1 : Hp), Sm H H1 → ∀ (J : It) (G : Hp → Prop), Walk J us.length G (YAt us) → (∀ H', Sm H1 H' → G H') → ∀ D, H1 D = none → ∃ W : Nat → Nat → Hp → Prop, (∃ m, W 0 m (upd H1 D (.lst []))) ∧ ∀ k m H, W k m H →
      (J.stop k H ∧ Q (.ref D) H) ∨ (J.go k H ∧ ∃ Nx : Hp → Prop, (∀ H', Nx H' → ∃ m', m' < m ∧ W (k + 1) m' H') ∧ ∀ x H', J.yld k H x H' → gName i x (wipe σ [i]) H' fun σ2 H2 => wipe σ2 [i] = wipe σ [i] ∧ tYes σ2 H2 fun b H3 =>
        if b = true then te σ2 H3 fun y H4 => ∃ acc, H4 D = some (.lst acc) ∧ acc.length < sizeLine ∧ Nx (upd H4 D (.lst (acc ++ [y]))) else Nx H3) := by
    intro H1 s1 J G w hG D hD
    refine lc_it w (Qd := fun H => Q (.ref D) H) (fun k H' => Sm H1 H' ∧ ∃ vs, H' D = some (.lst vs) ∧ vs.length = k ∧ Paired (Rel H') vs ((ks.take k).map h)) ⟨Sm.new hD, [], upd_same, rfl, .nil⟩ (fun k H' _ z => hG H' z.1) (fun k x H' H'' hk r y => ?_) fun H' r => ?_
    · obtain ⟨rfl, hx⟩ := y
      obtain ⟨y, hy, hF⟩ := Paired.get hp hx
      have hm := List.mem_of_getElem? hy
      have tk : ks.take (k + 1) = ks.take k ++ [y] := by rw [List.take_add_one, hy]; rfl
      obtain ⟨r1, vs, r2, r3, r4⟩ := r
      refine ⟨wipe_set σ i (some x), ?_⟩
      dsimp only [tYes]
      rw [if_pos rfl]
      refine hte x y H'' _ hF hm (s1.trans r1) fun v H4 s4 hv => ?_
      have q4 := s4.st D _ r2 fun _ z => by cases z
      have t4 : Tu H4 (upd H4 D (.lst (vs ++ [v]))) := Tu.lset q4
      refine ⟨vs, q4, by omega, Sm.own (r1.trans s4) hD (fun P t => tabG_ne t q4 fun _ z => by cases z), vs ++ [v], upd_same, by rw [List.length_append, r3]; rfl, ?_⟩
      rw [tk, List.map_append]
      exact Paired.snoc (Paired.imp (fun _ _ z => mono (s4.tu.trans t4) z) r4) (mono t4 hv)
    · obtain ⟨r1, vs, r2, r3, r4⟩ := r
      rw [List.take_of_length_le (by rw [Paired.len hp]; exact Nat.le_refl _)] at r4
      exact hq D H' vs (s1.fr D hD) (s1.trans r1) r2 r4
  unfold tLcI tLc
  refine htl _ fun a H1 s1 hs => ⟨a, rfl, ?_⟩
  rcases hs with hs | hs
  · exact .inl ⟨⟨us, hs⟩, core H1 s1 _ _ walk_list fun H' s => s.lst hs⟩
  · exact .inr ⟨⟨us, hs⟩, core H1 s1 _ _ walk_tup fun H' s => s.tup hs⟩
theorem inT {K : PySem.W.Frag} {H' : Hp} {a : Addr} {x : Str} {ys : List Str} {R : V → Hp → Prop} (h : TxL K H' a ys) (q : R (.bl (ys.contains x)) H') : rIn K false (.str x) (.ref a) H' R := by
  refine ⟨a, ys.map V.str, rfl, h, rfl, by rw [List.all_map, List.all_eq_true]; intro x _; rfl, ?_⟩
  have e : inV (.str x) (ys.map V.str) = ys.contains x := by
    unfold inV
    rw [List.any_map, Bool.eq_iff_iff, List.any_eq_true]
    constructor
    · rintro ⟨y, hy, e⟩
      have e : (y == x) = true := e
      rw [← beq_iff_eq.mp e]
      simpa using hy
    · intro h
      exact ⟨x, by simpa using h, by show (x == x) = true; simp⟩
  rw [if_neg Bool.false_ne_true, e]
  exact q
theorem niT {K : PySem.W.Frag} {H' : Hp} {a : Addr} {x : Str} {ys : List Str} {R : V → Hp → Prop} (h : TxL K H' a ys) (q : R (.bl (!ys.contains x)) H') : rIn K true (.str x) (.ref a) H' R := by
  obtain ⟨p, xs, e1, e2, e3, e4, e5⟩ := inT (R := fun v H2 => v = .bl (ys.contains x) ∧ H2 = H') h ⟨rfl, rfl⟩
  refine ⟨p, xs, e1, e2, e3, e4, ?_⟩
  rw [if_neg Bool.false_ne_true] at e5
  have e6 : inV (.str x) xs = ys.contains x := V.bl.inj e5.1
  rw [if_pos rfl, e6]
  exact q
/-- for k in range(n) -/
theorem rd_forR {ta : TA} {n : Nat} {tb : TS} {D : Ends} {σ : L2.St} {H : Hp} {i : Nat} (hn : n < 2 ^ 62) (Pv : Nat → L2.St → Hp → Prop) (h0 : Pv 0 σ H)
    (hs : ∀ k σ' H', k < n → Pv k σ' H' → tb { D with nx := Pv (k + 1), ct := Pv (k + 1), bk := D.nx } (σ'.set i (some (.int (k : Int)))) H') (hd : ∀ σ' H', Pv n σ' H' → D.nx σ' H') (hta : ∀ R : List V → Hp → Prop, R [.int (n : Int)] H → ta σ H R) :
    tForI (iRng1 ta) (gName i) tb D σ H := by
  unfold tForI tFor
  refine hta _ ⟨n, rfl, by omega, by omega, ?_⟩
  refine for_it (walk_range (n := n)) Pv h0 (fun _ _ _ _ _ => trivial) (fun k x σ' H' H'' hk p y => ?_) hd
  obtain ⟨rfl, rfl⟩ := y
  have := hs k σ' _ hk p
  rw [← Int.zero_add (k : Int)] at this
  exact this
/-- for c in a text -/
theorem rd_forS {z : Str} {tb : TS} {D : Ends} {σ : L2.St} {H : Hp} {i : Nat} (Pv : Nat → L2.St → Hp → Prop) (h0 : Pv 0 σ H)
    (hs : ∀ k c σ' H', z.cps.toList[k]? = some c → Pv k σ' H' → tb { D with nx := Pv (k + 1), ct := Pv (k + 1), bk := D.nx } (σ'.set i (some (.str ⟨#[c]⟩))) H') (hd : ∀ σ' H', Pv z.cps.toList.length σ' H' → D.nx σ' H') {tl : TE} (htl : ∀ R : VK, R (.str z) H → tl σ H R) :
    tForI (iStr tl) (gName i) tb D σ H := by
  unfold tForI tFor
  refine htl _ ⟨z, rfl, ?_⟩
  have w0 := walk_str (z := z)
  rw [Array.length_toList] at hd
  refine for_it w0 Pv h0 (fun _ _ _ _ _ => trivial) (fun k x σ' H' H'' hk p y => ?_) hd
  obtain ⟨rfl, c, hc, rfl⟩ := y
  exact hs k c σ' _ (by rw [Array.getElem?_toList]; exact hc) p
/-- what a for over a list asks at its beginning -/
def ForB (K : PySem.W.Frag) (a : Addr) (xs : List V) (i : Nat) (tb : TS) (D : Ends) (σ : L2.St) (H1 : Hp) : Prop := ∃ Pv : Nat → L2.St → Hp → Prop, Pv 0 σ H1 ∧ (∀ k σ' H', Pv k σ' H' → SqL K H' a xs) ∧
  (∀ k x σ' H', xs[k]? = some x → Pv k σ' H' → tb { D with nx := Pv (k + 1), ct := Pv (k + 1), bk := D.nx } (σ'.set i (some x)) H') ∧ ∀ σ' H', Pv xs.length σ' H' → D.nx σ' H'
/-- for x in f(..): the list comes by a reading of its own -/
theorem rd_forC {K : PySem.W.Frag} {tb : TS} {D : Ends} {σ : L2.St} {H : Hp} {i : Nat} {tl : TE} (htl : ∀ R : VK, (∀ a xs H1, ForB K a xs i tb D σ H1 → R (.ref a) H1) → tl σ H R) : tForI (iSq K tl) (gName i) tb D σ H := by
  unfold tForI tFor
  exact htl _ fun a xs H1 ⟨Pv, h0, hG, hs, hd⟩ => ⟨a, rfl, .inl ⟨⟨xs, hG _ _ _ h0⟩, for_it walk_list Pv h0 (fun k σ' H' _ p => hG k σ' H' p) (fun k x σ' H' H'' _ p y => by obtain ⟨rfl, hx⟩ := y; exact hs k x σ' H'' hx p) hd⟩⟩
theorem cut_take (xs : List V) (m : Nat) : cutV xs none (some (m : Int)) = xs.take m := by
  unfold cutV
  have e2 : HT.sIx xs.length xs.length (some (m : Int)) = min m xs.length := by
    show (if (m : Int) < 0 then ((m : Int) + (xs.length : Int)).toNat else min (m : Int).toNat xs.length) = _
    rw [if_neg (by omega)]
    rfl
  have e1 : HT.sIx xs.length 0 none = 0 := rfl
  rw [e1, e2]
  show xs.take (min m xs.length - 0) = xs.take m
  rw [Nat.sub_zero, List.take_eq_take_iff]
  omega
/-- a comprehension whose values are told by a relation that the growing heap keeps, over what a walk gives -/
theorem rd_lcRW {J : It} {G : Hp → Prop} {κ ρ : Type} {F : V → κ → Prop} {us : List V} {ks : List κ} (hp : Paired F us ks) {Rel : Hp → V → ρ → Prop} {h : κ → ρ} {te : TE} {i : Nat} {σ : L2.St} {H H1 : Hp} {Q : VK} (hz : us.length ≤ sizeLine)
    (mono : ∀ {H' H'' : Hp} {v : V} {z : ρ}, Tu H' H'' → Rel H' v z → Rel H'' v z)
    (hte : ∀ x y H' (R : VK), F x y → y ∈ ks → Sm H H' → (∀ v H'', Sm H' H'' → Rel H'' v (h y) → R v H'') → te ((wipe σ [i]).set i (some x)) H' R)
    (hq : ∀ D H' vs, H D = none → Sm H H' → H' D = some (.lst vs) → Paired (Rel H') vs (ks.map h) → Q (.ref D) H')
    (s1 : Sm H H1) (w : Walk J us.length G (YAt us)) (hG : ∀ H', Sm H1 H' → G H') : ∀ D, H1 D = none → ∃ W : Nat → Nat → Hp → Prop, (∃ m, W 0 m (upd H1 D (.lst []))) ∧ ∀ k m H, W k m H →
      (J.stop k H ∧ Q (.ref D) H) ∨ (J.go k H ∧ ∃ Nx : Hp → Prop, (∀ H', Nx H' → ∃ m', m' < m ∧ W (k + 1) m' H') ∧ ∀ x H', J.yld k H x H' → gName i x (wipe σ [i]) H' fun σ2 H2 => wipe σ2 [i] = wipe σ [i] ∧ tYes σ2 H2 fun b H3 =>
        if b = true then te σ2 H3 fun y H4 => ∃ acc, H4 D = some (.lst acc) ∧ acc.length < sizeLine ∧ Nx (upd H4 D (.lst (acc ++ [y]))) else Nx H3) := by
  intro D hD
  refine lc_it w (Qd := fun H => Q (.ref D) H) (fun k H' => Sm H1 H' ∧ ∃ vs, H' D = some (.lst vs) ∧ vs.length = k ∧ Paired (Rel H') vs ((ks.take k).map h)) ⟨Sm.new hD, [], upd_same, rfl, .nil⟩ (fun k H' _ z => hG H' z.1) (fun k x H' H'' hk r y => ?_) fun H' r => ?_
  · obtain ⟨rfl, hx⟩ := y
    obtain ⟨y, hy, hF⟩ := Paired.get hp hx
    have hm := List.mem_of_getElem? hy
    have tk : ks.take (k + 1) = ks.take k ++ [y] := by rw [List.take_add_one, hy]; rfl
    obtain ⟨r1, vs, r2, r3, r4⟩ := r
    refine ⟨wipe_set σ i (some x), ?_⟩
    dsimp only [tYes]
    rw [if_pos rfl]
    refine hte x y H'' _ hF hm (s1.trans r1) fun v H4 s4 hv => ?_
    have q4 := s4.st D _ r2 fun _ z => by cases z
    have t4 : Tu H4 (upd H4 D (.lst (vs ++ [v]))) := Tu.lset q4
    refine ⟨vs, q4, by omega, Sm.own (r1.trans s4) hD (fun P t => tabG_ne t q4 fun _ z => by cases z), vs ++ [v], upd_same, by rw [List.length_append, r3]; rfl, ?_⟩
    rw [tk, List.map_append]
    exact Paired.snoc (Paired.imp (fun _ _ z => mono (s4.tu.trans t4) z) r4) (mono t4 hv)
  · obtain ⟨r1, vs, r2, r3, r4⟩ := r
    rw [List.take_of_length_le (by rw [Paired.len hp]; exact Nat.le_refl _)] at r4
    exact hq D H' vs (s1.fr D hD) (s1.trans r1) r2 r4
theorem pair_range : ∀ n, Paired (fun (v : V) (k : Nat) => v = .int (k : Int)) ((List.range n).map fun k : Nat => V.int (k : Int)) (List.range n) := fun n => by
  generalize List.range n = l
  induction l with
  | nil => exact .nil
  | cons a r ih => exact .cons rfl ih
theorem walk_rng {n : Nat} : Walk (Itr 0 n) ((List.range n).map fun k : Nat => V.int (k : Int)).length (fun _ => True) (YAt ((List.range n).map fun k : Nat => V.int (k : Int))) := by
  have e : ((List.range n).map fun k : Nat => V.int (k : Int)).length = n := by rw [List.length_map, List.length_range]
  rw [e]
  exact (walk_range (lo := 0) (n := n)).mono (fun _ _ => trivial) fun k H v H' hk _ y => ⟨y.1, by
    rw [List.getElem?_map, List.getElem?_range hk, y.2]
    show some (V.int (k : Int)) = some (V.int (0 + (k : Int)))
    rw [Int.zero_add]⟩
/-- [g for k in range(n)] -/
theorem rd_lcRN {ρ : Type} {ta : TA} {n : Nat} {Rel : Hp → V → ρ → Prop} {h : Nat → ρ} {te : TE} {i : Nat} {σ : L2.St} {H : Hp} {Q : VK} (hz : n ≤ 100000) (hta : ∀ R : List V → Hp → Prop, (∀ H1, Sm H H1 → R [.int (n : Int)] H1) → ta σ H R)
    (mono : ∀ {H' H'' : Hp} {v : V} {z : ρ}, Tu H' H'' → Rel H' v z → Rel H'' v z)
    (hte : ∀ k H' (R : VK), k < n → Sm H H' → (∀ v H'', Sm H' H'' → Rel H'' v (h k) → R v H'') → te ((wipe σ [i]).set i (some (.int (k : Int)))) H' R)
    (hq : ∀ D H' vs, H D = none → Sm H H' → H' D = some (.lst vs) → Paired (Rel H') vs ((List.range n).map h) → Q (.ref D) H') : tLcI (iRng1 ta) (gName i) tYes te [i] σ H Q := by
  unfold tLcI tLc
  refine hta _ fun H1 s1 => ⟨n, rfl, by omega, by omega, ?_⟩
  have e : ((n : Int)).toNat = n := rfl
  rw [e]
  refine rd_lcRW (G := fun _ => True) (Rel := Rel) (h := h) (pair_range n) (by rw [List.length_map, List.length_range]; unfold sizeLine; omega) mono (fun x k H' R hF hm s hR => ?_) hq s1 walk_rng fun _ _ => trivial
  subst hF
  exact hte k H' R (List.mem_range.mp hm) s hR
/-- plain values -/
theorem pair_eq {vs : List V} : ∀ {ws : List V}, Paired (fun v z => v = z) vs ws → vs = ws := by
  induction vs with
  | nil => intro ws h; cases h; rfl
  | cons a r ih => intro ws h; cases h with | cons h t => rw [h, ih t]
end GD

-- part SU1
set_option Elab.async false
set_option linter.all false
set_option maxRecDepth 100000
set_option maxHeartbeats 2000000
/-! super().__init__(e) of an exception over ValueError -/
namespace SU
open PySem PySem.W PySem.Calls PyProof.Rows PySem.HandSPX
abbrev vi : Value := .builtin "ValueError.__init__"
/-- vi bound to x -/
abbrev vb (x : Addr) : Obj := { cls := .type "method-wrapper", dict := none, data := .fields #[vi, .ref x], slots := #[] }
theorem vi_type : typeOf vi = pure (.type "wrapper_descriptor") := by
  show builtinType _ = _
  rw [builtinType_eq_fast]
  kernel_rfl
theorem vi_name : (kfb_private% "nameAndClass") vi = (pure (("__init__" : Str), Value.type "ValueError") : Sem (Str × Value)) := by
  kernel_rfl
section
variable {prog : Program} {w : World} {M : Model} {A : Around} {E : Value → Shared → Prop} {h : Heap} {g : Array GenState} {d : Drawn} {t : Nat} {os : OsState}
theorem vi_get {a B : Addr} {R : Fin → Shared → Prop} (yes : W.Looks M h (isInstance (.ref a) (.type "ValueError")) true) (r : R (.done (.ret (.ref h.objs.size))) ⟨h.push (vb a), g, d, t, os⟩) :
    wpAny M A (Builtin.«wrapper_descriptor.__get__» ⟨[vi, .ref a, .ref B], []⟩) R E ⟨h, g, d, t, os⟩ := by
  unfold Builtin.«wrapper_descriptor.__get__»
  have s1 : wpAny M A (newFields "method-wrapper" [vi, .ref a] >>= fun r => ret r) R E ⟨h, g, d, t, os⟩ := wpAny_bind (wpAny_newObj_type (wpAny_pure r))
  refine wpAny_bind (wpAny_of_eq (a := (vi, some (.ref a), some (.ref B))) (by first | rfl | kernel_rfl) (wpAny_bind ?_))
  show wpAny M A ((kfb_private% "nameAndClass") vi >>= _) _ E _
  refine wpAny_bind (wpAny_of_eq vi_name ?_)
  show wpAny M A (isInstance (.ref a) (.type "ValueError") >>= _) _ E _
  exact wpAny_bind (yes.at (KFB.if_not rfl (wpAny_pure s1)))
/-- what super() gives within a method of D for the instance a of C -/
abbrev so3 (D a C : Addr) : Obj := { cls := .type "super", dict := none, data := .fields #[.ref D, .ref a, .ref C], slots := #[] }
theorem vi_attr {z a C : Addr} {ms bs : List Value} {K : Frag} {tk : Tok} {R : Fin → Shared → Prop} (hz : h.get? z = some (so3 C a C)) (clear : W.Looks (model prog w) h (opaqueClassAbove (.ref C)) none)
    (line : W.Looks (model prog w) h (mroOf (.ref C)) ms) (cut : (ms.dropWhile (· != .ref C)).drop 1 = bs) (kin : K.In h) (has : alongIn K "__init__" bs = some (some vi)) (apart : a ≠ C)
    (yes : W.Looks (model prog w) h (isInstance (.ref a) (.type "ValueError")) true) (r : R (.done (.ret (.ref h.objs.size))) ⟨h.push (vb a), g, d, t, os⟩) :
    wpAny (model prog w) A (Builtin.«super.__getattribute__» ⟨[.ref z, .str "__init__" tk], []⟩) R E ⟨h, g, d, t, os⟩ := by
  have lk := ESX.slot_wd.lookup
  have un : (Value.ref a == Value.ref C) = false := by simp [apart]
  have isw : Shared.TypeIs ⟨h, g, d, t, os⟩ vi "wrapper_descriptor" := vi_type
  have dt : (so3 C a C).data = .fields #[.ref C, .ref a, .ref C] := rfl
  have i0 : (#[Value.ref C, .ref a, .ref C] : Array Value)[0]? = some (.ref C) := rfl
  have i1 : (#[Value.ref C, .ref a, .ref C] : Array Value)[1]? = some (.ref a) := rfl
  have i2 : (#[Value.ref C, .ref a, .ref C] : Array Value)[2]? = some (.ref C) := rfl
  have nc : (("__init__" : Str) == ("__class__" : Str)) = false := by decide
  unfold Builtin.«super.__getattribute__»
  repeat (first
    | with_reducible refine wpAny_field hz dt i0 ?_
    | with_reducible refine wpAny_field hz dt i1 ?_
    | with_reducible refine wpAny_field hz dt i2 ?_
    | with_reducible refine ks_wpAny_notOpaque clear ?_
    | (with_reducible refine Looks.at line ?_
       rw [cut])
    | refine ks_forIn_along kin (fun _ _ => rfl) rfl ?_ has
    | with_reducible refine wpAny_call_entry ESX.slot_wd isw ESX.entry_wd ?_ (ESX.args_wd _ _ _)
    | with_reducible refine vi_get yes ?_
    | with_reducible refine ⟨_, rfl, ?_⟩
    | simp only [nc, un, Bool.or_false, Bool.false_eq_true, if_false]
    | wp_step
    | dsimp only)
  all_goals exact r
theorem vi_meth {z a C : Addr} {ms bs : List Value} {K : Frag} {pl : Sem Bool} {R : Value × List Value → Shared → Prop} (hz : h.get? z = some (so3 C a C)) (clear : W.Looks (model prog w) h (opaqueClassAbove (.ref C)) none)
    (line : W.Looks (model prog w) h (mroOf (.ref C)) ms) (cut : (ms.dropWhile (· != .ref C)).drop 1 = bs) (kin : K.In h) (has : alongIn K "__init__" bs = some (some vi)) (apart : a ≠ C)
    (yes : W.Looks (model prog w) h (isInstance (.ref a) (.type "ValueError")) true) (r : R (.ref h.objs.size, []) ⟨h.push (vb a), g, d, t + 1, os⟩) :
    wpAny (model prog w) A (getMethod (.ref z) "__init__" pl) R E ⟨h, g, d, t, os⟩ := by
  have lk := F.ks_slot_super_ga.lookup
  have own := F.ks_canon_super_ga
  have isz : ∀ u, (⟨h, g, d, u, os⟩ : Shared).TypeIs (.ref z) "super" := fun _ => ⟨_, hz, rfl⟩
  have got := wpAny_call_entry (A := A) (E := fun _ _ => False) (Q := fun v s => v = .ref h.objs.size ∧ s = ⟨h.push (vb a), g, d, t + 1, os⟩) F.ks_slot_super_ga (isz (t + 1)) F.ks_entry_super_ga
    (vi_attr (tk := t) hz clear line cut kin has apart yes ⟨_, rfl, rfl, rfl⟩) (F.ks_gaArgs_super _ _)
  unfold getMethod
  refine wpAny_bind (wpAny_specialOf (isz _) lk ?_)
  show wpAny _ _ (if (Manifest.canonical "super.__getattribute__" != "object.__getattribute__") = true then _ else _) _ _ _
  rw [if_pos own]
  unfold getAttr getAttrBy
  refine wpAny_bind (wpAny_bind (wpAny_mkText (wpAny_holding (wpAny_bind (wpAny_typeOf (isz _) (wpAny_bind (wpAny_of_eq lk ?_)))))))
  show wpAny _ _ (getAttrByItsOwn (.ref z) (.str "__init__" t) (.type "super") (.builtin "super.__getattribute__") true false) _ _ _
  unfold getAttrByItsOwn hookBefore callGetattribute boundAndCalled
  refine wpAny_bind (wpAny_of_eq (a := none) rfl (wpAny_bind (wpAny_attempt (wpAny_holding ?_))))
  show wpAny _ _ (bindSpecial (.builtin "super.__getattribute__") (.ref z) >>= _) _ _ _
  refine wpAny_bind (wpAny_of_eq (F.ks_slot_super_ga.bind _) ?_)
  refine wpAny_mono got (fun v s ⟨e1, e2⟩ => ?_) fun _ _ z => z.elim
  subst e1 e2
  exact wpAny_pure (wpAny_pure r)
end
section
variable {prog : Program} {w : World} {A : Around} {E : Value → Shared → Prop} {h : Heap} {g : Array GenState} {d : Drawn} {t : Nat} {os : OsState}
variable {nm q : Str} {C N : Addr} {bs bm : List Value} {dct : Bool} {sn : List Str} {sub : List Value} {ab : Bool} {col : Option Bool} {dd : Option Addr} {k0 k1 k2 k3 k5 : Option Value}
theorem vb_call {u a t0 : Addr} {vs : List Value} {R : Value → Shared → Prop} (cls : h.get? C = some (excClassObj nm q C N bs bm dct sn sub ab col dd k0 k1 k2 k3 k5 "ValueError.__new__")) (obj : h.get? a = some (HandSPX.excO C t0)) (bnd : h.get? u = some (vb a)) (few : vs.length ≤ sizeLine)
    (r : ∀ h' t1, (∀ b o, b ≠ a → h.get? b = some o → h'.get? b = some o) → h'.get? a = some (HandSPX.excO C t1) → R .none ⟨h', g, d, t, os⟩) : wpAny (model prog w) A (call (.ref u) vs) R E ⟨h, g, d, t, os⟩ := by
  refine wpAny_call (codeAny_of_tree ?_)
  show wpAny _ A.in1 (callAny (.ref u) ⟨vs, []⟩) _ _ _
  simp only [callAny]
  have m : (Value.type "method-wrapper" == Value.type "method" || Value.type "method-wrapper" == Value.type "builtin_function_or_method" || Value.type "method-wrapper" == Value.type "method-wrapper") = true := by decide
  refine wpAny_bind (wpAny_load bnd ?_)
  simp only [vb, m, if_true]
  refine W.KFB.if_so (by decide) (wpAny_bind (ESX.check_bound F.excBase_ValueError cls obj rfl (wpAny_bind (wpAny_pure (wpAny_pure ?_)))))
  refine ⟨Code.quiet_builtin _ (by decide +kernel), codeAny_builtin F.excBase_ValueError.initEntry ?_⟩
  rw [Around.under_plainId F.excBase_ValueError.init.plain _]
  wp_walk
  refine r _ h.objs.size (fun b o ne e => ?_) ?_
  · exact (Heap.get?_update_other _ _ (Ne.symm ne)).trans (Heap.get?_push_of_some _ e)
  · exact (Heap.get?_update_self _ (Heap.get?_push_of_some _ obj) rfl).trans rfl
/-- f(..) where f is vi bound -/
theorem vb_with {pos : Pos} {u a : Addr} {env : Env} {e : Expr} {r : List Expr} {R : Value → Shared → Prop} (b : (backTo pos (starEach r env)).any (·.1) = false) (c : starEach (e :: r) env = (false, eval e env) :: starEach r env)
    (k : wpAny (model prog w) A (spliced (backTo pos (starEach (e :: r) env))) (fun vs s1 => s1.heap.get? u = some (vb a) ∧ wpAny (model prog w) A (call (.ref u) vs) R E s1) E ⟨h, g, d, t, os⟩) :
    wpAny (model prog w) A (callWith pos (.ref u) [] (backTo pos (starEach (e :: r) env)) []) R E ⟨h, g, d, t, os⟩ := by
  rw [c] at k ⊢
  have pl : (backTo pos ((false, eval e env) :: starEach r env)).any (·.1) = false := by
    show (false || (backTo pos (starEach r env)).any (·.1)) = false
    rw [b]
    rfl
  have ev : wpAny (model prog w) A (evalArgs (.ref u) true (backTo pos ((false, eval e env) :: starEach r env)) []) (fun a1 s1 => s1.heap.get? u = some (vb a) ∧ wpAny (model prog w) A (call (.ref u) ([] ++ a1.pos) a1.kw) R E s1) E ⟨h, g, d, t, os⟩ := by
    refine evalArgs_plain ?_
    exact k
  unfold callWith
  refine wpAny_bind (wpAny_holding (wpAny_mono ev (fun a1 s1 ⟨ho, go⟩ => wpAny_bind (wpAny_standAt ?_)) fun _ _ z => z))
  simp only [pl, List.any_nil, Bool.or_false]
  refine wpAny_bind (m := keeperOf (.ref u)) ?_
  unfold keeperOf
  have m1 : (Value.type "method-wrapper" != Value.type "method") = true := by decide
  have m2 : (Value.type "method-wrapper" == Value.type "builtin_function_or_method" || Value.type "method-wrapper" == Value.type "method-wrapper") = true := by decide
  refine wpAny_bind (wpAny_load ho ?_)
  simp only [vb, m1, m2, if_true]
  exact wpAny_pure (wpAny_bind (wpAny_mono go (fun _ _ z => wpAny_bind (wpAny_holding (wpAny_point (wpAny_pure z)))) fun _ _ z => z))
end
end SU

-- part SU2
set_option Elab.async false
set_option linter.all false
set_option maxRecDepth 100000
set_option maxHeartbeats 2000000
/-! a def __init__ that begins with super().__init__(e) and keeps one value -/
namespace SU
open PySem PySem.Spec PySem.W PySem.Calls PyProof.Rows L2
/-- where the def runs -/
def cxS (CX : CXT) (P : Program) (w : World) (K : PySem.W.Frag) (mg : Str → Option Value) (base : Heap) (N : List Str) (fd : FuncData) (f : Addr) (A : Around) (outer : List Env) (s : Shared) (H : Hp) (E : XK) : Cx where
  prog := P
  w := w
  K := K
  mg := mg
  base := base
  A := A.deeper (callEnv fd s.heap.objs.size f)
  N := N
  s_0 := s
  H_0 := H
  env := callEnv fd s.heap.objs.size f
  outer := outer
  stack := callEnv fd s.heap.objs.size f :: outer
  ex := []
  fn := fun _ => false
  calm := true
  pn := []
  xe := fun e s' => wpAny (model P w) (A.deeper (callEnv fd s.heap.objs.size f)) (leaving (callEnv fd s.heap.objs.size f) e) (fun _ s'' => CX outer H s E e s'') (fun e' s'' => CX outer H s E e' s'') s'
/-- what the written part says of the class at C, of its __init__ at f -/
structure Sup (P : Program) (K : PySem.W.Frag) (C f cc : Addr) (fd : FuncData) (qual x : Str) (scope : Scope) : Prop where
  at_ : ∃ (oc : Value) (od : Option Addr) (osl : Array (Option Value)), K.lookup f = some ⟨oc, od, .func fd, osl⟩
  fsc : fd.scope = scope
  fq : fd.qualname = qual
  par : ∃ ar : Arg, (fd.params.posonlyargs ++ fd.params.args).head? = some ar ∧ ar.arg = "self"
  clo : fd.closure = [(("__class__" : Str), cc)]
  glo : fd.globals = mainGlobals
  blt : fd.builtins = builtinsNs
  cod : PySem.W.codeIn K fd.code qual = true
  cd3 : ∃ (kc : Addr) (ok : Obj) (vs : Array Value) (file : Str) (tf : Tok), fd.code = .ref kc ∧ K.lookup kc = some ok ∧ ok.data = .fields vs ∧ vs[2]? = some (.str file tf) ∧ ((P.main.file : Str) == file) = true
  top : (P.main.scope.names.lookup ("super" : Str)).isSome = false
  cel : ∃ o : Obj, K.lookup cc = some o ∧ o.data = .cell (some (.ref C))
  kind : scope.kind = .function
  co : scope.isCoroutine = false
  gen : scope.isGenerator = false
  sf : scope.names.lookup ("self" : Str) = some .local
  sx : scope.names.lookup x = some .local
  sc : scope.names.lookup ("__class__" : Str) = some .free
  ss : scope.names.lookup ("super" : Str) = some .globalImplicit
  nx : x ≠ "self"
  only : ∀ y ∈ scope.names, y.2 ≠ .cell ∧ (y.2 = .free → y.1 = "__class__")
  oex : OexC K C
  s1 : PySem.W.subIn K (.ref C) (.ref C) = some true
  s2 : PySem.W.subIn K (.ref C) (.type "ValueError") = some true
  op : PySem.W.nsIn K cStatics "thirdparty.any" = some none
  has : ∀ cd, PySem.W.clsIn K C = some cd → PySem.W.alongIn K "__init__" (cd.mro.drop 1) = some (some vi)
section
variable {CX : CXT} {P : Program} {w : World} {K : PySem.W.Frag} {mg : Str → Option Value} {base : Heap} {C f cc : Addr} {fd : FuncData} {qual x : Str} {scope : Scope} {A : Around} {outer : List Env} {s : Shared} {H : Hp} {E : XK}
theorem Sup.cells (S : Sup P K C f cc fd qual x scope) {y : Str} {c : Addr} (h : (callEnv fd s.heap.objs.size f).cells.lookup y = some c) : y = "__class__" ∧ c = cc := by
  have h : fd.closure.lookup y = some c := h
  rw [S.clo] at h
  unfold List.lookup at h
  split at h
  · rename_i e
    exact ⟨by simpa using e, (Option.some.inj h).symm⟩
  · cases h
theorem Sup.inv (S : Sup P K C f cc fd qual x scope) (hd : A.handled = none) (e0 : Env0 P w K mg base A outer s H) {v0 v1 : V} {u0 u1 : Value} (r0 : RelV v0 u0) (r1 : RelV v1 u1) {h0 : Heap} {tk : Nat}
    (ns : h0.Ns s.heap.objs.size (fun y => [(x, u1), (("self" : Str), u0)].lookup y)) (ke : ∀ b o, s.heap.get? b = some o → h0.get? b = some o) :
    Inv (cxS CX P w K mg base ["self", x] fd f A outer s H E) [] [some v0, some v1] H { s with heap := h0, toks := tk } := by
  have fs : fd.scope = scope := S.fsc
  obtain ⟨oc, hc, dc⟩ := S.cel
  have kb := e0.mod.kin
  refine ⟨⟨e0.mod, by show fd.scope.kind = _; rw [fs]; exact S.kind, S.glo, S.blt, Nat.le_refl _, fun y z c h1 h2 => (S.cells h1).1.trans (S.cells h2).1.symm, fun y hy => ?_, fun _ _ z _ => absurd z Bool.false_ne_true, fun _ => hd, Around.frames_deeper e0.frames, .inr ⟨rfl, rfl⟩, fun b z => (by cases z), e0.bs, e0.bsz, fun b o _ z => (by cases z), fun b z => (by cases z), e0.funs, e0.frf⟩,
    rfl, e0.bare, Un.kept ke, ⟨_, ns, fun i y v h1 h2 _ => ?_⟩, fun y c h => ⟨some (.ref C), ?_⟩, e0.hok.fresh (Nat.le_refl _), fun y c h => ?_, fun p hp => (by cases hp), e0.hok.kept ke, rfl⟩
  · refine ⟨cc, ?_⟩
    have hy : fd.scope.names.lookup y = some .cell ∨ fd.scope.names.lookup y = some .free := hy
    rw [fs] at hy
    have e : y = "__class__" := by
      rcases hy with hy | hy
      · exact absurd rfl (S.only _ (PySem.mem_of_lookup hy)).1
      · exact (S.only _ (PySem.mem_of_lookup hy)).2 rfl
    subst e
    show fd.closure.lookup _ = _
    rw [S.clo]
    rfl
  · have hy : ∀ y, scope.names.lookup y = some .local → (callEnv fd s.heap.objs.size f).kindOf y = some .local := fun y k => by
      show fd.scope.names.lookup y = _
      rw [fs]
      exact k
    match i, h1, h2 with
    | 0, h1, h2 =>
      cases h1
      cases h2
      refine ⟨u0, r0, .inl ⟨hy _ S.sf, ?_⟩⟩
      have : (("self" : Str) == x) = false := by simpa using fun z => S.nx z.symm
      simp [List.lookup, this]
    | 1, h1, h2 =>
      cases h1
      cases h2
      refine ⟨u1, r1, .inl ⟨hy _ S.sx, ?_⟩⟩
      simp [List.lookup]
    | i + 2, h1, h2 => simp at h2
  · rw [(S.cells h).2]
    exact ⟨oc, ke _ _ (e0.bs _ _ (kb _ _ hc)).1, dc⟩
  · rw [(S.cells h).2]
    exact (e0.bs _ _ (kb _ _ hc)).2
/-- the def's promise: te is what e asks -/
def spS (C : Addr) (fld : Str) (te : TE) : Sp := fun vs H Q _ => ∃ (a : Addr) (v : V), vs = [.ref a, v] ∧ H a = some (exo a C none) ∧ te [some (.ref a), some v] H (fun _ H' => H' = H) ∧ ∀ dx, H dx = none → dx ≠ a → Q .non (upd (upd H dx (exd dx [(fld, v)])) a (exo a C (some dx)))
theorem name_blt {X : Cx} {E : Value → Shared → Prop} {pins : List (Addr × Obj)} {s : Shared} {σ : L2.St} {H : Hp} {y : Str} {u : Value} {Q : Value → Shared → Prop} (I : L2.Inv X pins σ H s) (hg : X.env.kindOf y = some .globalImplicit) (hm : X.mg y = none) (hv : bootBuiltins y = some u) (h : Q u s)
    (hn : y ≠ "__name__") : wpAny (model X.prog X.w) X.A (loadName X.env y) Q E s := by
  obtain ⟨mb, h1, h2⟩ := I.mod.blt
  unfold loadName
  simp only [Env.blockKind, I.ok.kind, hg, ScopeKind.isAnnotationScope, Bool.false_and, Bool.false_eq_true, if_false]
  exact Calls.loadGlobal_builtin (by rw [I.ok.glob]; exact I.mod.glob.keeps I.bk) hm (by rw [I.ok.blt]; exact h1.keeps I.bk) ((h2 y hn).trans hv) h
theorem Sup.ok {k : Nat} {fld : Str} {e : Expr} {te : TE} {p0 p1 p2 p3 p4 p5 p6 p7 p8 : Pos} (S : Sup P K C f cc fd qual x scope) (hm : mg "super" = none)
    (hb : fd.body = .stmts [.Expr (.Call (.Attribute (.Call (.Name "super" p0) [] [] p1) "__init__" p2) [e] [] p3) p4, .Assign [.Attribute (.Name "self" p5) fld p6] (.Name x p7) p8])
    (fno : PySem.W.findIn K (.ref C) fld = some none) (he : ∀ A outer s H E, PE (cxS CX P w K mg base ["self", x] fd f A outer s H E) e te)
    (hxd : (x == ("__debug__" : Str)) = false) (hxc : (x == ("__classdict__" : Str)) = false) (hsw : ∀ {X : Cx}, swapsWith (.Name x p7) (some (.Attribute (.Name "self" p5) fld p6)) p8.line X.env = pure false)
    (hst : ∀ env, starEach [e] env = (false, eval e env) :: starEach [] env)
    (hev : ∀ env, ∃ pl, eval (.Call (.Attribute (.Call (.Name "super" p0) [] [] p1) "__init__" p2) [e] [] p3) env = (do
      let ov ← attributeBase (.Call (.Name "super" p0) [] [] p1) "__init__" env (eval (.Call (.Name "super" p0) [] [] p1) env)
      standAt p2.atName
      let (g, first) ← holding [ov] (getMethod ov "__init__" pl)
      callWith p3 g first (backTo p3 (starEach [e] env)) [])) :
    FnOk P w K mg base CX (k + 1) f fd ["self", x] (spS C fld te) := by
  refine ⟨fun vs H Q E ⟨a, v, z, _⟩ => by rw [z]; rfl, fun A outer s H args us vs Q E hr e0 hbd r hsp => ?_⟩
  obtain ⟨a, v, rfl, ha, hte, hq⟩ := hsp
  cases r with
  | @cons _ u0 _ ur r0 r' =>
  cases r' with
  | @cons _ u1 _ ur r1 r'' =>
  cases r''
  obtain rfl : u0 = Value.ref a := r0
  have fs := S.fsc
  have KX : K.In s.heap := e0.mod.kin.keeps fun b o e => (e0.bs b o e).1
  have lim : s.heap.NoLimit := e0.mod.nolimit.keeps fun b o e => (e0.bs b o e).1
  obtain ⟨oc, od, osl, lk⟩ := S.at_
  have hcode : s.heap.CodeRec fd.code fd.qualname := by rw [S.fq]; exact PySem.W.codeRec_of KX S.cod
  refine ks_codeAny_call_defAt hr.depth (KX _ _ lk) rfl lim hcode hb hbd (fun y hy => (S.only y (by rw [← fs]; exact hy)).1) (fun y hy => ?_) (fun h0 hns ke => ?_) (by rw [fs]; exact S.co) (by rw [fs]; exact S.gen) (by rw [fs]; exact S.kind)
  · rw [fs]
    have hy : y = (("self" : Str), Value.ref a) ∨ y = (x, u1) := by simpa using hy
    rcases hy with rfl | rfl
    · exact S.sf
    · exact S.sx
  have I : L2.Inv (cxS CX P w K mg base ["self", x] fd f A outer s H E) [] [some (.ref a), some v] H { s with heap := h0, toks := s.toks + ((["self", x] : List Str).zip [Value.ref a, u1]).length } := S.inv hr.hd e0 (v0 := .ref a) rfl r1 hns ke
  have kd : ∀ y q, scope.names.lookup y = q → fd.scope.names.lookup y = q := fun y q z => by rw [fs]; exact z
  obtain ⟨ar, har, ear⟩ := S.par
  obtain ⟨kc, okc, kvs, file, tf, hkc, lkc, dkc, vkc, hfile⟩ := S.cd3
  obtain ⟨oce, lce, dce⟩ := S.cel
  have K0 : K.In h0 := fun b o q => ke _ _ (KX b o q)
  have KI := I.kIn
  have noi : interactive (callEnv fd s.heap.objs.size f) = false := by
    have k1 : (callEnv fd s.heap.objs.size f).scope.kind = .function := I.ok.kind
    unfold interactive
    simp [k1]
  obtain ⟨pl, hev⟩ := hev (callEnv fd s.heap.objs.size f)
  refine ks_wpAt_execs_cons (ks_wpAt_Expr_any (hi := noi) (ks_wpAt_MethodCall (ks_wpAt_super_base (f := f) (cc := kc) (ar := ar) (kd _ _ ?_) (kd _ _ S.sc) (by decide) rfl (K0 _ _ lk) rfl har hkc (K0 _ _ lkc) dkc vkc hfile S.top ?_) hev))
  · exact S.ss
  refine name_blt I ?_ hm PyProof.Rows.Boot.«super» ⟨rfl, ?_⟩ (by decide)
  · exact kd _ _ S.ss
  refine wpAny_loadName_free (c := cc) (v := .ref C) I.ok.kind (kd _ _ S.sc) ?_ ⟨oce, K0 _ _ lce, dce⟩ ?_
  · show fd.closure.lookup _ = _
    rw [S.clo]
    rfl
  -- self, the class, super itself
  have lx : (callEnv fd s.heap.objs.size f).kindOf ar.arg = some .local := by rw [ear]; exact kd _ _ S.sf
  have self0 : [(x, u1), (("self" : Str), Value.ref a)].lookup ar.arg = some (.ref a) := by
    rw [ear]
    have : (("self" : Str) == x) = false := by simpa using fun z => S.nx z.symm
    simp [List.lookup, this]
  refine wpAny_loadName_local I.ok.kind lx hns self0 ?_
  obtain ⟨nm, qn, nn, bs, bm, sn, sub, ab, col, dd, k0, k1, k2, k3, k5, hC, hbm⟩ := S.oex.cls
  have cC := K0 _ _ hC
  have lC : PySem.W.clsIn K C = some { name := nm, bases := bs, mro := .ref C :: bm, ns := nn, qualname := qn, hasDict := true, slotNames := sn, subclasses := sub, abstract := ab, collection := col, hasDel := false } := by unfold PySem.W.clsIn; rw [hC] <;> rfl
  obtain ⟨t1, ho⟩ := exo_at I.hok ha
  have apart : a ≠ C := fun z => by
    have := (e0.bs _ _ (e0.mod.kin _ _ hC)).2
    rw [← z, ha] at this
    cases this
  refine ks_wpAny_isType_cls cC rfl ⟨rfl, ?_⟩
  refine ks_wpAny_call_super cC rfl ho rfl (fun c z => by cases z) (PySem.W.looks_subIn K0 S.s1) fun h1 hz k1 => ?_
  have K1 : K.In h1 := fun b o q => k1 _ _ (K0 b o q)
  have ho1 := k1 _ _ ho
  have inst : PySem.W.InstAt h1 a { cls := .ref C, dict := none, data := .fields #[.ref t1, .none, .none, .none, .bool false, .none] } C none := ⟨ho1, rfl, rfl, trivial⟩
  refine vi_meth hz (PySem.W.looks_opaque K1 S.op) ((PySem.W.looks_clsIn K1 lC).andThen .now) (ESX.drop_own C bm) K1 (S.has _ lC) apart (inst.type.andThen (PySem.W.looks_subIn K1 S.s2)) ?_
  have ez : starEach [] (callEnv fd s.heap.objs.size f) = [] := rfl
  refine vb_with (a := a) rfl (hst _) ?_
  rw [hst]
  have I1 : L2.Inv (cxS CX P w K mg base ["self", x] fd f A outer s H E) [] [some (.ref a), some v] H ⟨h1, s.gens, s.drawn, s.toks, s.os⟩ := I.kept (h' := h1) k1
  have fz : H h1.objs.size = none := I1.hok.fresh (Nat.le_refl _)
  have I2 : L2.Inv (cxS CX P w K mg base ["self", x] fd f A outer s H E) [] [some (.ref a), some v] H ⟨h1.push (vb a), s.gens, s.drawn, s.toks + ((["self", x] : List Str).zip [Value.ref a, u1]).length + 1, s.os⟩ := I1.kept (h' := h1.push (vb a)) fun b o q => Heap.get?_push_of_some _ q
  have I3 := I2.pins_of (pins' := [(h1.objs.size, vb a)]) fun p hp => by
    rw [List.mem_singleton.mp hp]
    exact ⟨Heap.get?_push_size _ rfl, fz, Nat.ne_of_gt I1.lt, I1.nofs (Nat.le_refl _), fun _ z => by cases z⟩
  refine Calls.spliced_cons (wpAny_mono ((he A outer s H E).run _ _ _ H (fun _ H' => H' = H) I3 hte) (fun u s2 ⟨y, H2, J, ry, eH⟩ => Calls.spliced_nil ⟨?_, ?_⟩) fun _ _ z => z)
  · exact (J.pin _ (List.mem_append_right _ (List.mem_singleton.mpr rfl))).1
  subst eH
  obtain ⟨t2, ho2⟩ := exo_at J.hok ha
  obtain ⟨hp2, g2, d2, tk2, os2⟩ := s2
  refine vb_call (J.kIn _ _ hC) ho2 (J.pin _ (List.mem_append_right _ (List.mem_singleton.mpr rfl))).1 (by show 1 ≤ sizeLine; unfold sizeLine; omega) fun h3 t3 k3 hx => ?_
  have Z := J.write (t' := tk2) (x := a) (e := a) (o := exo a C none) (by rw [ha]; exact True.intro) (.inl rfl) k3 ⟨_, hx⟩ (exo_ok hx)
  have eu : upd H2 a (exo a C none) = H2 := by
    funext b
    by_cases hb : b = a
    · rw [hb, upd_same, ha]
    · rw [upd_ne hb]
  rw [eu] at Z
  have st : PSs (cxS CX P w K mg base ["self", x] fd f A outer s H2 E) [.Assign [.Attribute (.Name "self" p5) fld p6] (.Name x p7) p8] (tOst K fld (tVar 0) (tVar 1)) :=
    pss_one (ps_ost (pe_var rfl (.inl (kd _ _ S.sf))) (pe_var rfl (.inl (kd _ _ S.sx)) hxd hxc) hsw)
  refine wpAt_of_wpAny (wpAny_mono (st.run _ _ _ _ { nx := fun _ H' => Q .non H', rt := Q } Z ⟨_, rfl, _, rfl, a, C, rfl, S.oex, fno, .inl ⟨ha, fun dx n1 n2 => hq dx n1 n2⟩⟩) (fun fl s' hs => ?_) fun e s' hs => hs)
  have fin : ∀ {σ' : L2.St} {H' : Hp} {v' : V} {u' : Value}, L2.Inv (cxS CX P w K mg base ["self", x] fd f A outer s H2 E) [(h1.objs.size, vb a)] σ' H' s' → RelV v' u' → Q v' H' → CE outer P w H2 s Q u' s' :=
    fun {σ' H' v' u'} J rv q => ⟨v', H', J.os, J.bare, J.base, J.hok, rv, q⟩
  cases fl with
  | ret u' =>
    obtain ⟨v', σ', H', J, rv, q⟩ := hs
    exact fin J rv q
  | next =>
    obtain ⟨σ', H', J, q⟩ := hs
    exact fin (v' := V.non) (u' := Value.none) J rfl q
  | brk =>
    obtain ⟨_, _, _, q⟩ := hs
    exact False.elim q
  | cont =>
    obtain ⟨_, _, _, q⟩ := hs
    exact False.elim q
end
end SU

-- part SU3
set_option Elab.async false
set_option linter.all false
set_option maxRecDepth 100000
set_option maxHeartbeats 2000000
/-! isinstance of a caught exception that has fields -/
namespace SU
open PySem PySem.Spec PySem.W PySem.Calls PyProof.Rows L2
section
variable {prog : Program} {w : World} {A : Around} {E : Value → Shared → Prop} {s : Shared} {K : PySem.W.Frag} {a D : Addr} {o : Obj} {od : Option Obj}
theorem cls_found (C : ExcC K D) : findObj K D od "__class__" = some (.bind (.builtin "getset_descriptor.__get__") (.builtin "object.__class__")) := by
  obtain ⟨cd, hc, _⟩ := any_some C.hd
  have h1 := C.ha
  have h2 := C.hn
  have h3 := C.ht
  unfold findObj
  rw [hc, Option.bind_some, h1, Option.bind_some]
  simp [h2, h3]
theorem cls_asked {R : Option Value → Shared → Prop} (C : ExcC K D) (X : K.In s.heap) (I : InstAt s.heap a o D od) (r : R (some (.ref D)) { s with toks := s.toks + 1 }) : wpAny (model prog w) A (getAttr? (.ref a) "__class__") R E s := by
  obtain ⟨hp, g, d, t, os⟩ := s
  have ty := I.type (M := model prog w)
  have ga := looks_findIn (M := model prog w) X C.hg
  have gt := looks_findIn (M := model prog w) X C.hk
  have fo := looks_find (M := model prog w) X I (cls_found C)
  have be : Looks (model prog w) hp (isInstance (.ref a) (.type "BaseException")) true := ty.andThen (looks_subIn X C.hs)
  have n1 : (Value.builtin "BaseException.__getattribute__" == Value.builtin "object.__getattribute__") = false := by decide +kernel
  have n2 : (onTheHeap (Value.ref D) && Value.builtin "BaseException.__getattribute__" == Value.builtin "object.__getattribute__") = false := by rw [n1, Bool.and_false]
  have n3 : (false && onTheHeap (Value.builtin "BaseException.__getattribute__")) = false := rfl
  have bnd := PySem.F.excAttr_ValueError.ga.bind (.ref a)
  unfold getAttr? getAttrBy? getAttrBy
  refine wpAny_bind (wpAny_mkText (wpAny_bind (wpAny_attempt (wpAny_holding (wpAny_bind (ty.at (wpAny_bind (ga.at ?_))))))))
  show wpAny _ _ (if (onTheHeap (Value.ref D) && Value.builtin "BaseException.__getattribute__" == Value.builtin "object.__getattribute__") = true then _ else _) _ _ _
  rw [n2, if_neg Bool.false_ne_true]
  unfold getAttrByItsOwn hookBefore
  refine wpAny_bind ?_
  have n4 : onTheHeap (Value.ref D) = true := rfl
  rw [if_pos n4]
  refine gt.at (wpAny_bind (wpAny_attempt (wpAny_holding ?_)))
  unfold callGetattribute
  rw [n3, if_neg Bool.false_ne_true]
  unfold boundAndCalled
  rw [bnd]
  refine wpAny_bind (wpAny_pure ?_)
  show wpAny _ _ (call (.builtin "BaseException.__getattribute__") [.ref a, .str "__class__" t]) _ _ _
  refine wpAny_call (codeAny_call_builtin PySem.F.excAttr_ValueError.ga.plain PySem.F.entry_bexc_ga (@check_slot (model prog w) _ _ ⟨hp, g, d, t + 1, os⟩ "BaseException.__getattribute__" "BaseException" "__getattribute__" (.ref a) [.str "__class__" t] [] _ (by decide +kernel) (by decide +kernel) be (PySem.F.args_bexc_ga (.ref a) (.str "__class__" t)) ?_))
  unfold Builtin.«object.__getattribute__»
  refine wpAny_bind (wpAny_of_eq (a := ((Value.ref a : Value), [Value.str "__class__" t])) (by first | rfl | (simp only [slotArgs]; rfl)) (wpAny_bind (wpAny_pure (wpAny_bind (ty.at (wpAny_bind (fo.at ?_)))))))
  show wpAny _ _ (holding [Value.builtin "object.__class__"] (call (.builtin "getset_descriptor.__get__") [.builtin "object.__class__", .ref a, .ref D]) >>= ret) _ _ _
  refine wpAny_bind (wpAny_holding (wpAny_call (class_get (s := ⟨hp, g, d, t + 1, os⟩) (ox := o) (od := od) X I C.hm (wpAny_pure ?_))))
  show wpAny _ _ (handedOut (.ref D)) _ _ _
  have ho : handedOut (.ref D) = _ := handedOut_of (v := .ref D) rfl
  rw [ho]
  first
    | exact wpAny_pure (wpAny_pure r)
    | exact wpAny_pure r
    | exact wpAny_pure (wpAny_bind (wpAny_pure (wpAny_pure r)))
theorem kit_od (C : ExcC K D) : KitX K (.ref a) (.ref D) (fun h => ∃ od, InstAt h a o D od) where
  ty := fun _ _ _ ⟨_, I⟩ => I.type
  it := fun _ _ X _ => by
    obtain ⟨cd, hc, _⟩ := any_some C.hd
    unfold clsIn at hc
    split at hc
    · rename_i lk
      intro A' Q' E' s' k q
      unfold isType loadHead
      exact wpAny_bind (wpAny_loadPart (k _ _ (X _ _ lk)) (wpAny_pure q))
    · cases hc
  ne := fun h tp dd its n sl X htp => by
    obtain ⟨cd, hc, _⟩ := any_some C.hd
    unfold clsIn at hc
    split at hc
    · rename_i lk
      refine Bool.eq_false_iff.mpr fun q => ?_
      have e : D = tp := Value.ref.inj (beq_iff_eq.mp q)
      rw [← e, X _ _ lk] at htp
      cases htp
    · cases hc
  ca := fun X ⟨_, I⟩ k => cls_asked C X I k
end
/-- isinstance(e, c): e is caught, has fields -/
theorem call_isF {X : Cx} {a D dd : Addr} {oe : Obj} {pn : List (Addr × Obj)} (C : ExcC X.K D) (hz : Zc (.ref D) (some dd) oe) (hf : ∃ vs, oe.data = .fields vs) :
    CallR (X.suite a ((a, oe) :: pn)) (.builtin "isinstance") (fun xs H Q => (∃ fs, H dd = some (.xd fs)) ∧ rIsE X.K D a xs H Q) := by
  intro pins s σ H xs us Q I r h
  obtain ⟨⟨fs, hfs⟩, c, cv, b, rfl, hcv, e, q⟩ := h
  cases r with
  | cons rx rr =>
    cases rr with
    | cons rt rr =>
      cases rr
      cases rx
      have ec := hcv _ rt
      subst ec
      obtain ⟨hget, _⟩ := I.pin (a, oe) (List.mem_append.mpr (.inl List.mem_cons_self))
      have hx : ObjOk X.prog X.w H s.heap dd (.xd fs) := I.hok dd _ hfs
      obtain ⟨mA, hns, hr⟩ := hx
      obtain ⟨ob, ho, hl⟩ := lookIn_ns hns
      obtain ⟨vs, hv⟩ := hf
      have J : InstAt s.heap a oe D (some ob) := ⟨hget, hz.1, by unfold notCls; rw [hv] <;> rfl, by rw [hz.2]; exact ho⟩
      exact kia_one (kit_od C) I.kIn ⟨_, J⟩ e (fun z => nomatch z) fun tk => ⟨.bl b, H, I.kept (t' := tk) fun _ _ z => z, rfl, q⟩
end SU

-- part HdSup
set_option Elab.async false
set_option linter.all false
set_option maxRecDepth 100000
set_option maxHeartbeats 2000000
/-! a Hook that tells the exceptions whose __init__ calls super() -/
namespace Hd
open PySem PySem.Spec PyProof.Rows L2 He SU
structure SuD where
  cls : Str
  x : Str
  fld : Str
  qual : Str
  params : Arguments
  body : List Stmt
  scope : Scope
abbrev SuV : Type := Option (Str × Str × Arguments × FuncBody × Scope × Addr × List Str × Addr)
def suA (K : PySem.W.Frag) (d : SuD) : Addr := ma K (ga K d.cls) "__init__"
def suO (K : PySem.W.Frag) (d : SuD) : SuV := match K.lookup (suA K d) with
  | some ⟨_, _, .func fd, _⟩ => some (fd.name, fd.qualname, fd.params, fd.body, fd.scope, fd.globals, fd.closure.map (·.1), fd.builtins)
  | _ => none
def SuD.val (d : SuD) : SuV := some ("__init__", d.qual, d.params, .stmts d.body, d.scope, mainGlobals, [("__class__" : Str)], builtinsNs)
/-- the class -/
def clsB (K : PySem.W.Frag) (C : Addr) : Bool := match K.lookup C with
  | some ⟨.type "type", _, .cls cd, sl⟩ => (match cd.mro, sl.toList with
    | .ref C' :: bm, [_, _, _, _, some (.builtin n), _] => decide (C' = C) && (decide (n = "ValueError.__new__") && (!cd.hasDel && (cd.hasDict && (PySem.HandSPX.refsVE bm && eqO (PySem.W.alongIn K "__init__" bm) (some (some vi))))))
    | _, _ => false)
  | _ => false
/-- its def's code and cell -/
def codB (P : Program) (K : PySem.W.Frag) (C : Addr) (qual : Str) (fd : FuncData) : Bool := PySem.W.codeIn K fd.code qual && (decide (fd.defaults = .none) && ((match fd.code with
  | .ref kc => (match K.lookup kc with
    | some ⟨_, _, .fields vs, _⟩ => (match (vs[2]? : Option Value) with
      | some (Value.str file _) => ((P.main.file : Str) == file)
      | _ => false)
    | _ => false)
  | _ => false) && (match fd.closure with
    | [(_, cc)] => (match K.lookup cc with
      | some ⟨_, _, .cell (some (.ref C')), _⟩ => decide (C' = C)
      | _ => false)
    | _ => false)))
def SuD.ok (P : Program) (K : PySem.W.Frag) (d : SuD) : Bool := clsB K (ga K d.cls) && (eqO (PySem.W.findIn K (.ref (ga K d.cls)) "__setattr__") (some (some (.builtin "object.__setattr__"))) &&
  (decide (PySem.W.subIn K (.ref (ga K d.cls)) (.type "BaseException") = some true) && (decide (PySem.W.typeIn K (.ref (ga K d.cls)) = some (.type "type")) && (PySem.W.keepIn K (.ref (ga K d.cls)) &&
  (decide (PySem.W.subIn K (.ref (ga K d.cls)) (.ref (ga K d.cls)) = some true) && (decide (PySem.W.subIn K (.ref (ga K d.cls)) (.type "ValueError") = some true) && (eqO (PySem.W.nsIn K cStatics "thirdparty.any") (some none) &&
  (eqO (PySem.W.findIn K (.ref (ga K d.cls)) "__init__") (some (some (.ref (suA K d)))) && (decide (PySem.W.typeIn K (.ref (suA K d)) = some (.type "function")) && (eqO (PySem.W.findIn K (.ref (ga K d.cls)) d.fld) (some none) &&
  (match K.lookup (suA K d) with
    | some ⟨_, _, .func fd, _⟩ => codB P K (ga K d.cls) d.qual fd
    | _ => false)))))))))))
theorem clsB_ok {K : PySem.W.Frag} {C : Addr} (h : clsB K C = true) : (∃ nm q N bs bm sn sub ab col dd k0 k1 k2 k3 k5, K.lookup C = some (excClassObj nm q C N bs bm true sn sub ab col dd k0 k1 k2 k3 k5 "ValueError.__new__") ∧ PySem.HandSPX.refsVE bm = true) ∧
    ∀ cd, PySem.W.clsIn K C = some cd → PySem.W.alongIn K "__init__" (cd.mro.drop 1) = some (some vi) := by
  unfold clsB at h
  split at h
  · rename_i dd cd sl lk
    split at h
    · rename_i C' bm k0 k1 k2 k3 n k5 hm hs
      obtain ⟨h1, h⟩ := ba h
      obtain ⟨h2, h⟩ := ba h
      obtain ⟨h3, h⟩ := ba h
      obtain ⟨h4, h⟩ := ba h
      obtain ⟨h5, h6⟩ := ba h
      have e1 : C' = C := of_decide_eq_true h1
      have e2 : n = "ValueError.__new__" := of_decide_eq_true h2
      obtain ⟨nm, bs, mro, ns, qn, hd, sn, sub, ab, col, del⟩ := cd
      dsimp only at hm h3 h4
      have e3 : del = false := by simpa using h3
      have e4 : sl = #[k0, k1, k2, k3, some (.builtin n), k5] := by
        apply Array.ext'
        exact hs
      subst e1 e2 hm e3 e4 h4
      refine ⟨⟨nm, qn, ns, bs, bm, sn, sub, ab, col, dd, k0, k1, k2, k3, k5, lk, h5⟩, fun cd hc => ?_⟩
      unfold PySem.W.clsIn at hc
      rw [lk] at hc
      cases hc
      exact eqO_ok h6
    · cases h
  · cases h
theorem SuD.sup {P : Program} {K : PySem.W.Frag} {d : SuD} (e : suO K d = d.val) (c : d.ok P K = true) (par : ∃ ar : Arg, (d.params.posonlyargs ++ d.params.args).head? = some ar ∧ ar.arg = "self") (top : (P.main.scope.names.lookup ("super" : Str)).isSome = false)
    (kind : d.scope.kind = .function) (co : d.scope.isCoroutine = false) (gen : d.scope.isGenerator = false) (sf : d.scope.names.lookup ("self" : Str) = some .local) (sx : d.scope.names.lookup d.x = some .local) (sc : d.scope.names.lookup ("__class__" : Str) = some .free) (ss : d.scope.names.lookup ("super" : Str) = some .globalImplicit)
    (nx : d.x ≠ "self") (only : ∀ y ∈ d.scope.names, y.2 ≠ .cell ∧ (y.2 = .free → y.1 = "__class__"))
    (bind : ∀ (clo : List (Str × Addr)) (kV doc pm : Value) (an : Option Addr) (cdv ct : Value) (us : List Value), us.length = 2 → bindArgs { name := "__init__", qualname := d.qual, params := d.params, body := .stmts d.body, scope := d.scope, globals := mainGlobals, closure := clo, defaults := .none, kwdefaults := kV, doc, pyModule := pm, annotations := an, code := cdv, closureTuple := ct, builtins := builtinsNs } ⟨us, []⟩ = pure ((["self", d.x] : List Str).zip us)) :
    ∃ cc fd, Sup P K (ga K d.cls) (suA K d) cc fd d.qual d.x d.scope ∧ fd.body = .stmts d.body ∧ Binds K fd ["self", d.x] [] ∧ PySem.W.findIn K (.ref (ga K d.cls)) "__init__" = some (some (.ref (suA K d))) ∧ PySem.W.typeIn K (.ref (suA K d)) = some (.type "function") ∧ PySem.W.findIn K (.ref (ga K d.cls)) d.fld = some none := by
  obtain ⟨c1, c⟩ := ba c
  obtain ⟨c2, c⟩ := ba c
  obtain ⟨c3, c⟩ := ba c
  obtain ⟨c4, c⟩ := ba c
  obtain ⟨c5, c⟩ := ba c
  obtain ⟨c6, c⟩ := ba c
  obtain ⟨c7, c⟩ := ba c
  obtain ⟨c8, c⟩ := ba c
  obtain ⟨c9, c⟩ := ba c
  obtain ⟨c10, c⟩ := ba c
  obtain ⟨c11, c12⟩ := ba c
  obtain ⟨k1, k2⟩ := clsB_ok c1
  unfold suO at e
  cases q : K.lookup (suA K d) with
  | none =>
    rw [q] at c12
    cases c12
  | some o =>
    obtain ⟨oc, od, dt, osl⟩ := o
    rw [q] at c12 e
    cases dt with
    | func fd =>
      obtain ⟨n1, n2, n3, n4, n5, n6, n7, n8, n9, n10, n11, n12, n13, n14, n15⟩ := fd
      have e2 : (some (n1, n2, n3, n4, n5, n6, n7.map (·.1), n15) : SuV) = some (("__init__" : Str), d.qual, d.params, FuncBody.stmts d.body, d.scope, mainGlobals, [("__class__" : Str)], builtinsNs) := e
      simp only [Option.some.injEq, Prod.mk.injEq] at e2
      obtain ⟨h1, h2, h3, h4, h5, h6, h7, h9⟩ := e2
      obtain ⟨z1, z2⟩ := ba c12
      obtain ⟨z3, z4⟩ := ba z2
      obtain ⟨z5, z6⟩ := ba z4
      have y3 : n8 = .none := of_decide_eq_true z3
      dsimp only at z1 z5 z6
      subst h1 h2 h3 h4 h5 h6 h9 y3
      split at z6
      · rename_i nc cc
        have h7 : nc = ("__class__" : Str) := by simpa using h7
        subst h7
        split at z6
        · rename_i o1 o2 C' o3 lc
          have e5 : C' = ga K d.cls := of_decide_eq_true z6
          subst e5
          split at z5
          · rename_i kc
            split at z5
            · rename_i o4 o5 vs o6 lk
              split at z5
              · rename_i file tf hv
                refine ⟨cc, _, ⟨⟨oc, od, osl, q⟩, rfl, rfl, par, rfl, rfl, rfl, z1, ⟨kc, _, vs, file, tf, rfl, lk, rfl, hv, z5⟩, top, ⟨_, lc, rfl⟩, kind, co, gen, sf, sx, sc, ss, nx, only, ⟨k1, eqO_ok c2, of_decide_eq_true c3, of_decide_eq_true c4, c5⟩, of_decide_eq_true c6, of_decide_eq_true c7, eqO_ok c8, k2⟩, rfl, .all fun us hu => bind _ _ _ _ _ _ _ us hu, eqO_ok c9, of_decide_eq_true c10, eqO_ok c11⟩
              · cases z5
            · cases z5
          · cases z5
        · cases z6
      · cases z6
    | _ => cases c12
theorem says_at {fa : List Fa} {fn : List DefD} {ts : List Tab} {tf : List Defn} {ex : PySem.W.Frag → Bool} {w : World} {h : Heap} {as : List Addr} (e1 : obsT fa fn ts (frT h.get? as) = valT fn ts w)
    (e2 : (ex (frT h.get? as) && tabsB h.get? tf (frT h.get? as)) = true) : SaysX fa fn ts tf ex w h (frT h.get? as) := by
  obtain ⟨g1, g2⟩ := ba e2
  have each : ∀ p ∈ tf, PySem.W.codeHdIn (frT h.get? as) (cT (frT h.get? as) p).1 (cT (frT h.get? as) p).2 = true ∧ ∃ o, h.get? (cT (frT h.get? as) p).2 = some o ∧ emptyTab o = true := fun p hp => by
    obtain ⟨g3, g4⟩ := ba (List.all_eq_true.mp g2 p hp)
    refine ⟨g3, ?_⟩
    split at g4
    · rename_i o q
      exact ⟨o, q, g4⟩
    · cases g4
  refine ⟨e1, g1, fun p hp => (each p hp).1, fun p hp => ?_, fun p hp => ?_⟩
  · obtain ⟨_, o, q, z⟩ := each p hp
    exact frT_none q z
  · obtain ⟨_, o, q, z⟩ := each p hp
    rw [q, emptyTab_eq z]
def asS (g : Addr → Option Obj) (n : Nat) : List Addr := cStatics :: asD g n
abbrev AlS : Type := AlP × List SuV
section
variable (P : Program) (n : Nat) (fa : List Fa) (fn : List DefD) (ts : List Tab) (tf : List Defn) (ex : PySem.W.Frag → Bool) (ps : List PrD) (ss : List SuD)
def exS (K : PySem.W.Frag) : Bool := ex K && ss.all fun d => d.ok P K
def obsAt (g : Addr → Option Obj) (as : List Addr) : AlS := (((obsT fa fn ts (frT g as), (exS P ex ss (frT g as) && ps.all fun d => d.ok (frT g as)) && tabsB g tf (frT g as)), ps.map fun d => fnP (frT g as) (gtrA (frT g as) d.cls d.f)), ss.map (suO (frT g as)))
def obsS (g : Addr → Option Obj) : AlS := obsAt P fa fn ts tf ex ps ss g (asS g n)
def valS (w : World) : AlS := (valP fn ts ps w, ss.map SuD.val)
structure SaysS (w : World) (h : Heap) (K : PySem.W.Frag) : Prop where
  p : SaysP fa fn ts tf (exS P ex ss) ps w h K
  s : ss.map (suO K) = ss.map SuD.val
def hookS : PySem.W.Hook where
  α := AlS
  obs := fun s => obsS P n fa fn ts tf ex ps ss s.heap.get?
  val := fun w => valS fn ts ps ss w
  says := fun w h => ∃ K : PySem.W.Frag, K.In h ∧ SaysS P fa fn ts tf ex ps ss w h K
  of := fun _ _ e => ⟨_, frT_in, ⟨says_at (congrArg (fun z : AlS => z.1.1.1) e) (congrArg (fun z : AlS => z.1.1.2) e), congrArg (fun z : AlS => z.1.2) e⟩, congrArg (fun z : AlS => z.2) e⟩
  keeps := fun _ _ _ ⟨K, hK, c⟩ k => ⟨K, PySem.W.Frag.In.keeps hK k, ⟨⟨c.p.x.t, c.p.x.more, c.p.x.hd, c.p.x.out, fun p hp => k _ _ (c.p.x.empty p hp)⟩, c.p.p⟩, c.s⟩
end
section
variable {P : Program} {n : Nat} {fa : List Fa} {fn : List DefD} {ts : List Tab} {tf : List Defn} {ex : PySem.W.Frag → Bool} {ps : List PrD} {ss : List SuD} {w : World} {h : Heap} {K : PySem.W.Frag}
theorem obsS_eq {g : Addr → Option Obj} {s : Shared} (h : ∀ a, g a = s.heap.get? a) : obsS P n fa fn ts tf ex ps ss g = (hookS P n fa fn ts tf ex ps ss).obs s := by
  have e : g = s.heap.get? := funext h
  rw [e] <;> rfl
theorem SaysS.su (c : SaysS P fa fn ts tf ex ps ss w h K) (i : Nat) {d : SuD} (e : ss[i]? = some d := by rfl) : suO K d = d.val ∧ d.ok P K = true := by
  refine ⟨?_, List.all_eq_true.mp (ba c.p.exB).2 d (List.mem_of_getElem? e)⟩
  have e2 : (ss.map (suO K))[i]? = (ss.map SuD.val)[i]? := by rw [c.s]
  rw [List.getElem?_map, List.getElem?_map, e] at e2
  exact Option.some.inj e2
end
section
variable {P : Program} {n : Nat} {fa : List Fa} {fn : List DefD} {ts : List Tab} {tf : List Defn} {ex ek : PySem.W.Frag → Bool} {ps : List PrD} {ss : List SuD} {w : World} {h : Heap} {K : PySem.W.Frag}
theorem SaysS.weak (c : SaysS P fa fn ts tf (fun K => ex K && ek K) ps ss w h K) : SaysP fa fn ts tf ex ps w h K := by
  refine ⟨⟨c.p.x.t, ?_, c.p.x.hd, c.p.x.out, c.p.x.empty⟩, c.p.p⟩
  obtain ⟨h1, h2⟩ := ba c.p.x.more
  obtain ⟨h3, _⟩ := ba h1
  obtain ⟨h4, _⟩ := ba h3
  show (ex K && ps.all fun d => d.ok K) = true
  rw [h4, h2]
  rfl
theorem SaysS.more (c : SaysS P fa fn ts tf (fun K => ex K && ek K) ps ss w h K) : ek K = true := (ba (ba c.p.exB).1).2
end
/-- what isinstance asks of the class -/
def excB (K : PySem.W.Frag) (C : Addr) : Bool := xfB K C && (eqO (PySem.W.findIn K (.ref C) "__class__") (some (some (.builtin "object.__class__"))) && (eqO (PySem.W.specialIn K (.builtin "object.__class__") "__get__") (some (some (.builtin "getset_descriptor.__get__"))) &&
  (decide (PySem.W.takesIn K (.builtin "object.__class__") = some true) && decide (PySem.W.mroIn K C (.type "object") = some true))))
theorem excB_ok {K : PySem.W.Frag} {C : Addr} (h : excB K C = true) : XfC K C ∧ ExcC K C := by
  obtain ⟨h1, h⟩ := ba h
  obtain ⟨h2, h⟩ := ba h
  obtain ⟨h3, h⟩ := ba h
  obtain ⟨h4, h5⟩ := ba h
  have x := xfB_ok h1
  exact ⟨x, ⟨x.ga, x.gg, x.exC, x.hdC, eqO_ok h2, eqO_ok h3, of_decide_eq_true h4, of_decide_eq_true h5⟩⟩
end Hd

-- part HdTup
set_option Elab.async false
set_option linter.all false
set_option maxRecDepth 100000
set_option maxHeartbeats 2000000
/-! a tuple of texts in the module -/
namespace Hd
open PySem PySem.Spec PyProof.Rows L2
def strTupB (K : PySem.W.Frag) (a : Addr) (ss : List Str) : Bool := match K.lookup a with
  | some ⟨.type c, none, .seq its _, sl⟩ => decide (c = "tuple") && (sl.isEmpty && decide ((its.toList.map fun u => match u with | .str y _ => some y | _ => none) = ss.map some))
  | _ => false
theorem strTup_vals : ∀ {us : List Value} {ss : List Str}, (us.map fun u => match u with | .str y _ => some y | _ => none) = ss.map some → Vals (ss.map V.str) us
  | [], [], _ => .nil
  | [], s :: r, h => by cases h
  | u :: r, [], h => by cases h
  | u :: r, s :: t, h => by
    rw [List.map_cons, List.map_cons, List.cons.injEq] at h
    obtain ⟨h1, h2⟩ := h
    refine .cons ?_ (strTup_vals h2)
    cases u with
    | str y tk => cases h1; exact ⟨tk, rfl⟩
    | _ => cases h1
theorem strTup_ok {K : PySem.W.Frag} {a : Addr} {ss : List Str} (h : strTupB K a ss = true) (hz : ss.length ≤ sizeLine) (H : Hp) : SqT K H a (ss.map V.str) := by
  unfold strTupB at h
  split at h
  · rename_i c its n sl q
    obtain ⟨h1, h2⟩ := He.ba h
    obtain ⟨h2, h3⟩ := He.ba h2
    have e1 : c = "tuple" := of_decide_eq_true h1
    have h3 := of_decide_eq_true h3
    subst e1
    refine .inr ⟨_, its, n, q, rfl, rfl, ?_, strTup_vals h3⟩
    have := congrArg List.length h3
    rw [List.length_map, List.length_map, Array.length_toList] at this
    omega
  · cases h
end Hd

-- part H08
set_option Elab.async false
set_option linter.all false
set_option maxRecDepth 100000
set_option maxHeartbeats 0
namespace K8
open PySem PySem.Spec PyProof.Rows L2
def top (i : Nat) : Stmt := PySem.Challenge.pw_whoevermay_k49_texts_of_plans.main.body.getD i (.Pass ⟨0, 0, 0, 0⟩)
abbrev sis_name : Stmt := top 6
abbrev splan_lines : Stmt := top 8
abbrev splan_text : Stmt := top 9
abbrev saction_of : Stmt := top 10
abbrev sparse_plan : Stmt := top 11
abbrev s_law_row : Stmt := top 13
abbrev s_law_numbers : Stmt := top 14
abbrev s_law_names : Stmt := top 15
abbrev s_law_turned : Stmt := top 16
abbrev s_law_is_name : Stmt := top 17
abbrev s_law_due : Stmt := top 18
abbrev slaw : Stmt := top 19
def dis_name : He.DefD := ⟨("is_name", none), "is_name", "is_name", defArgs sis_name, defBody sis_name, defScope sis_name, [], []⟩
def dplan_lines : He.DefD := ⟨("plan_lines", none), "plan_lines", "plan_lines", defArgs splan_lines, defBody splan_lines, defScope splan_lines, [], []⟩
def dplan_text : He.DefD := ⟨("plan_text", none), "plan_text", "plan_text", defArgs splan_text, defBody splan_text, defScope splan_text, [], []⟩
def daction_of : He.DefD := ⟨("action_of", none), "action_of", "action_of", defArgs saction_of, defBody saction_of, defScope saction_of, [], []⟩
def dparse_plan : He.DefD := ⟨("parse_plan", none), "parse_plan", "parse_plan", defArgs sparse_plan, defBody sparse_plan, defScope sparse_plan, [], []⟩
def d_law_row : He.DefD := ⟨("_law_row", none), "_law_row", "_law_row", defArgs s_law_row, defBody s_law_row, defScope s_law_row, [], []⟩
def d_law_numbers : He.DefD := ⟨("_law_numbers", none), "_law_numbers", "_law_numbers", defArgs s_law_numbers, defBody s_law_numbers, defScope s_law_numbers, [], []⟩
def d_law_names : He.DefD := ⟨("_law_names", none), "_law_names", "_law_names", defArgs s_law_names, defBody s_law_names, defScope s_law_names, [], []⟩
def d_law_turned : He.DefD := ⟨("_law_turned", none), "_law_turned", "_law_turned", defArgs s_law_turned, defBody s_law_turned, defScope s_law_turned, [], []⟩
def d_law_is_name : He.DefD := ⟨("_law_is_name", none), "_law_is_name", "_law_is_name", defArgs s_law_is_name, defBody s_law_is_name, defScope s_law_is_name, [], []⟩
def d_law_due : He.DefD := ⟨("_law_due", none), "_law_due", "_law_due", defArgs s_law_due, defBody s_law_due, defScope s_law_due, [], []⟩
def dlaw : He.DefD := ⟨("law", none), "law", "law", defArgs slaw, defBody slaw, defScope slaw, [], []⟩
def fn : List He.DefD := [dis_name, dplan_lines, dplan_text, daction_of, dparse_plan, d_law_row, d_law_numbers, d_law_names, d_law_turned, d_law_is_name, d_law_due, dlaw]
def prs : List Hd.PrD := []
def fa : List He.Fa := [.glo "is_name", .glo "plan_lines", .glo "plan_text", .glo "action_of", .glo "parse_plan", .glo "_law_row", .glo "_law_numbers", .glo "_law_names", .glo "_law_turned", .glo "_law_is_name", .glo "_law_due", .glo "law", .glo "InvalidNotation", .free "len", .free "all", .free "abs", .free "int", .free "range", .free "max", .free "min", .free "isinstance", .free "tuple", .free "list", .free "repr", .free "super", .free "ValueError", .str "LETTERS" "abcdefghijklmnopqrstuvwxyz", .str "SIGNS" "abcdefghijklmnopqrstuvwxyz0123456789", .exm "InvalidNotation" "InvalidNotation" true]
def tf : List He.Defn := [("is_name", none), ("action_of", none)]
def tbs : List He.Tab := []
def exq : PySem.W.Frag → Bool := fun K => true
abbrev sInvalidNotation___init__ : Stmt := inClass (top 2) 0
def suInvalidNotation : Hd.SuD := ⟨"InvalidNotation", "line", "line", "InvalidNotation.__init__", defArgs sInvalidNotation___init__, defBody sInvalidNotation___init__, defScope sInvalidNotation___init__⟩
def sus : List Hd.SuD := [suInvalidNotation]
def exk : PySem.W.Frag → Bool := fun K => (Hd.excB K (He.ga K "InvalidNotation") && true)
abbrev R : PySem.W.OpenRow := PySem.W.OpenLaw.row PySem.Challenge.rw_whoevermay_k49_texts_of_plans
abbrev hk : PySem.W.Hook := Hd.hookS R.prog 6 fa fn tbs tf (fun K => exq K && exk K) prs sus
def ob (s : PySem.W.SharedT) : Hd.AlS := Hd.obsS R.prog 6 fa fn tbs tf (fun K => exq K && exk K) prs sus (HandSHeadRun.getT s)
theorem ob_eq (s : PySem.W.SharedT) : ob s = hk.obs s.abs := Hd.obsS_eq (HandSHeadRun.getT_eq s)
def loose : List Str := (["WhoevermayError", "InvalidNotation", "LETTERS", "SIGNS", "is_name", "plan_lines", "plan_text", "action_of", "parse_plan", "_law_row", "_law_numbers", "_law_names", "_law_turned", "_law_is_name", "_law_due"] : List Str)
def steps : Nat := 8000
theorem runF (w : World) : HandSHeadRun.RunEq R (PySem.W.view R.prog [19]) hk ob steps loose (PySem.World.withFollow w "special-get-raises" false) := by
  intro os
  kernel_rfl
theorem runT (w : World) : HandSHeadRun.RunEq R (PySem.W.view R.prog [19]) hk ob steps loose (PySem.World.withFollow w "special-get-raises" true) := by
  intro os
  kernel_rfl
theorem run (w : World) : HandSHeadRun.RunEq R (PySem.W.view R.prog [19]) hk ob steps loose w := PySem.W.byRow2 "special-get-raises" (P := HandSHeadRun.RunEq R (PySem.W.view R.prog [19]) hk ob steps loose) runF runT w
end K8

-- part F08
set_option Elab.async false
set_option linter.all false
set_option maxRecDepth 100000
set_option maxHeartbeats 2000000
namespace K8
open PySem PySem.Spec PyProof.Rows L2
/-- what the walk of a def is given: the head's facts at h, the tables over base -/
structure Tx (w : World) (K : PySem.W.Frag) (mg : Str → Option Value) (base : Heap) : Prop where
  x : ∃ h : Heap, K.In h ∧ h.Ns mainGlobals mg ∧ Hd.SaysP fa fn tbs tf exq prs w h K
  tb : ∀ p ∈ tf, GxR.TabB base mg (He.cT K p).1 (He.cT K p).2
  sx : ∃ h : Heap, Hd.SaysS R.prog fa fn tbs tf (fun K => exq K && exk K) prs sus w h K
section
variable {w : World} {K : PySem.W.Frag} {mg : Str → Option Value} {base : Heap}
theorem Tx.glo_is_name (T : Tx w K mg base) : mg "is_name" = some (.ref (He.ga K "is_name")) := by
  obtain ⟨⟨h, X, G, c⟩, _⟩ := T
  exact He.glo_ok X G (c.x.t.d.fact 0 rfl)
theorem Tx.glo_plan_lines (T : Tx w K mg base) : mg "plan_lines" = some (.ref (He.ga K "plan_lines")) := by
  obtain ⟨⟨h, X, G, c⟩, _⟩ := T
  exact He.glo_ok X G (c.x.t.d.fact 1 rfl)
theorem Tx.glo_plan_text (T : Tx w K mg base) : mg "plan_text" = some (.ref (He.ga K "plan_text")) := by
  obtain ⟨⟨h, X, G, c⟩, _⟩ := T
  exact He.glo_ok X G (c.x.t.d.fact 2 rfl)
theorem Tx.glo_action_of (T : Tx w K mg base) : mg "action_of" = some (.ref (He.ga K "action_of")) := by
  obtain ⟨⟨h, X, G, c⟩, _⟩ := T
  exact He.glo_ok X G (c.x.t.d.fact 3 rfl)
theorem Tx.glo_parse_plan (T : Tx w K mg base) : mg "parse_plan" = some (.ref (He.ga K "parse_plan")) := by
  obtain ⟨⟨h, X, G, c⟩, _⟩ := T
  exact He.glo_ok X G (c.x.t.d.fact 4 rfl)
theorem Tx.glo__law_row (T : Tx w K mg base) : mg "_law_row" = some (.ref (He.ga K "_law_row")) := by
  obtain ⟨⟨h, X, G, c⟩, _⟩ := T
  exact He.glo_ok X G (c.x.t.d.fact 5 rfl)
theorem Tx.glo__law_numbers (T : Tx w K mg base) : mg "_law_numbers" = some (.ref (He.ga K "_law_numbers")) := by
  obtain ⟨⟨h, X, G, c⟩, _⟩ := T
  exact He.glo_ok X G (c.x.t.d.fact 6 rfl)
theorem Tx.glo__law_names (T : Tx w K mg base) : mg "_law_names" = some (.ref (He.ga K "_law_names")) := by
  obtain ⟨⟨h, X, G, c⟩, _⟩ := T
  exact He.glo_ok X G (c.x.t.d.fact 7 rfl)
theorem Tx.glo__law_turned (T : Tx w K mg base) : mg "_law_turned" = some (.ref (He.ga K "_law_turned")) := by
  obtain ⟨⟨h, X, G, c⟩, _⟩ := T
  exact He.glo_ok X G (c.x.t.d.fact 8 rfl)
theorem Tx.glo__law_is_name (T : Tx w K mg base) : mg "_law_is_name" = some (.ref (He.ga K "_law_is_name")) := by
  obtain ⟨⟨h, X, G, c⟩, _⟩ := T
  exact He.glo_ok X G (c.x.t.d.fact 9 rfl)
theorem Tx.glo__law_due (T : Tx w K mg base) : mg "_law_due" = some (.ref (He.ga K "_law_due")) := by
  obtain ⟨⟨h, X, G, c⟩, _⟩ := T
  exact He.glo_ok X G (c.x.t.d.fact 10 rfl)
theorem Tx.glo_law (T : Tx w K mg base) : mg "law" = some (.ref (He.ga K "law")) := by
  obtain ⟨⟨h, X, G, c⟩, _⟩ := T
  exact He.glo_ok X G (c.x.t.d.fact 11 rfl)
theorem Tx.glo_InvalidNotation (T : Tx w K mg base) : mg "InvalidNotation" = some (.ref (He.ga K "InvalidNotation")) := by
  obtain ⟨⟨h, X, G, c⟩, _⟩ := T
  exact He.glo_ok X G (c.x.t.d.fact 12 rfl)
theorem Tx.free_len (T : Tx w K mg base) : mg "len" = none := by
  obtain ⟨⟨h, X, G, c⟩, _⟩ := T
  exact He.free_ok X G (c.x.t.d.fact 13 rfl)
theorem Tx.free_all (T : Tx w K mg base) : mg "all" = none := by
  obtain ⟨⟨h, X, G, c⟩, _⟩ := T
  exact He.free_ok X G (c.x.t.d.fact 14 rfl)
theorem Tx.free_abs (T : Tx w K mg base) : mg "abs" = none := by
  obtain ⟨⟨h, X, G, c⟩, _⟩ := T
  exact He.free_ok X G (c.x.t.d.fact 15 rfl)
theorem Tx.free_int (T : Tx w K mg base) : mg "int" = none := by
  obtain ⟨⟨h, X, G, c⟩, _⟩ := T
  exact He.free_ok X G (c.x.t.d.fact 16 rfl)
theorem Tx.free_range (T : Tx w K mg base) : mg "range" = none := by
  obtain ⟨⟨h, X, G, c⟩, _⟩ := T
  exact He.free_ok X G (c.x.t.d.fact 17 rfl)
theorem Tx.free_max (T : Tx w K mg base) : mg "max" = none := by
  obtain ⟨⟨h, X, G, c⟩, _⟩ := T
  exact He.free_ok X G (c.x.t.d.fact 18 rfl)
theorem Tx.free_min (T : Tx w K mg base) : mg "min" = none := by
  obtain ⟨⟨h, X, G, c⟩, _⟩ := T
  exact He.free_ok X G (c.x.t.d.fact 19 rfl)
theorem Tx.free_isinstance (T : Tx w K mg base) : mg "isinstance" = none := by
  obtain ⟨⟨h, X, G, c⟩, _⟩ := T
  exact He.free_ok X G (c.x.t.d.fact 20 rfl)
theorem Tx.free_tuple (T : Tx w K mg base) : mg "tuple" = none := by
  obtain ⟨⟨h, X, G, c⟩, _⟩ := T
  exact He.free_ok X G (c.x.t.d.fact 21 rfl)
theorem Tx.free_list (T : Tx w K mg base) : mg "list" = none := by
  obtain ⟨⟨h, X, G, c⟩, _⟩ := T
  exact He.free_ok X G (c.x.t.d.fact 22 rfl)
theorem Tx.free_repr (T : Tx w K mg base) : mg "repr" = none := by
  obtain ⟨⟨h, X, G, c⟩, _⟩ := T
  exact He.free_ok X G (c.x.t.d.fact 23 rfl)
theorem Tx.free_super (T : Tx w K mg base) : mg "super" = none := by
  obtain ⟨⟨h, X, G, c⟩, _⟩ := T
  exact He.free_ok X G (c.x.t.d.fact 24 rfl)
theorem Tx.free_ValueError (T : Tx w K mg base) : mg "ValueError" = none := by
  obtain ⟨⟨h, X, G, c⟩, _⟩ := T
  exact He.free_ok X G (c.x.t.d.fact 25 rfl)
theorem Tx.str_LETTERS (T : Tx w K mg base) : ∃ t, mg "LETTERS" = some (.str "abcdefghijklmnopqrstuvwxyz" t) := by
  obtain ⟨⟨h, X, G, c⟩, _⟩ := T
  exact He.str_ok X G (c.x.t.d.fact 26 rfl)
theorem Tx.str_SIGNS (T : Tx w K mg base) : ∃ t, mg "SIGNS" = some (.str "abcdefghijklmnopqrstuvwxyz0123456789" t) := by
  obtain ⟨⟨h, X, G, c⟩, _⟩ := T
  exact He.str_ok X G (c.x.t.d.fact 27 rfl)
theorem Tx.exm_InvalidNotation_InvalidNotation (T : Tx w K mg base) : PySem.W.exmOne K (.ref (He.ga K "InvalidNotation")) (.ref (He.ga K "InvalidNotation")) = some true := by
  obtain ⟨⟨h, X, G, c⟩, _⟩ := T
  exact He.exm_ok (c.x.t.d.fact 28 rfl)
theorem Tx.F_is_name (T : Tx w K mg base) : ∃ fd, FunD K "is_name" "is_name" (defArgs sis_name) (defBody sis_name) (defScope sis_name) [] [] (He.fAd K ("is_name", none)) fd := by
  obtain ⟨⟨h, X, G, c⟩, _⟩ := T
  exact c.x.t.d.def_ 0 (d := dis_name) rfl
theorem Tx.F_plan_lines (T : Tx w K mg base) : ∃ fd, FunD K "plan_lines" "plan_lines" (defArgs splan_lines) (defBody splan_lines) (defScope splan_lines) [] [] (He.fAd K ("plan_lines", none)) fd := by
  obtain ⟨⟨h, X, G, c⟩, _⟩ := T
  exact c.x.t.d.def_ 1 (d := dplan_lines) rfl
theorem Tx.F_plan_text (T : Tx w K mg base) : ∃ fd, FunD K "plan_text" "plan_text" (defArgs splan_text) (defBody splan_text) (defScope splan_text) [] [] (He.fAd K ("plan_text", none)) fd := by
  obtain ⟨⟨h, X, G, c⟩, _⟩ := T
  exact c.x.t.d.def_ 2 (d := dplan_text) rfl
theorem Tx.F_action_of (T : Tx w K mg base) : ∃ fd, FunD K "action_of" "action_of" (defArgs saction_of) (defBody saction_of) (defScope saction_of) [] [] (He.fAd K ("action_of", none)) fd := by
  obtain ⟨⟨h, X, G, c⟩, _⟩ := T
  exact c.x.t.d.def_ 3 (d := daction_of) rfl
theorem Tx.F_parse_plan (T : Tx w K mg base) : ∃ fd, FunD K "parse_plan" "parse_plan" (defArgs sparse_plan) (defBody sparse_plan) (defScope sparse_plan) [] [] (He.fAd K ("parse_plan", none)) fd := by
  obtain ⟨⟨h, X, G, c⟩, _⟩ := T
  exact c.x.t.d.def_ 4 (d := dparse_plan) rfl
theorem Tx.F__law_row (T : Tx w K mg base) : ∃ fd, FunD K "_law_row" "_law_row" (defArgs s_law_row) (defBody s_law_row) (defScope s_law_row) [] [] (He.fAd K ("_law_row", none)) fd := by
  obtain ⟨⟨h, X, G, c⟩, _⟩ := T
  exact c.x.t.d.def_ 5 (d := d_law_row) rfl
theorem Tx.F__law_numbers (T : Tx w K mg base) : ∃ fd, FunD K "_law_numbers" "_law_numbers" (defArgs s_law_numbers) (defBody s_law_numbers) (defScope s_law_numbers) [] [] (He.fAd K ("_law_numbers", none)) fd := by
  obtain ⟨⟨h, X, G, c⟩, _⟩ := T
  exact c.x.t.d.def_ 6 (d := d_law_numbers) rfl
theorem Tx.F__law_names (T : Tx w K mg base) : ∃ fd, FunD K "_law_names" "_law_names" (defArgs s_law_names) (defBody s_law_names) (defScope s_law_names) [] [] (He.fAd K ("_law_names", none)) fd := by
  obtain ⟨⟨h, X, G, c⟩, _⟩ := T
  exact c.x.t.d.def_ 7 (d := d_law_names) rfl
theorem Tx.F__law_turned (T : Tx w K mg base) : ∃ fd, FunD K "_law_turned" "_law_turned" (defArgs s_law_turned) (defBody s_law_turned) (defScope s_law_turned) [] [] (He.fAd K ("_law_turned", none)) fd := by
  obtain ⟨⟨h, X, G, c⟩, _⟩ := T
  exact c.x.t.d.def_ 8 (d := d_law_turned) rfl
theorem Tx.F__law_is_name (T : Tx w K mg base) : ∃ fd, FunD K "_law_is_name" "_law_is_name" (defArgs s_law_is_name) (defBody s_law_is_name) (defScope s_law_is_name) [] [] (He.fAd K ("_law_is_name", none)) fd := by
  obtain ⟨⟨h, X, G, c⟩, _⟩ := T
  exact c.x.t.d.def_ 9 (d := d_law_is_name) rfl
theorem Tx.F__law_due (T : Tx w K mg base) : ∃ fd, FunD K "_law_due" "_law_due" (defArgs s_law_due) (defBody s_law_due) (defScope s_law_due) [] [] (He.fAd K ("_law_due", none)) fd := by
  obtain ⟨⟨h, X, G, c⟩, _⟩ := T
  exact c.x.t.d.def_ 10 (d := d_law_due) rfl
theorem Tx.F_law (T : Tx w K mg base) : ∃ fd, FunD K "law" "law" (defArgs slaw) (defBody slaw) (defScope slaw) [] [] (He.fAd K ("law", none)) fd := by
  obtain ⟨⟨h, X, G, c⟩, _⟩ := T
  exact c.x.t.d.def_ 11 (d := dlaw) rfl
theorem Tx.sup_InvalidNotation (T : Tx w K mg base) : ∃ cc fd, SU.Sup R.prog K (He.ga K "InvalidNotation") (Hd.suA K suInvalidNotation) cc fd "InvalidNotation.__init__" "line" (defScope sInvalidNotation___init__) ∧ fd.body = .stmts (defBody sInvalidNotation___init__) ∧ Binds K fd ["self", "line"] [] ∧ PySem.W.findIn K (.ref (He.ga K "InvalidNotation")) "__init__" = some (some (.ref (Hd.suA K suInvalidNotation))) ∧ PySem.W.typeIn K (.ref (Hd.suA K suInvalidNotation)) = some (.type "function") ∧ PySem.W.findIn K (.ref (He.ga K "InvalidNotation")) "line" = some none := by
  obtain ⟨h, c⟩ := T.sx
  obtain ⟨e, ok⟩ := c.su 0 (d := suInvalidNotation) rfl
  exact Hd.SuD.sup (d := suInvalidNotation) e ok ⟨_, rfl, rfl⟩ (by decide +kernel) rfl rfl rfl rfl rfl rfl rfl (by decide) (by decide +kernel) (fun _ _ _ _ _ _ _ us hl => match us, hl with | [_, _], _ => rfl)
theorem Tx.xc_InvalidNotation (T : Tx w K mg base) : XfC K (He.ga K "InvalidNotation") ∧ ExcC K (He.ga K "InvalidNotation") := Hd.excB_ok (He.ba T.sx.choose_spec.more).1
end
def Gd (K : PySem.W.Frag) (H : Hp) : Prop := ∀ p ∈ tf, GxR.TabG H (He.cT K p).2
theorem Gd.mono {K : PySem.W.Frag} {H H' : Hp} (g : Gd K H) (s : GD.Sm H H') : Gd K H' := fun p hp => s.tb _ (g p hp)
end K8

-- part DL1
set_option Elab.async false
set_option linter.all false
set_option maxRecDepth 100000
set_option maxHeartbeats 2000000
/-! data without a heap, what stands for it, states of a def -/
namespace DL
open PySem PySem.Spec PyProof.Rows L2 GxR GS GA GD
/-- data -/
inductive D where
  | non | bl (b : Bool) | int (i : Int) | str (s : Str)
  | lst (xs : List D) | tup (xs : List D)
  | ins (C : Str) (ns : List Str) (xs : List D)
  | dct (ks : List Key) (xs : List D)
  | scr (ns : List Int)
  | xc (a dd : Addr) (f : Str) (z : D)
/-- an address that may be written -/
def isM : HO → Prop
  | .lst _ => True
  | .dK _ => True
  | .ins .. => True
  | _ => False
abbrev AP := Addr → Prop
/-- a list that is locked, or one of the written part -/
def ScrAt (K : PySem.W.Frag) (H : Hp) (a : Addr) (xs : List V) : Prop := (∃ o, H a = some (.frz o (.lst xs))) ∨ SqL K (fun _ => none) a xs
theorem scr_keep {K : PySem.W.Frag} {H H' : Hp} {a : Addr} {xs : List V} (k : ∀ o u, H a = some (.frz o u) → H' a = some (.frz o u)) (r : ScrAt K H a xs) : ScrAt K H' a xs := r.imp (fun ⟨o, h⟩ => ⟨o, k o _ h⟩) id
theorem ScrAt.sq {K : PySem.W.Frag} {H : Hp} {a : Addr} {xs : List V} (r : ScrAt K H a xs) : SqL K H a xs := by
  rcases r with ⟨o, h⟩ | (h | ⟨o, h⟩) | h
  · exact .inl (.inr ⟨o, h⟩)
  · cases h
  · cases h
  · exact .inr h
mutual
/-- v stands for the data at H; no list, dict, instance in it is at an address of A -/
def Rp (K : PySem.W.Frag) (H : Hp) (A : AP) : D → V → Prop
  | .non, v => v = .non
  | .bl b, v => v = .bl b
  | .int i, v => v = .int i
  | .str s, v => v = .str s
  | .lst xs, v => ∃ a vs, v = .ref a ∧ H a = some (.lst vs) ∧ ¬ A a ∧ RpL K H A xs vs
  | .tup xs, v => ∃ a vs, v = .ref a ∧ SqT K H a vs ∧ RpL K H A xs vs
  | .ins C ns xs, v => ∃ a dx vs, v = .ref a ∧ H a = some (.ins (He.ga K C) dx (ns.zip vs)) ∧ ¬ A a ∧ ns.length = vs.length ∧ RpL K H A xs vs
  | .dct ks xs, v => ∃ a vs, v = .ref a ∧ H a = some (.dK (ks.zip vs)) ∧ ¬ A a ∧ ks.length = vs.length ∧ RpL K H A xs vs
  | .scr ns, v => ∃ a, v = .ref a ∧ ScrAt K H a (ns.map V.int)
  | .xc a dd f z, v => v = .ref a ∧ ∃ w, H dd = some (.xd [(f, w)]) ∧ Rp K H A z w
def RpL (K : PySem.W.Frag) (H : Hp) (A : AP) : List D → List V → Prop
  | [], vs => vs = []
  | d :: r, vs => ∃ v t, vs = v :: t ∧ Rp K H A d v ∧ RpL K H A r t
end
/-- all stands but what is at an address of O; tables may have grown -/
structure Kp (O : AP) (H H' : Hp) : Prop where
  st : ∀ b o, H b = some o → (isM o → ¬ O b) → (∀ ps, o ≠ .tbl ps) → H' b = some o
  tb : ∀ P, TabG H P → TabG H' P
  fr : ∀ b, H' b = none → H b = none
section
variable {O O' : AP} {H H' H'' : Hp}
theorem Kp.refl : Kp O H H := ⟨fun _ _ e _ _ => e, fun _ t => t, fun _ e => e⟩
theorem Kp.of (s : Sm H H') : Kp O H H' := ⟨fun b o e _ n => s.st b o e n, s.tb, s.fr⟩
theorem Kp.sm (k : Kp (fun _ => False) H H') : Sm H H' := ⟨fun b o e n => k.st b o e (fun _ z => z) n, k.tb, k.fr⟩
theorem Kp.trans (k : Kp O H H') (k' : Kp O' H' H'') (h : ∀ b, O' b → O b ∨ H b = none) : Kp O H H'' :=
  ⟨fun b o e m n => k'.st b o (k.st b o e m n) (fun z q => (h b q).elim (m z) fun y => by rw [e] at y; cases y) n, fun P t => k'.tb P (k.tb P t), fun b e => k.fr b (k'.fr b e)⟩
end
/-- from one state to a later one: A what is kept apart, O what is one's own -/
structure Tr (A O : AP) (H : Hp) (A' O' : AP) (H' : Hp) : Prop where
  kp : Kp O H H'
  new : ∀ b, A' b → A b ∨ H b = none
  old : ∀ b, A b → ¬ O b → A' b
  own : ∀ b, O' b → O b ∨ H b = none
section
variable {A O A' O' A'' O'' : AP} {H H' H'' : Hp}
theorem Tr.refl : Tr A O H A O H := ⟨Kp.refl, fun _ h => .inl h, fun _ h _ => h, fun _ h => .inl h⟩
theorem Tr.of (s : Sm H H') : Tr A O H A O H' := ⟨Kp.of s, fun _ h => .inl h, fun _ h _ => h, fun _ h => .inl h⟩
theorem Tr.trans (t : Tr A O H A' O' H') (t' : Tr A' O' H' A'' O'' H'') (tk : ∀ b, A b → H b ≠ none) : Tr A O H A'' O'' H'' :=
  ⟨t.kp.trans t'.kp t.own, fun b h => (t'.new b h).elim (t.new b) fun z => .inr (t.kp.fr b z), fun b h n => t'.old b (t.old b h n) fun z => (t.own b z).elim n (tk b h),
    fun b h => (t'.own b h).elim (t.own b) fun z => .inr (t.kp.fr b z)⟩
end
section
variable {K : PySem.W.Frag} {A A' O : AP} {H H' : Hp}
/-- lists, dicts, instances that stand for data stand on -/
theorem Rd.keep {a : Addr} {o : HO} (ht : ∀ ps, o ≠ .tbl ps) (k : ∀ u, (u = o ∨ ∃ x, u = .frz x o) → H a = some u → H' a = some u) (r : Rd H a o) : Rd H' a o := by
  rcases r with r | ⟨x, r⟩
  · exact .inl (k _ (.inl rfl) r)
  · exact .inr ⟨x, k _ (.inr ⟨x, rfl⟩) r⟩
theorem sqt_keep {a : Addr} {xs : List V} (k : ∀ u, (u = .tup xs ∨ ∃ x, u = .frz x (.tup xs)) → H a = some u → H' a = some u) (r : SqT K H a xs) : SqT K H' a xs := by
  rcases r with (r | ⟨x, r⟩) | r
  · exact .inl (.inl (k _ (.inl rfl) r))
  · exact .inl (.inr ⟨x, k _ (.inr ⟨x, rfl⟩) r⟩)
  · exact .inr r
mutual
theorem Rp.gen (k : ∀ b o, H b = some o → (isM o → ¬ A b) → (∀ ps, o ≠ .tbl ps) → H' b = some o) (n : ∀ b o, H b = some o → isM o → ¬ A b → ¬ A' b) : ∀ (d : D) (v : V), Rp K H A d v → Rp K H' A' d v
  | .non, _, h => by unfold Rp at h ⊢; exact h
  | .bl _, _, h => by unfold Rp at h ⊢; exact h
  | .int _, _, h => by unfold Rp at h ⊢; exact h
  | .str _, _, h => by unfold Rp at h ⊢; exact h
  | .lst xs, v, h => by
    unfold Rp at h ⊢
    obtain ⟨a, vs, e, r, na, t⟩ := h
    exact ⟨a, vs, e, k a _ r (fun _ => na) (fun ps z => by cases z), n a _ r trivial na, RpL.gen k n xs vs t⟩
  | .tup xs, v, h => by
    unfold Rp at h ⊢
    obtain ⟨a, vs, e, r, t⟩ := h
    refine ⟨a, vs, e, sqt_keep (fun u hu q => k a u q (fun m => ?_) (by rintro ps rfl; rcases hu with z | ⟨_, z⟩ <;> cases z)) r, RpL.gen k n xs vs t⟩
    rcases hu with rfl | ⟨x, rfl⟩ <;> exact m.elim
  | .ins C ns xs, v, h => by
    unfold Rp at h ⊢
    obtain ⟨a, dx, vs, e, r, na, l, t⟩ := h
    exact ⟨a, dx, vs, e, k a _ r (fun _ => na) (fun ps z => by cases z), n a _ r trivial na, l, RpL.gen k n xs vs t⟩
  | .dct ks xs, v, h => by
    unfold Rp at h ⊢
    obtain ⟨a, vs, e, r, na, l, t⟩ := h
    exact ⟨a, vs, e, k a _ r (fun _ => na) (fun ps z => by cases z), n a _ r trivial na, l, RpL.gen k n xs vs t⟩
  | .scr ns, v, h => by
    unfold Rp at h ⊢
    obtain ⟨a, e, r⟩ := h
    exact ⟨a, e, scr_keep (fun o u q => k a _ q (fun m => m.elim) (fun ps z => by cases z)) r⟩
  | .xc a dd f z, v, h => by
    unfold Rp at h ⊢
    obtain ⟨e, w, r, q⟩ := h
    exact ⟨e, w, k dd _ r (fun m => m.elim) (fun ps z => by cases z), Rp.gen k n z w q⟩
theorem RpL.gen (k : ∀ b o, H b = some o → (isM o → ¬ A b) → (∀ ps, o ≠ .tbl ps) → H' b = some o) (n : ∀ b o, H b = some o → isM o → ¬ A b → ¬ A' b) : ∀ (ds : List D) (vs : List V), RpL K H A ds vs → RpL K H' A' ds vs
  | [], _, h => by unfold RpL at h ⊢; exact h
  | d :: r, vs, h => by
    unfold RpL at h ⊢
    obtain ⟨v, t, e, h1, h2⟩ := h
    exact ⟨v, t, e, Rp.gen k n d v h1, RpL.gen k n r t h2⟩
end
variable {d : D} {v : V} {ds : List D} {vs : List V}
theorem Rp.sm (s : Sm H H') (h : Rp K H A d v) : Rp K H' A d v := Rp.gen (fun b o e _ n => s.st b o e n) (fun _ _ _ _ z => z) d v h
theorem RpL.sm (s : Sm H H') (h : RpL K H A ds vs) : RpL K H' A ds vs := RpL.gen (fun b o e _ n => s.st b o e n) (fun _ _ _ _ z => z) ds vs h
/-- fewer addresses are kept apart -/
theorem Rp.less (n : ∀ b, A' b → A b) (h : Rp K H A d v) : Rp K H A' d v := Rp.gen (fun _ _ e _ _ => e) (fun b _ _ _ z q => z (n b q)) d v h
theorem RpL.less (n : ∀ b, A' b → A b) (h : RpL K H A ds vs) : RpL K H A' ds vs := RpL.gen (fun _ _ e _ _ => e) (fun b _ _ _ z q => z (n b q)) ds vs h
/-- a new address is kept apart -/
theorem Rp.fresh {p : Addr} (hp : H p = none) (h : Rp K H A d v) : Rp K H (fun b => A b ∨ b = p) d v := Rp.gen (fun _ _ e _ _ => e) (fun b o e _ z q => q.elim z fun y => by rw [y, hp] at e; cases e) d v h
theorem RpL.fresh {p : Addr} (hp : H p = none) (h : RpL K H A ds vs) : RpL K H (fun b => A b ∨ b = p) ds vs := RpL.gen (fun _ _ e _ _ => e) (fun b o e _ z q => q.elim z fun y => by rw [y, hp] at e; cases e) ds vs h
theorem Rp.tr {O' : AP} (t : Tr A O H A' O' H') (hO : ∀ b, O b → A b) (h : Rp K H A d v) : Rp K H' A' d v :=
  Rp.gen (fun b o e m n => t.kp.st b o e (fun z q => m z (hO b q)) n) (fun b o e _ z q => (t.new b q).elim z fun y => by rw [e] at y; cases y) d v h
theorem RpL.tr {O' : AP} (t : Tr A O H A' O' H') (hO : ∀ b, O b → A b) (h : RpL K H A ds vs) : RpL K H' A' ds vs :=
  RpL.gen (fun b o e m n => t.kp.st b o e (fun z q => m z (hO b q)) n) (fun b o e _ z q => (t.new b q).elim z fun y => by rw [e] at y; cases y) ds vs h
/-- what is one's own is written -/
theorem Rp.upd {a : Addr} {o : HO} (ha : A a) (hm : ∀ u, H a = some u → isM u) (h : Rp K H A d v) : Rp K (upd H a o) A d v :=
  Rp.gen (fun b u e m n => by rw [upd_ne (fun z => by subst z; exact m (hm u e) ha)]; exact e) (fun _ _ _ _ z => z) d v h
theorem RpL.upd {a : Addr} {o : HO} (ha : A a) (hm : ∀ u, H a = some u → isM u) (h : RpL K H A ds vs) : RpL K (upd H a o) A ds vs :=
  RpL.gen (fun b u e m n => by rw [upd_ne (fun z => by subst z; exact m (hm u e) ha)]; exact e) (fun _ _ _ _ z => z) ds vs h
theorem RpL.nil : RpL K H A [] [] := by unfold RpL; rfl
theorem RpL.cons (h : Rp K H A d v) (t : RpL K H A ds vs) : RpL K H A (d :: ds) (v :: vs) := by unfold RpL; exact ⟨v, vs, rfl, h, t⟩
theorem RpL.uncons (h : RpL K H A (d :: ds) vs) : ∃ v t, vs = v :: t ∧ Rp K H A d v ∧ RpL K H A ds t := by unfold RpL at h; exact h
theorem RpL.unnil (h : RpL K H A [] vs) : vs = [] := by unfold RpL at h; exact h
theorem RpL.len : ∀ {ds : List D} {vs : List V}, RpL K H A ds vs → ds.length = vs.length
  | [], vs, h => by rw [h.unnil]; rfl
  | d :: r, vs, h => by
    obtain ⟨v, t, rfl, _, h2⟩ := h.uncons
    rw [List.length_cons, List.length_cons, RpL.len h2]
theorem RpL.app : ∀ {ds es : List D} {vs ws : List V}, RpL K H A ds vs → RpL K H A es ws → RpL K H A (ds ++ es) (vs ++ ws)
  | [], es, vs, ws, h, g => by rw [h.unnil]; exact g
  | d :: r, es, vs, ws, h, g => by
    obtain ⟨v, t, rfl, h1, h2⟩ := h.uncons
    exact RpL.cons h1 (RpL.app h2 g)
theorem RpL.get : ∀ {ds : List D} {vs : List V} {i : Nat} {v : V}, RpL K H A ds vs → vs[i]? = some v → ∃ d, ds[i]? = some d ∧ Rp K H A d v
  | [], vs, i, v, h, e => by rw [h.unnil] at e; simp at e
  | d :: r, vs, 0, v, h, e => by
    obtain ⟨w, t, rfl, h1, h2⟩ := h.uncons
    have e : w = v := by simpa using e
    exact ⟨d, rfl, by rw [← e]; exact h1⟩
  | d :: r, vs, i + 1, v, h, e => by
    obtain ⟨w, t, rfl, h1, h2⟩ := h.uncons
    obtain ⟨x, e1, e2⟩ := RpL.get (i := i) h2 (by simpa using e)
    exact ⟨x, by simpa using e1, e2⟩
theorem RpL.get' {i : Nat} {d : D} (h : RpL K H A ds vs) (e : ds[i]? = some d) : ∃ v, vs[i]? = some v ∧ Rp K H A d v := by
  have l := h.len
  have hi : i < vs.length := by rw [← l]; exact (List.getElem?_eq_some_iff.mp e).1
  obtain ⟨x, e1, e2⟩ := h.get (i := i) (List.getElem?_eq_getElem hi)
  rw [e] at e1
  cases e1
  exact ⟨_, List.getElem?_eq_getElem hi, e2⟩
theorem RpL.take : ∀ {ds : List D} {vs : List V} (n : Nat), RpL K H A ds vs → RpL K H A (ds.take n) (vs.take n)
  | _, _, 0, _ => by rw [List.take_zero, List.take_zero]; exact RpL.nil
  | [], vs, n + 1, h => by rw [h.unnil, List.take_nil, List.take_nil]; exact RpL.nil
  | d :: r, vs, n + 1, h => by
    obtain ⟨w, t, rfl, h1, h2⟩ := h.uncons
    rw [List.take_succ_cons, List.take_succ_cons]
    exact RpL.cons h1 (RpL.take n h2)
theorem RpL.drop : ∀ {ds : List D} {vs : List V} (n : Nat), RpL K H A ds vs → RpL K H A (ds.drop n) (vs.drop n)
  | _, _, 0, h => h
  | [], vs, n + 1, h => by rw [h.unnil, List.drop_nil, List.drop_nil]; exact RpL.nil
  | d :: r, vs, n + 1, h => by
    obtain ⟨w, t, rfl, h1, h2⟩ := h.uncons
    rw [List.drop_succ_cons, List.drop_succ_cons]
    exact RpL.drop n h2
theorem RpL.rev {ds : List D} : ∀ {vs : List V}, RpL K H A ds vs → RpL K H A ds.reverse vs.reverse := by
  induction ds with
  | nil => intro vs h; rw [h.unnil]; exact RpL.nil
  | cons d r ih =>
    intro vs h
    obtain ⟨w, t, rfl, h1, h2⟩ := h.uncons
    rw [List.reverse_cons, List.reverse_cons]
    exact RpL.app (ih h2) (RpL.cons h1 RpL.nil)
theorem RpL.strs {ss : List Str} : RpL K H A (ss.map .str) (ss.map V.str) := by
  induction ss with
  | nil => exact RpL.nil
  | cons s r ih => exact RpL.cons (by unfold Rp; rfl) ih
theorem RpL.ints {ss : List Int} : RpL K H A (ss.map .int) (ss.map V.int) := by
  induction ss with
  | nil => exact RpL.nil
  | cons s r ih => exact RpL.cons (by unfold Rp; rfl) ih
end
/-- a slot of a def: unknown, data, a list of one's own that may be changed -/
inductive Sl where
  | no | va (d : D) | ow (ds : List D)
/-- the state at H, σ: Ts the tables of the program's defs -/
structure Mt (K : PySem.W.Frag) (Ts : AP) (H : Hp) (A O : AP) (ρ : List Sl) (σ : L2.St) : Prop where
  tab : ∀ P, Ts P → TabG H P
  sub : ∀ b, O b → A b
  trk : ∀ b, A b → H b ≠ none
  len : ρ.length = σ.length
  va : ∀ (i : Nat) (d : D), ρ[i]? = some (Sl.va d) → ∃ v, σ[i]? = some (some v) ∧ Rp K H A d v
  ow : ∀ (i : Nat) (ds : List D), ρ[i]? = some (Sl.ow ds) → ∃ a vs, σ[i]? = some (some (V.ref a)) ∧ O a ∧ H a = some (.lst vs) ∧ RpL K H A ds vs
  ne : ∀ (i j : Nat) (ds es : List D) (a : Addr), ρ[i]? = some (Sl.ow ds) → ρ[j]? = some (Sl.ow es) → σ[i]? = some (some (V.ref a)) → σ[j]? = some (some (V.ref a)) → i = j
  ox : ∀ b, O b → ∃ (i : Nat) (ds : List D), ρ[i]? = some (Sl.ow ds) ∧ σ[i]? = some (some (V.ref b))
/-- O without the list of slot i -/
def Om (O : AP) (ρ : List Sl) (σ : L2.St) (i : Nat) : AP := fun b => O b ∧ ¬ ∃ ds, ρ[i]? = some (Sl.ow ds) ∧ σ[i]? = some (some (V.ref b))
section
variable {K : PySem.W.Frag} {Ts A O A' O' : AP} {H H' : Hp} {ρ : List Sl} {σ : L2.St} {i : Nat} {d : D} {ds : List D}
theorem Mt.sm (m : Mt K Ts H A O ρ σ) (s : Sm H H') : Mt K Ts H' A O ρ σ where
  tab := fun P h => s.tb P (m.tab P h)
  sub := m.sub
  trk := fun b h z => m.trk b h (s.fr b z)
  len := m.len
  va := fun i d e => let ⟨v, h1, h2⟩ := m.va i d e; ⟨v, h1, h2.sm s⟩
  ow := fun i ds e => let ⟨a, vs, h1, h2, h3, h4⟩ := m.ow i ds e; ⟨a, vs, h1, h2, s.st a _ h3 (fun _ z => by cases z), h4.sm s⟩
  ne := m.ne
  ox := m.ox
/-- a new address is kept apart -/
theorem Mt.fresh {p : Addr} (m : Mt K Ts H A O ρ σ) (hp : H p = none) (s : Sm H H') (h' : H' p ≠ none) : Mt K Ts H' (fun b => A b ∨ b = p) O ρ σ where
  tab := fun P h => s.tb P (m.tab P h)
  sub := fun b h => .inl (m.sub b h)
  trk := fun b h z => h.elim (fun q => m.trk b q (s.fr b z)) fun q => by subst q; exact h' z
  len := m.len
  va := fun i d e => let ⟨v, h1, h2⟩ := m.va i d e; ⟨v, h1, (h2.fresh hp).sm s⟩
  ow := fun i ds e => let ⟨a, vs, h1, h2, h3, h4⟩ := m.ow i ds e; ⟨a, vs, h1, h2, s.st a _ h3 (fun _ z => by cases z), (h4.fresh hp).sm s⟩
  ne := m.ne
  ox := m.ox
theorem getElem?_set_ne' {α : Type} {xs : List α} {i j : Nat} {x : α} (h : i ≠ j) : (xs.set i x)[j]? = xs[j]? := by rw [List.getElem?_set, if_neg h]
/-- a slot is forgotten -/
theorem Mt.drop (i : Nat) (m : Mt K Ts H A O ρ σ) : Mt K Ts H A (Om O ρ σ i) (ρ.set i .no) σ ∧ Tr A O H A (Om O ρ σ i) H := by
  have bk : ∀ {j : Nat} {x : Sl}, x ≠ .no → (ρ.set i .no)[j]? = some x → i ≠ j ∧ ρ[j]? = some x := fun {j x} nx q => by
    by_cases hij : i = j
    · rw [List.getElem?_set, if_pos hij] at q
      split at q
      · exact absurd (Option.some.inj q).symm nx
      · cases q
    · exact ⟨hij, by rw [getElem?_set_ne' hij] at q; exact q⟩
  refine ⟨⟨m.tab, fun b h => m.sub b h.1, m.trk, by rw [List.length_set, m.len], fun j e q => ?_, fun j es q => ?_, fun j k es fs a q1 q2 e1 e2 => ?_, fun b h => ?_⟩, ⟨Kp.refl, fun _ h => .inl h, fun _ h _ => h, fun _ h => .inl h.1⟩⟩
  · exact m.va j e (bk (by simp) q).2
  · obtain ⟨n, q⟩ := bk (by simp) q
    obtain ⟨a, vs, h1, h2, h3, h4⟩ := m.ow j es q
    exact ⟨a, vs, h1, ⟨h2, fun ⟨ds, z1, z2⟩ => n (m.ne i j ds es a z1 q z2 h1)⟩, h3, h4⟩
  · exact m.ne j k es fs a (bk (by simp) q1).2 (bk (by simp) q2).2 e1 e2
  · obtain ⟨j, ds, h1, h2⟩ := m.ox b h.1
    by_cases hij : i = j
    · subst hij
      exact absurd ⟨ds, h1, h2⟩ h.2
    · exact ⟨j, ds, by rw [getElem?_set_ne' hij]; exact h1, h2⟩
/-- an unknown slot takes a value: what is then known of it is told by a slot of its own -/
theorem Mt.fill (i : Nat) {x : Option V} (m : Mt K Ts H A O ρ σ) (hn : ∀ ds, ρ[i]? ≠ some (Sl.ow ds)) (hv : ∀ d, ρ[i]? ≠ some (Sl.va d)) : Mt K Ts H A O ρ (σ.set i x) := by
  refine ⟨m.tab, m.sub, m.trk, by rw [List.length_set, m.len], fun j e q => ?_, fun j es q => ?_, fun j k es fs a q1 q2 e1 e2 => ?_, fun b h => ?_⟩
  · have hij : i ≠ j := fun z => by subst z; exact hv e q
    rw [getElem?_set_ne' hij]
    exact m.va j e q
  · have hij : i ≠ j := fun z => by subst z; exact hn es q
    rw [getElem?_set_ne' hij]
    exact m.ow j es q
  · have hij : i ≠ j := fun z => by subst z; exact hn es q1
    have hik : i ≠ k := fun z => by subst z; exact hn fs q2
    rw [getElem?_set_ne' hij] at e1
    rw [getElem?_set_ne' hik] at e2
    exact m.ne j k es fs a q1 q2 e1 e2
  · obtain ⟨j, ds, h1, h2⟩ := m.ox b h
    have hij : i ≠ j := fun z => by subst z; exact hn ds h1
    exact ⟨j, ds, h1, by rw [getElem?_set_ne' hij]; exact h2⟩
theorem set_no {ρ : List Sl} {i : Nat} {x : Sl} (nx : x ≠ .no) : (ρ.set i .no)[i]? ≠ some x := by
  rw [List.getElem?_set, if_pos rfl]
  split
  · exact fun z => nx (Option.some.inj z).symm
  · exact fun z => by cases z
/-- a slot takes anything -/
theorem Mt.setNo {x : Option V} (m : Mt K Ts H A O ρ σ) : Mt K Ts H A (Om O ρ σ i) (ρ.set i .no) (σ.set i x) ∧ Tr A O H A (Om O ρ σ i) H :=
  ⟨(m.drop i).1.fill i (fun _ => set_no (by simp)) fun _ => set_no (by simp), (m.drop i).2⟩
/-- a slot takes data -/
theorem Mt.setVa {v : V} (m : Mt K Ts H A O ρ σ) (h : Rp K H A d v) : Mt K Ts H A (Om O ρ σ i) (ρ.set i (Sl.va d)) (σ.set i (some v)) ∧ Tr A O H A (Om O ρ σ i) H := by
  obtain ⟨n, t⟩ := m.setNo (i := i) (x := some v)
  refine ⟨⟨n.tab, n.sub, n.trk, by rw [List.length_set, List.length_set, m.len], fun j e q => ?_, fun j es q => ?_, fun j k es fs a q1 q2 e1 e2 => ?_, fun b h => ?_⟩, t⟩
  · by_cases hij : i = j
    · subst hij
      rw [List.getElem?_set, if_pos rfl] at q
      rw [List.getElem?_set, if_pos rfl]
      split at q
      · rename_i hl
        rw [if_pos (by rw [← m.len]; exact hl)]
        cases q
        exact ⟨v, rfl, h⟩
      · cases q
    · rw [getElem?_set_ne' hij] at q
      exact n.va j e (by rw [getElem?_set_ne' hij]; exact q)
  · by_cases hij : i = j
    · subst hij
      rw [List.getElem?_set, if_pos rfl] at q
      split at q <;> cases q
    · rw [getElem?_set_ne' hij] at q
      exact n.ow j es (by rw [getElem?_set_ne' hij]; exact q)
  · have f : ∀ {j : Nat} {fs : List D}, (ρ.set i (Sl.va d))[j]? = some (Sl.ow fs) → (ρ.set i .no)[j]? = some (Sl.ow fs) := fun {j fs} q => by
      by_cases hij : i = j
      · subst hij
        rw [List.getElem?_set, if_pos rfl] at q
        split at q <;> cases q
      · rw [getElem?_set_ne' hij] at q ⊢
        exact q
    exact n.ne j k es fs a (f q1) (f q2) e1 e2
  · obtain ⟨j, ds, h1, h2⟩ := n.ox b h
    have hij : i ≠ j := fun z => by subst z; exact set_no (by simp) h1
    refine ⟨j, ds, ?_, h2⟩
    rw [getElem?_set_ne' hij] at h1 ⊢
    exact h1
/-- a slot takes a new list -/
theorem Mt.setOw {p : Addr} {vs : List V} (m : Mt K Ts H (fun b => A b ∨ b = p) O ρ σ) (hi : i < ρ.length) (nO : ¬ O p) (h' : H p = some (.lst vs)) (r : RpL K H (fun b => A b ∨ b = p) ds vs) :
    Mt K Ts H (fun b => A b ∨ b = p) (fun b => Om O ρ σ i b ∨ b = p) (ρ.set i (Sl.ow ds)) (σ.set i (some (V.ref p))) := by
  obtain ⟨n, t⟩ := m.setNo (i := i) (x := some (V.ref p))
  have hs : (σ.set i (some (V.ref p)))[i]? = some (some (V.ref p)) := by rw [List.getElem?_set_self (by rw [← m.len]; exact hi)]
  have f : ∀ {j : Nat} {x : Sl}, i ≠ j → (ρ.set i (Sl.ow ds))[j]? = some x → (ρ.set i .no)[j]? = some x := fun {j x} hij q => by
    rw [getElem?_set_ne' hij] at q ⊢
    exact q
  have no : ∀ {j es}, i ≠ j → (ρ.set i (Sl.ow ds))[j]? = some (Sl.ow es) → (σ.set i (some (V.ref p)))[j]? ≠ some (some (V.ref p)) := fun {j es} hij q z => by
    obtain ⟨a, ws, h1, h2, h3, _⟩ := n.ow j es (f hij q)
    rw [h1] at z
    cases z
    exact nO h2.1
  refine ⟨n.tab, fun b h => h.elim (fun q => n.sub b q) .inr, n.trk, by rw [List.length_set, List.length_set, m.len], fun j e q => ?_, fun j es q => ?_, fun j k es fs a q1 q2 e1 e2 => ?_, fun b h => ?_⟩
  · have hij : i ≠ j := fun z => by subst z; rw [List.getElem?_set_self hi] at q; cases q
    exact n.va j e (f hij q)
  · by_cases hij : i = j
    · subst hij
      rw [List.getElem?_set_self hi] at q
      cases q
      exact ⟨p, vs, hs, .inr rfl, h', r⟩
    · obtain ⟨a, ws, h1, h2, h3, h4⟩ := n.ow j es (f hij q)
      exact ⟨a, ws, h1, .inl h2, h3, h4⟩
  · by_cases hij : i = j
    · by_cases hik : i = k
      · rw [← hij, ← hik]
      · subst hij
        rw [hs] at e1
        cases e1
        exact absurd e2 (no hik q2)
    · by_cases hik : i = k
      · subst hik
        rw [hs] at e2
        cases e2
        exact absurd e1 (no hij q1)
      · exact n.ne j k es fs a (f hij q1) (f hik q2) e1 e2
  · rcases h with h | rfl
    · obtain ⟨j, es, h1, h2⟩ := n.ox b h
      have hij : i ≠ j := fun z => by subst z; exact set_no (by simp) h1
      refine ⟨j, es, ?_, h2⟩
      rw [getElem?_set_ne' hij] at h1 ⊢
      exact h1
    · exact ⟨i, ds, List.getElem?_set_self hi, hs⟩
/-- the list of a slot is changed -/
theorem Mt.put {a : Addr} {es : List D} {us vs : List V} (m : Mt K Ts H A O ρ σ) (hi : ρ[i]? = some (Sl.ow ds)) (hs : σ[i]? = some (some (V.ref a))) (ha : H a = some (.lst us)) (hO : O a) (r : RpL K H A es vs) :
    Mt K Ts (upd H a (.lst vs)) A O (ρ.set i (Sl.ow es)) σ ∧ Tr A O H A O (upd H a (.lst vs)) := by
  have hm : ∀ u, H a = some u → isM u := fun u e => by rw [ha] at e; cases e; trivial
  have hl : i < ρ.length := (List.getElem?_eq_some_iff.mp hi).1
  have k : Kp O H (upd H a (.lst vs)) := by
    refine ⟨fun b o e z n => ?_, fun P ⟨ps, e, t⟩ => ⟨ps, ?_, t⟩, fun b e => ?_⟩
    · rw [upd_ne (fun q => by subst q; exact z (hm o e) hO)]; exact e
    · rw [upd_ne (fun q => by rw [q, ha] at e; cases e)]; exact e
    · by_cases hb : b = a
      · rw [hb, upd_same] at e; cases e
      · rw [upd_ne hb] at e; exact e
  refine ⟨⟨fun P h => k.tb P (m.tab P h), m.sub, fun b h z => m.trk b h (k.fr b z), by rw [List.length_set, m.len], fun j e q => ?_, fun j fs q => ?_, fun j l fs gs b q1 q2 e1 e2 => ?_, fun b h => ?_⟩, ⟨k, fun _ h => .inl h, fun _ h _ => h, fun _ h => .inl h⟩⟩
  · by_cases hij : i = j
    · subst hij
      rw [List.getElem?_set_self hl] at q
      cases q
    · rw [getElem?_set_ne' hij] at q
      obtain ⟨v, h1, h2⟩ := m.va j e q
      exact ⟨v, h1, h2.upd (m.sub a hO) hm⟩
  · by_cases hij : i = j
    · subst hij
      rw [List.getElem?_set_self hl] at q
      cases q
      exact ⟨a, vs, hs, hO, upd_same, r.upd (m.sub a hO) hm⟩
    · rw [getElem?_set_ne' hij] at q
      obtain ⟨b, ws, h1, h2, h3, h4⟩ := m.ow j fs q
      have nb : b ≠ a := fun z => hij (m.ne i j ds fs a hi q hs (by rw [← z]; exact h1))
      exact ⟨b, ws, h1, h2, by rw [upd_ne nb]; exact h3, h4.upd (m.sub a hO) hm⟩
  · have f : ∀ {j : Nat} {fs : List D}, (ρ.set i (Sl.ow es))[j]? = some (Sl.ow fs) → ∃ gs, ρ[j]? = some (Sl.ow gs) := fun {j fs} q => by
      by_cases hij : i = j
      · exact ⟨ds, by rw [← hij]; exact hi⟩
      · rw [getElem?_set_ne' hij] at q
        exact ⟨fs, q⟩
    obtain ⟨_, q1⟩ := f q1
    obtain ⟨_, q2⟩ := f q2
    exact m.ne j l _ _ b q1 q2 e1 e2
  · obtain ⟨j, fs, h1, h2⟩ := m.ox b h
    by_cases hij : i = j
    · subst hij
      exact ⟨i, es, List.getElem?_set_self hl, h2⟩
    · exact ⟨j, fs, by rw [getElem?_set_ne' hij]; exact h1, h2⟩
/-- a list of one's own is given away -/
theorem Mt.give {a : Addr} {us : List V} (m : Mt K Ts H A O ρ σ) (hi : ρ[i]? = some (Sl.ow ds)) (hs : σ[i]? = some (some (V.ref a))) (ha : H a = some (.lst us)) (hr : RpL K H A ds us) :
    Mt K Ts H (fun b => A b ∧ b ≠ a) (fun b => O b ∧ b ≠ a) (ρ.set i (Sl.va (.lst ds))) σ ∧ Rp K H (fun b => A b ∧ b ≠ a) (.lst ds) (.ref a) := by
  have hl : i < ρ.length := (List.getElem?_eq_some_iff.mp hi).1
  have r : Rp K H (fun b => A b ∧ b ≠ a) (.lst ds) (.ref a) := by
    unfold Rp
    exact ⟨a, us, rfl, ha, fun z => z.2 rfl, hr.less fun b z => z.1⟩
  refine ⟨⟨m.tab, fun b h => ⟨m.sub b h.1, h.2⟩, fun b h => m.trk b h.1, by rw [List.length_set, m.len], fun j e q => ?_, fun j fs q => ?_, fun j l fs gs b q1 q2 e1 e2 => ?_, fun b h => ?_⟩, r⟩
  · by_cases hij : i = j
    · subst hij
      rw [List.getElem?_set_self hl] at q
      cases q
      exact ⟨_, hs, r⟩
    · rw [getElem?_set_ne' hij] at q
      obtain ⟨v, h1, h2⟩ := m.va j e q
      exact ⟨v, h1, h2.less fun b z => z.1⟩
  · by_cases hij : i = j
    · subst hij
      rw [List.getElem?_set_self hl] at q
      cases q
    · rw [getElem?_set_ne' hij] at q
      obtain ⟨b, ws, h1, h2, h3, h4⟩ := m.ow j fs q
      have nb : b ≠ a := fun z => hij (m.ne i j ds fs a hi q hs (by rw [← z]; exact h1))
      exact ⟨b, ws, h1, ⟨h2, nb⟩, h3, h4.less fun b z => z.1⟩
  · have f : ∀ {j : Nat} {fs : List D}, (ρ.set i (Sl.va (.lst ds)))[j]? = some (Sl.ow fs) → ρ[j]? = some (Sl.ow fs) := fun {j fs} q => by
      by_cases hij : i = j
      · subst hij
        rw [List.getElem?_set_self hl] at q
        cases q
      · rw [getElem?_set_ne' hij] at q
        exact q
    exact m.ne j l _ _ b (f q1) (f q2) e1 e2
  · obtain ⟨j, fs, h1, h2⟩ := m.ox b h.1
    by_cases hij : i = j
    · subst hij
      rw [hs] at h2
      cases h2
      exact absurd rfl h.2
    · exact ⟨j, fs, by rw [getElem?_set_ne' hij]; exact h1, h2⟩
end
end DL

-- part DL2
set_option Elab.async false
set_option linter.all false
set_option maxRecDepth 100000
set_option maxHeartbeats 2000000
/-! readings over data; names, constants, operators, tests, blocks -/
namespace DL
open PySem PySem.Spec PyProof.Rows L2 GxR GS GA GD
/-- sh: shared, fr: a new list, bo: lent (a list of one's own that is only looked at) -/
inductive Kd where | sh | fr | bo
/-- an exception: its class, its field -/
structure Xc where
  cls : Str
  arg : Option (Str × D)
abbrev XF := Xc → List Sl → Prop
abbrev DE := XF → List Sl → (D → Kd → List Sl → Prop) → Prop
abbrev DA := XF → List Sl → (List D → List Sl → Prop) → Prop
abbrev DT := XF → List Sl → (Bool → List Sl → Prop) → Prop
structure DN where
  nx : List Sl → Prop
  rt : D → Prop
  bk : List Sl → Prop
  ct : List Sl → Prop
abbrev DS := XF → DN → List Sl → Prop
/-- as Rp, but the list itself may be kept apart -/
def Wk (K : PySem.W.Frag) (H : Hp) (A : AP) (d : D) (v : V) : Prop := match d with
  | .lst ds => ∃ a vs, v = .ref a ∧ H a = some (.lst vs) ∧ RpL K H A ds vs
  | d => Rp K H A d v
def Rs (K : PySem.W.Frag) (Ts : AP) (H H' : Hp) (A O : AP) (ρ : List Sl) (σ : L2.St) (κ : Kd) (d : D) (v : V) : Prop := match κ with
  | .sh => Rp K H' A d v
  | .bo => Wk K H' A d v
  | .fr => ∃ ds p vs, d = .lst ds ∧ v = .ref p ∧ H p = none ∧ H' p = some (.lst vs) ∧ ¬ A p ∧ RpL K H' (fun b => A b ∨ b = p) ds vs ∧ Mt K Ts H' (fun b => A b ∨ b = p) O ρ σ
/-- what an exception bears -/
def XR (K : PySem.W.Frag) (H : Hp) (A : AP) (x : Xc) (cls : Value) (od : Option Addr) : Prop :=
  cls = .ref (He.ga K x.cls) ∧ match x.arg with
  | none => od = none
  | some (f, d) => ∃ a v, od = some a ∧ H a = some (.xd [(f, v)]) ∧ Rp K H A d v
structure Cn (K : PySem.W.Frag) (Ts : AP) (W : WX) (σ : L2.St) (H : Hp) (A O : AP) (X : XF) (Qd : D → Kd → List Sl → Prop) (Q : VK) : Prop where
  q : ∀ d κ ρ' v H' A' O', Qd d κ ρ' → Sm H H' → Tr A O H A' O' H' → Mt K Ts H' A' O' ρ' σ → Rs K Ts H H' A' O' ρ' σ κ d v → Q v H'
  x : ∀ x ρ' cls od H' A' O', X x ρ' → Tr A O H A' O' H' → Mt K Ts H' A' O' ρ' σ → XR K H' A' x cls od → W cls od σ H'
def upE (K : PySem.W.Frag) (Ts : AP) (W : WX) (t : DE) : TE := fun σ H Q => ∃ A O ρ X Qd, Mt K Ts H A O ρ σ ∧ t X ρ Qd ∧ Cn K Ts W σ H A O X Qd Q
structure CnB (K : PySem.W.Frag) (Ts : AP) (W : WX) (σ : L2.St) (H : Hp) (A O : AP) (X : XF) (Qd : Bool → List Sl → Prop) (Q : Bool → Hp → Prop) : Prop where
  q : ∀ b ρ' H' A' O', Qd b ρ' → Sm H H' → Tr A O H A' O' H' → Mt K Ts H' A' O' ρ' σ → Q b H'
  x : ∀ x ρ' cls od H' A' O', X x ρ' → Tr A O H A' O' H' → Mt K Ts H' A' O' ρ' σ → XR K H' A' x cls od → W cls od σ H'
def upT (K : PySem.W.Frag) (Ts : AP) (W : WX) (t : DT) : TT := fun σ H Q => ∃ A O ρ X Qd, Mt K Ts H A O ρ σ ∧ t X ρ Qd ∧ CnB K Ts W σ H A O X Qd Q
structure CnA (K : PySem.W.Frag) (Ts : AP) (W : WX) (σ : L2.St) (H : Hp) (A O : AP) (X : XF) (Qd : List D → List Sl → Prop) (Q : List V → Hp → Prop) : Prop where
  q : ∀ ds ρ' vs H' A' O', Qd ds ρ' → Sm H H' → Tr A O H A' O' H' → Mt K Ts H' A' O' ρ' σ → RpL K H' A' ds vs → Q vs H'
  x : ∀ x ρ' cls od H' A' O', X x ρ' → Tr A O H A' O' H' → Mt K Ts H' A' O' ρ' σ → XR K H' A' x cls od → W cls od σ H'
def upA (K : PySem.W.Frag) (Ts : AP) (W : WX) (t : DA) : TA := fun σ H Q => ∃ A O ρ X Qd, Mt K Ts H A O ρ σ ∧ t X ρ Qd ∧ CnA K Ts W σ H A O X Qd Q
structure CnS (K : PySem.W.Frag) (Ts : AP) (W : WX) (H : Hp) (A O : AP) (X : XF) (N : DN) (E : Ends) : Prop where
  nx : ∀ ρ' σ' H' A' O', N.nx ρ' → Tr A O H A' O' H' → Mt K Ts H' A' O' ρ' σ' → E.nx σ' H'
  bk : ∀ ρ' σ' H' A' O', N.bk ρ' → Tr A O H A' O' H' → Mt K Ts H' A' O' ρ' σ' → E.bk σ' H'
  ct : ∀ ρ' σ' H' A' O', N.ct ρ' → Tr A O H A' O' H' → Mt K Ts H' A' O' ρ' σ' → E.ct σ' H'
  rt : ∀ d v H' A' O', N.rt d → Tr A O H A' O' H' → Rp K H' A' d v → E.rt v H'
  x : ∀ x ρ' cls od σ' H' A' O', X x ρ' → Tr A O H A' O' H' → Mt K Ts H' A' O' ρ' σ' → XR K H' A' x cls od → W cls od σ' H'
def upS (K : PySem.W.Frag) (Ts : AP) (W : WX) (t : DS) : TS := fun E σ H => ∃ A O ρ X N, Mt K Ts H A O ρ σ ∧ t X N ρ ∧ CnS K Ts W H A O X N E

theorem _root_.L2.PE.imp {X : Cx} {e : Expr} {t t' : TE} (h : PE X e t) (i : ∀ σ H Q, t' σ H Q → t σ H Q) : PE X e t' := ⟨fun pins s σ H Q I q => h.run pins s σ H Q I (i σ H Q q)⟩
theorem _root_.L2.PT.imp {X : Cx} {e : Expr} {t t' : TT} (h : PT X e t) (i : ∀ σ H Q, t' σ H Q → t σ H Q) : PT X e t' := ⟨fun pins s σ H Q I q => h.run pins s σ H Q I (i σ H Q q)⟩
theorem _root_.L2.PW.imp {X : Cx} {e : Expr} {t t' : TT} (h : PW X e t) (i : ∀ σ H Q, t' σ H Q → t σ H Q) : PW X e t' := ⟨fun wh pins s σ H Q I q => h.run wh pins s σ H Q I (i σ H Q q)⟩
theorem _root_.L2.PA.imp {X : Cx} {e : List Expr} {t t' : TA} (h : PA X e t) (i : ∀ σ H Q, t' σ H Q → t σ H Q) : PA X e t' := ⟨fun pos pins s σ H Q I q => h.run pos pins s σ H Q I (i σ H Q q)⟩
theorem _root_.L2.PS.imp {X : Cx} {e : Stmt} {t t' : TS} (h : PS X e t) (i : ∀ D σ H, t' D σ H → t D σ H) : PS X e t' := ⟨fun pins s σ H D I q => h.run pins s σ H D I (i D σ H q)⟩
theorem _root_.L2.PSs.imp {X : Cx} {e : List Stmt} {t t' : TS} (h : PSs X e t) (i : ∀ D σ H, t' D σ H → t D σ H) : PSs X e t' := ⟨fun pins s σ H D I q => h.run pins s σ H D I (i D σ H q)⟩

section
variable {K : PySem.W.Frag} {Ts : AP} {W : WX} {σ : L2.St} {H H1 H' : Hp} {A O A1 O1 A' O' : AP} {X : XF} {ρ : List Sl} {Q : VK} {Qd : D → Kd → List Sl → Prop} {d : D} {v : V} {κ : Kd}
theorem Wk.of (h : Rp K H A d v) : Wk K H A d v := by
  unfold Wk
  split
  · unfold Rp at h
    obtain ⟨a, vs, e, r, _, t⟩ := h
    exact ⟨a, vs, e, r, t⟩
  · exact h
theorem Wk.tr (h : Wk K H A d v) (s : Sm H H') (t : Tr A O H A' O' H') (hO : ∀ b, O b → A b) : Wk K H' A' d v := by
  unfold Wk at h ⊢
  split at h
  · obtain ⟨a, vs, e, r, q⟩ := h
    exact ⟨a, vs, e, s.st a _ r (fun _ z => by cases z), q.tr t hO⟩
  · exact h.tr t hO
theorem Rs.wk (h : Rs K Ts H H' A O ρ σ κ d v) : Wk K H' A d v := by
  unfold Rs at h
  split at h
  · exact Wk.of h
  · exact h
  · obtain ⟨ds, p, vs, rfl, rfl, _, h2, _, h3, _⟩ := h
    exact ⟨p, vs, rfl, h2, h3.less fun b z => .inl z⟩
theorem Rs.rp (h : Rs K Ts H H' A O ρ σ κ d v) (n : κ ≠ .bo) : Rp K H' A d v := by
  unfold Rs at h
  split at h
  · exact h
  · exact absurd rfl n
  · obtain ⟨ds, p, vs, rfl, rfl, _, h2, h3, h4, _⟩ := h
    unfold Rp
    exact ⟨p, vs, rfl, h2, h3, h4.less fun b z => .inl z⟩
theorem Rs.back (s : Sm H H1) (h : Rs K Ts H1 H' A O ρ σ κ d v) : Rs K Ts H H' A O ρ σ κ d v := by
  unfold Rs at h ⊢
  split at h
  · exact h
  · exact h
  · obtain ⟨ds, p, vs, e1, e2, e3, r⟩ := h
    exact ⟨ds, p, vs, e1, e2, s.fr _ e3, r⟩
theorem Cn.move (c : Cn K Ts W σ H A O X Qd Q) (s : Sm H H1) (t : Tr A O H A1 O1 H1) (m : Mt K Ts H A O ρ σ) : Cn K Ts W σ H1 A1 O1 X Qd Q where
  q := fun d κ ρ' v H' A' O' h s' t' m' r => c.q d κ ρ' v H' A' O' h (s.trans s') (t.trans t' m.trk) m' (r.back s)
  x := fun x ρ' cls od H' A' O' h t' m' r => c.x x ρ' cls od H' A' O' h (t.trans t' m.trk) m' r
theorem CnB.move {Qd : Bool → List Sl → Prop} {Q : Bool → Hp → Prop} (c : CnB K Ts W σ H A O X Qd Q) (s : Sm H H1) (t : Tr A O H A1 O1 H1) (m : Mt K Ts H A O ρ σ) : CnB K Ts W σ H1 A1 O1 X Qd Q where
  q := fun b ρ' H' A' O' h s' t' m' => c.q b ρ' H' A' O' h (s.trans s') (t.trans t' m.trk) m'
  x := fun x ρ' cls od H' A' O' h t' m' r => c.x x ρ' cls od H' A' O' h (t.trans t' m.trk) m' r
theorem CnA.move {Qd : List D → List Sl → Prop} {Q : List V → Hp → Prop} (c : CnA K Ts W σ H A O X Qd Q) (s : Sm H H1) (t : Tr A O H A1 O1 H1) (m : Mt K Ts H A O ρ σ) : CnA K Ts W σ H1 A1 O1 X Qd Q where
  q := fun b ρ' v H' A' O' h s' t' m' r => c.q b ρ' v H' A' O' h (s.trans s') (t.trans t' m.trk) m' r
  x := fun x ρ' cls od H' A' O' h t' m' r => c.x x ρ' cls od H' A' O' h (t.trans t' m.trk) m' r
theorem CnS.move {N : DN} {E : Ends} (c : CnS K Ts W H A O X N E) (t : Tr A O H A1 O1 H1) (m : Mt K Ts H A O ρ σ) : CnS K Ts W H1 A1 O1 X N E where
  nx := fun ρ' σ' H' A' O' h t' m' => c.nx ρ' σ' H' A' O' h (t.trans t' m.trk) m'
  bk := fun ρ' σ' H' A' O' h t' m' => c.bk ρ' σ' H' A' O' h (t.trans t' m.trk) m'
  ct := fun ρ' σ' H' A' O' h t' m' => c.ct ρ' σ' H' A' O' h (t.trans t' m.trk) m'
  rt := fun d v H' A' O' h t' r => c.rt d v H' A' O' h (t.trans t' m.trk) r
  x := fun x ρ' cls od σ' H' A' O' h t' m' r => c.x x ρ' cls od σ' H' A' O' h (t.trans t' m.trk) m' r
/-- the value is shared, the heap may have grown -/
theorem Cn.sh (c : Cn K Ts W σ H A O X Qd Q) (m : Mt K Ts H A O ρ σ) (s : Sm H H') (h : Qd d .sh ρ) (r : Rp K H' A d v) : Q v H' := c.q d .sh ρ v H' A O h s (Tr.of s) (m.sm s) r
theorem Cn.flat (c : Cn K Ts W σ H A O X Qd Q) (m : Mt K Ts H A O ρ σ) (h : Qd d .sh ρ) (r : Rp K H A d v) : Q v H := c.sh m Sm.refl h r
/-- the value is a new list -/
theorem Cn.fr {ds : List D} {p : Addr} {vs : List V} (c : Cn K Ts W σ H A O X Qd Q) (m : Mt K Ts H A O ρ σ) (hp : H p = none) (h : Qd (.lst ds) .fr ρ) (r : RpL K H A ds vs) : Q (.ref p) (upd H p (.lst vs)) := by
  have s := Sm.new (o := .lst vs) hp
  refine c.q _ .fr ρ _ _ A O h s (Tr.of s) (m.sm s) ⟨ds, p, vs, rfl, rfl, hp, upd_same, fun z => m.trk p z hp, (r.fresh hp).sm s, m.fresh hp s (by rw [upd_same]; exact fun z => by cases z)⟩
theorem CnB.fin {Qd : Bool → List Sl → Prop} {Q : Bool → Hp → Prop} {b : Bool} (c : CnB K Ts W σ H A O X Qd Q) (m : Mt K Ts H A O ρ σ) (s : Sm H H') (h : Qd b ρ) : Q b H' := c.q b ρ H' A O h s (Tr.of s) (m.sm s)
end

/-! ### names and constants -/
section
variable {X : Cx} {Ts : AP} {W : WX} {i : Nat} {x : Str} {pos : Pos}
/-- a name's value -/
def dVar (i : Nat) : DE := fun _ ρ Q => match ρ[i]? with
  | some (.va d) => Q d .sh ρ
  | some (.ow ds) => Q (.lst ds) .sh (ρ.set i (.va (.lst ds)))
  | _ => False
/-- .. looked at -/
def dVarB (i : Nat) : DE := fun _ ρ Q => match ρ[i]? with
  | some (.va d) => Q d .sh ρ
  | some (.ow ds) => Q (.lst ds) .bo ρ
  | _ => False
theorem de_var (hN : X.N[i]? = some x) (hv : Vis X.env.scope x) (hd : (x == ("__debug__" : Str)) = false := by decide) (hcd : (x == ("__classdict__" : Str)) = false := by decide) : PE X (.Name x pos) (upE X.K Ts W (dVar i)) := by
  refine (pe_var hN hv hd hcd).imp fun σ H Q h => ?_
  obtain ⟨A, O, ρ, Xf, Qd, m, h, c⟩ := h
  unfold dVar at h
  split at h
  · rename_i d e
    obtain ⟨v, h1, h2⟩ := m.va i d e
    exact ⟨v, h1, c.flat m h h2⟩
  · rename_i ds e
    obtain ⟨a, vs, h1, h2, h3, h4⟩ := m.ow i ds e
    obtain ⟨m2, r⟩ := m.give e h1 h3 h4
    refine ⟨_, h1, c.q _ .sh _ _ H _ _ h Sm.refl ⟨Kp.refl, fun b z => .inl z.1, fun b z n => ⟨z, fun q => n (by rw [q]; exact h2)⟩, fun b z => .inl z.1⟩ m2 r⟩
  · exact h.elim
theorem de_varB (hN : X.N[i]? = some x) (hv : Vis X.env.scope x) (hd : (x == ("__debug__" : Str)) = false := by decide) (hcd : (x == ("__classdict__" : Str)) = false := by decide) : PE X (.Name x pos) (upE X.K Ts W (dVarB i)) := by
  refine (pe_var hN hv hd hcd).imp fun σ H Q h => ?_
  obtain ⟨A, O, ρ, Xf, Qd, m, h, c⟩ := h
  unfold dVarB at h
  split at h
  · rename_i d e
    obtain ⟨v, h1, h2⟩ := m.va i d e
    exact ⟨v, h1, c.flat m h h2⟩
  · rename_i ds e
    obtain ⟨a, vs, h1, h2, h3, h4⟩ := m.ow i ds e
    exact ⟨_, h1, c.q _ .bo _ _ H _ _ h Sm.refl Tr.refl m ⟨a, vs, rfl, h3, h4⟩⟩
  · exact h.elim
/-- a value that is known -/
def dC (d : D) : DE := fun _ ρ Q => Q d .sh ρ
theorem de_int {n : Int} {j pos} : PE X (.Constant (.int n) j pos) (upE X.K Ts W (dC (.int n))) := pe_int.imp fun σ H Q ⟨A, O, ρ, Xf, Qd, m, h, c⟩ => c.flat m h (by unfold Rp; rfl)
theorem de_bl {n : Bool} {j pos} : PE X (.Constant (.bool n) j pos) (upE X.K Ts W (dC (.bl n))) := pe_bl.imp fun σ H Q ⟨A, O, ρ, Xf, Qd, m, h, c⟩ => c.flat m h (by unfold Rp; rfl)
theorem de_non {j pos} : PE X (.Constant .none j pos) (upE X.K Ts W (dC .non)) := pe_non.imp fun σ H Q ⟨A, O, ρ, Xf, Qd, m, h, c⟩ => c.flat m h (by unfold Rp; rfl)
theorem de_str {n : Str} {j pos} : PE X (.Constant (.str n) j pos) (upE X.K Ts W (dC (.str n))) := pe_str.imp fun σ H Q ⟨A, O, ρ, Xf, Qd, m, h, c⟩ => c.flat m h (by unfold Rp; rfl)
/-- a constant of the module -/
theorem de_glob {v : V} {u : Value} {d : D} (hg : Gl X x) (hm : X.mg x = some u) (r : RelV v u) (hr : ∀ H A, Rp X.K H A d v) (hd : (x == ("__debug__" : Str)) = false := by decide) : PE X (.Name x pos) (upE X.K Ts W (dC d)) :=
  (pe_glob hg hm r hd).imp fun σ H Q ⟨A, O, ρ, Xf, Qd, m, h, c⟩ => c.flat m h (hr H A)
end

/-! ### operators -/
/-- an operator over data -/
def DOp (X : Cx) (Ts : AP) (f : Value → Value → Sem Value) (g : D → D → (D → Kd → Prop) → Prop) : Prop := ∃ r : R2, OpR X f r ∧
  ∀ (W : WX) (σ : L2.St) (H : Hp) (A O : AP) (ρ : List Sl) (Xf : XF) (Qd : D → Kd → List Sl → Prop) (Q : VK) (d e : D) (v w : V), Wk X.K H A d v → Wk X.K H A e w → Mt X.K Ts H A O ρ σ → Cn X.K Ts W σ H A O Xf Qd Q → g d e (fun z κ => Qd z κ ρ) → r v w H Q
def dBin (g : D → D → (D → Kd → Prop) → Prop) (ta tb : DE) : DE := fun X ρ Q => ta X ρ fun d _ ρ1 => tb X ρ1 fun e _ ρ2 => g d e fun z κ => Q z κ ρ2
section
variable {X : Cx} {Ts : AP} {W : WX} {a b : Expr} {ta tb : DE} {pos : Pos} {g : D → D → (D → Kd → Prop) → Prop}
theorem up_bin {r : R2} (ho : ∀ (W : WX) (σ : L2.St) (H : Hp) (A O : AP) (ρ : List Sl) (Xf : XF) (Qd : D → Kd → List Sl → Prop) (Q : VK) (d e : D) (v w : V), Wk X.K H A d v → Wk X.K H A e w → Mt X.K Ts H A O ρ σ → Cn X.K Ts W σ H A O Xf Qd Q → g d e (fun z κ => Qd z κ ρ) → r v w H Q)
    {σ : L2.St} {H : Hp} {Q : VK} (h : upE X.K Ts W (dBin g ta tb) σ H Q) : tOp r (upE X.K Ts W ta) (upE X.K Ts W tb) σ H Q := by
  obtain ⟨A, O, ρ, Xf, Qd, m, h, c⟩ := h
  refine ⟨A, O, ρ, Xf, _, m, h, fun d κ ρ1 v H1 A1 O1 h1 s1 t1 m1 r1 => ?_, c.x⟩
  have c1 := c.move s1 t1 m
  refine ⟨A1, O1, ρ1, Xf, _, m1, h1, fun e κ2 ρ2 w H2 A2 O2 h2 s2 t2 m2 r2 => ?_, c1.x⟩
  exact ho W σ H2 A2 O2 ρ2 Xf Qd Q d e v w (r1.wk.tr s2 t2 m1.sub) r2.wk m2 (c1.move s2 t2 m1) h2
theorem de_bin {op : Operator} (ho : DOp X Ts (binaryOp op) g) (ha : PE X a (upE X.K Ts W ta)) (hb : PE X b (upE X.K Ts W tb)) : PE X (.BinOp a op b pos) (upE X.K Ts W (dBin g ta tb)) := by
  obtain ⟨r, h1, h2⟩ := ho
  exact (pe_op h1 ha hb).imp fun σ H Q h => up_bin h2 h
theorem de_cmp {op : CmpOp} (ho : DOp X Ts (compareOp op) g) (ha : PE X a (upE X.K Ts W ta)) (hb : PE X b (upE X.K Ts W tb)) (hm : behindInMarks op b = false) : PE X (.Compare a [op] [b] pos) (upE X.K Ts W (dBin g ta tb)) := by
  obtain ⟨r, h1, h2⟩ := ho
  exact (pe_cmpR h1 ha hb hm).imp fun σ H Q h => up_bin h2 h
/-- a test -/
def dTst (t : DE) : DT := fun X ρ Q => t X ρ fun d _ ρ1 => match d with
  | .bl b => Q b ρ1
  | _ => False
theorem up_tst {t : DE} {σ : L2.St} {H : Hp} {Q : Bool → Hp → Prop} (h : upT X.K Ts W (dTst t) σ H Q) : upE X.K Ts W t σ H fun x H1 => ∃ c, x = .bl c ∧ Q c H1 := by
  obtain ⟨A, O, ρ, Xf, Qd, m, h, c⟩ := h
  refine ⟨A, O, ρ, Xf, _, m, h, fun d κ ρ1 v H1 A1 O1 h1 s1 t1 m1 r1 => ?_, c.x⟩
  split at h1
  · rename_i b
    have r2 := r1.wk
    unfold Wk Rp at r2
    exact ⟨b, r2, c.q b ρ1 H1 A1 O1 h1 s1 t1 m1⟩
  · exact h1.elim
theorem dt_cmp {op : CmpOp} (ho : DOp X Ts (compareOp op) g) (ha : PE X a (upE X.K Ts W ta)) (hb : PE X b (upE X.K Ts W tb)) (hm : behindInMarks op b = false) : PT X (.Compare a [op] [b] pos) (upT X.K Ts W (dTst (dBin g ta tb))) := by
  obtain ⟨r, h1, h2⟩ := ho
  refine (pt_cmpR h1 ha hb hm).imp fun σ H Q h => ?_
  have q := up_bin h2 (up_tst h)
  exact q
theorem dt_val {e : Expr} {t : DE} (h : PE X e (upE X.K Ts W t)) (he : ∀ whole, isTrue e X.env whole = (do let v ← whole; standAt e.pos; holding [v] (truthy v)) := by intro _; rfl) : PT X e (upT X.K Ts W (dTst t)) :=
  (pt_val h he).imp fun σ H Q h => up_tst h
/-- a chain a op b op' c -/
def dChain (g g' : D → D → (D → Kd → Prop) → Prop) (ta tb tc : DE) : DT := fun X ρ Q => ta X ρ fun d _ ρ1 => tb X ρ1 fun e _ ρ2 => g d e fun z _ => match z with
  | .bl true => tc X ρ2 fun f _ ρ3 => g' e f fun y _ => match y with
    | .bl b => Q b ρ3
    | _ => False
  | .bl false => Q false ρ2
  | _ => False
def dAnd (t u : DT) : DT := fun X ρ Q => t X ρ fun b ρ1 => if b = true then u X ρ1 Q else Q false ρ1
def dOr (t u : DT) : DT := fun X ρ Q => t X ρ fun b ρ1 => if b = true then Q true ρ1 else u X ρ1 Q
def dNot (t : DT) : DT := fun X ρ Q => t X ρ fun b ρ1 => Q (!b) ρ1
variable {tA tB : DT} {rest : List Expr}
theorem dw_and1 (ha : PT X a (upT X.K Ts W tA)) : PW X (.BoolOp .And [a] pos) (upT X.K Ts W tA) := pw_and1 ha
theorem dw_or1 (ha : PT X a (upT X.K Ts W tA)) : PW X (.BoolOp .Or [a] pos) (upT X.K Ts W tA) := pw_or1 ha
theorem dw_and (ha : PT X a (upT X.K Ts W tA)) (hb : PW X (.BoolOp .And (b :: rest) pos) (upT X.K Ts W tB)) : PW X (.BoolOp .And (a :: b :: rest) pos) (upT X.K Ts W (dAnd tA tB)) := by
  refine (pw_and ha hb).imp fun σ H Q h => ?_
  obtain ⟨A, O, ρ, Xf, Qd, m, h, c⟩ := h
  refine ⟨A, O, ρ, Xf, _, m, h, fun b ρ1 H1 A1 O1 h1 s1 t1 m1 => ?_, c.x⟩
  cases b with
  | true => exact ⟨A1, O1, ρ1, Xf, Qd, m1, h1, c.move s1 t1 m⟩
  | false => exact c.q false ρ1 H1 A1 O1 h1 s1 t1 m1
theorem dw_or (ha : PT X a (upT X.K Ts W tA)) (hb : PW X (.BoolOp .Or (b :: rest) pos) (upT X.K Ts W tB)) : PW X (.BoolOp .Or (a :: b :: rest) pos) (upT X.K Ts W (dOr tA tB)) := by
  refine (pw_or ha hb).imp fun σ H Q h => ?_
  obtain ⟨A, O, ρ, Xf, Qd, m, h, c⟩ := h
  refine ⟨A, O, ρ, Xf, _, m, h, fun b ρ1 H1 A1 O1 h1 s1 t1 m1 => ?_, c.x⟩
  cases b with
  | true => exact c.q true ρ1 H1 A1 O1 h1 s1 t1 m1
  | false => exact ⟨A1, O1, ρ1, Xf, Qd, m1, h1, c.move s1 t1 m⟩
theorem dt_not (ha : PT X a (upT X.K Ts W tA)) : PT X (.UnaryOp .Not a pos) (upT X.K Ts W (dNot tA)) := by
  refine (pt_not ha).imp fun σ H Q h => ?_
  obtain ⟨A, O, ρ, Xf, Qd, m, h, c⟩ := h
  exact ⟨A, O, ρ, Xf, _, m, h, fun b ρ1 H1 A1 O1 h1 s1 t1 m1 => c.q _ ρ1 H1 A1 O1 h1 s1 t1 m1, c.x⟩
/-- and, or, not as values of bools -/
def dAndV (ta tb : DE) : DE := fun X ρ Q => ta X ρ fun d _ ρ1 => match d with
  | .bl true => tb X ρ1 Q
  | .bl false => Q (.bl false) .sh ρ1
  | _ => False
def dOrV (ta tb : DE) : DE := fun X ρ Q => ta X ρ fun d _ ρ1 => match d with
  | .bl true => Q (.bl true) .sh ρ1
  | .bl false => tb X ρ1 Q
  | _ => False
def dNotV (ta : DE) : DE := fun X ρ Q => ta X ρ fun d _ ρ1 => match d with
  | .bl b => Q (.bl (!b)) .sh ρ1
  | _ => False
theorem Rs.bl {K : PySem.W.Frag} {H H' : Hp} {A O : AP} {ρ : List Sl} {σ : L2.St} {κ : Kd} {b : Bool} {v : V} (r : Rs K Ts H H' A O ρ σ κ (.bl b) v) : v = .bl b := by
  have r2 := r.wk
  unfold Wk Rp at r2
  exact r2
theorem de_one {op} {t : DE} (h : PE X a (upE X.K Ts W t)) : PE X (.BoolOp op [a] pos) (upE X.K Ts W t) := pe_one h
theorem de_and (ha : PE X a (upE X.K Ts W ta)) (hb : PE X (.BoolOp .And (b :: rest) pos) (upE X.K Ts W tb)) : PE X (.BoolOp .And (a :: b :: rest) pos) (upE X.K Ts W (dAndV ta tb)) := by
  refine (pe_and ha hb).imp fun σ H Q h => ?_
  obtain ⟨A, O, ρ, Xf, Qd, m, h, c⟩ := h
  refine ⟨A, O, ρ, Xf, _, m, h, fun d κ ρ1 v H1 A1 O1 h1 s1 t1 m1 r1 => ?_, c.x⟩
  split at h1
  · exact ⟨true, r1.bl, A1, O1, ρ1, Xf, Qd, m1, h1, c.move s1 t1 m⟩
  · exact ⟨false, r1.bl, (c.move s1 t1 m).flat m1 h1 (by unfold Rp; rfl)⟩
  · exact h1.elim
theorem de_or (ha : PE X a (upE X.K Ts W ta)) (hb : PE X (.BoolOp .Or (b :: rest) pos) (upE X.K Ts W tb)) : PE X (.BoolOp .Or (a :: b :: rest) pos) (upE X.K Ts W (dOrV ta tb)) := by
  refine (pe_or ha hb).imp fun σ H Q h => ?_
  obtain ⟨A, O, ρ, Xf, Qd, m, h, c⟩ := h
  refine ⟨A, O, ρ, Xf, _, m, h, fun d κ ρ1 v H1 A1 O1 h1 s1 t1 m1 r1 => ?_, c.x⟩
  split at h1
  · exact ⟨true, r1.bl, (c.move s1 t1 m).flat m1 h1 (by unfold Rp; rfl)⟩
  · exact ⟨false, r1.bl, A1, O1, ρ1, Xf, Qd, m1, h1, c.move s1 t1 m⟩
  · exact h1.elim
theorem de_not (ha : PE X a (upE X.K Ts W ta)) : PE X (.UnaryOp .Not a pos) (upE X.K Ts W (dNotV ta)) := by
  refine (pe_not ha).imp fun σ H Q h => ?_
  obtain ⟨A, O, ρ, Xf, Qd, m, h, c⟩ := h
  refine ⟨A, O, ρ, Xf, _, m, h, fun d κ ρ1 v H1 A1 O1 h1 s1 t1 m1 r1 => ?_, c.x⟩
  split at h1
  · exact ⟨_, r1.bl, (c.move s1 t1 m).flat m1 h1 (by unfold Rp; rfl)⟩
  · exact h1.elim
/-- a if t else b -/
def dIf (t : DT) (ta tb : DE) : DE := fun X ρ Q => t X ρ fun b ρ1 => if b = true then ta X ρ1 Q else tb X ρ1 Q
theorem de_if {e : Expr} (hc : PT X e (upT X.K Ts W tA)) (ha : PE X a (upE X.K Ts W ta)) (hb : PE X b (upE X.K Ts W tb)) : PE X (.IfExp e a b pos) (upE X.K Ts W (dIf tA ta tb)) := by
  refine (pe_ifExp hc ha hb).imp fun σ H Q h => ?_
  obtain ⟨A, O, ρ, Xf, Qd, m, h, c⟩ := h
  refine ⟨A, O, ρ, Xf, _, m, h, fun b ρ1 H1 A1 O1 h1 s1 t1 m1 => ?_, c.x⟩
  cases b with
  | true => exact ⟨A1, O1, ρ1, Xf, Qd, m1, h1, c.move s1 t1 m⟩
  | false => exact ⟨A1, O1, ρ1, Xf, Qd, m1, h1, c.move s1 t1 m⟩
end

/-! ### blocks -/
section
variable {X : Cx} {Ts : AP} {W : WX} {st : Stmt} {rest : List Stmt} {t u : DS} {e : Expr} {te : DE} {pos : Pos}
def dNext : DS := fun _ N ρ => N.nx ρ
def dSeq (t u : DS) : DS := fun X N ρ => t X { N with nx := u X N } ρ
theorem ds_nil : PSs X [] (upS X.K Ts W dNext) := pss_nil.imp fun E σ H ⟨A, O, ρ, Xf, N, m, h, c⟩ => c.nx ρ σ H A O h Tr.refl m
theorem ds_one (h1 : PS X st (upS X.K Ts W t)) : PSs X [st] (upS X.K Ts W t) := pss_one h1
theorem ds_cons (h1 : PS X st (upS X.K Ts W t)) (h2 : PSs X rest (upS X.K Ts W u)) : PSs X (st :: rest) (upS X.K Ts W (dSeq t u)) := by
  refine (pss_cons h1 h2).imp fun E σ H h => ?_
  obtain ⟨A, O, ρ, Xf, N, m, h, c⟩ := h
  exact ⟨A, O, ρ, Xf, _, m, h, fun ρ1 σ1 H1 A1 O1 h1 t1 m1 => ⟨A1, O1, ρ1, Xf, N, m1, h1, c.move t1 m⟩, c.bk, c.ct, c.rt, c.x⟩
theorem ds_pass : PS X (.Pass pos) (upS X.K Ts W dNext) := ps_pass.imp fun E σ H ⟨A, O, ρ, Xf, N, m, h, c⟩ => c.nx ρ σ H A O h Tr.refl m
def dBreak : DS := fun _ N ρ => N.bk ρ
def dCont : DS := fun _ N ρ => N.ct ρ
theorem ds_break : PS X (.Break pos) (upS X.K Ts W dBreak) := ps_break.imp fun E σ H ⟨A, O, ρ, Xf, N, m, h, c⟩ => c.bk ρ σ H A O h Tr.refl m
theorem ds_cont : PS X (.Continue pos) (upS X.K Ts W dCont) := ps_continue.imp fun E σ H ⟨A, O, ρ, Xf, N, m, h, c⟩ => c.ct ρ σ H A O h Tr.refl m
theorem ds_doc {x j pos pos'} : PS X (.Expr (.Constant (.str x) j pos) pos') (upS X.K Ts W dNext) := ps_doc.imp fun E σ H ⟨A, O, ρ, Xf, N, m, h, c⟩ => c.nx ρ σ H A O h Tr.refl m
def dRet (te : DE) : DS := fun X N ρ => te X ρ fun d κ _ => κ ≠ .bo ∧ N.rt d
theorem ds_ret (he : PE X e (upE X.K Ts W te)) : PS X (.Return (some e) pos) (upS X.K Ts W (dRet te)) := by
  refine (ps_ret he).imp fun E σ H h => ?_
  obtain ⟨A, O, ρ, Xf, N, m, h, c⟩ := h
  exact ⟨A, O, ρ, Xf, _, m, h, fun d κ ρ1 v H1 A1 O1 h1 s1 t1 m1 r1 => c.rt d v H1 A1 O1 h1.2 t1 (r1.rp h1.1), fun x ρ' cls od H' A' O' => c.x x ρ' cls od σ H' A' O'⟩
def dRetN : DS := fun _ N _ => N.rt .non
theorem ds_retN : PS X (.Return none pos) (upS X.K Ts W dRetN) := ps_retN.imp fun E σ H ⟨A, O, ρ, Xf, N, m, h, c⟩ => c.rt .non _ H A O h Tr.refl (by unfold Rp; rfl)
def dIfS (c : DT) (t u : DS) : DS := fun X N ρ => c X ρ fun b ρ1 => if b = true then t X N ρ1 else u X N ρ1
theorem ds_if {c : Expr} {a b : List Stmt} {tc : DT} (hc : PT X c (upT X.K Ts W tc)) (ha : PSs X a (upS X.K Ts W t)) (hb : PSs X b (upS X.K Ts W u)) : PS X (.If c a b pos) (upS X.K Ts W (dIfS tc t u)) := by
  refine (ps_if hc ha hb).imp fun E σ H h => ?_
  obtain ⟨A, O, ρ, Xf, N, m, h, c⟩ := h
  refine ⟨A, O, ρ, Xf, _, m, h, fun b ρ1 H1 A1 O1 h1 s1 t1 m1 => ?_, fun x ρ' cls od H' A' O' => c.x x ρ' cls od σ H' A' O'⟩
  cases b with
  | true => exact ⟨A1, O1, ρ1, Xf, N, m1, h1, c.move t1 m⟩
  | false => exact ⟨A1, O1, ρ1, Xf, N, m1, h1, c.move t1 m⟩
/-- name = value: a new list is one's own -/
def slOf : D → Kd → Sl
  | .lst ds, .fr => .ow ds
  | d, _ => .va d
def dSet (i : Nat) (te : DE) : DS := fun X N ρ => te X ρ fun d κ ρ1 => κ ≠ .bo ∧ i < ρ1.length ∧ N.nx (ρ1.set i (slOf d κ))
/-- what a value is behind its storing -/
theorem stored {K : PySem.W.Frag} {H H1 : Hp} {A O A1 O1 : AP} {ρ1 : List Sl} {σ : L2.St} {i : Nat} {d : D} {κ : Kd} {v : V} (t1 : Tr A O H A1 O1 H1) (m1 : Mt K Ts H1 A1 O1 ρ1 σ) (s1 : Sm H H1) (trk : ∀ b, A b → H b ≠ none) (sub : ∀ b, O b → A b) (r1 : Rs K Ts H H1 A1 O1 ρ1 σ κ d v) (nb : κ ≠ .bo) (hi : i < ρ1.length) :
    ∃ A2 O2, Tr A O H A2 O2 H1 ∧ Mt K Ts H1 A2 O2 (ρ1.set i (slOf d κ)) (σ.set i (some v)) := by
  cases κ with
  | sh =>
    have e : slOf d .sh = .va d := by cases d <;> rfl
    rw [e]
    obtain ⟨m2, t2⟩ := m1.setVa (i := i) (show Rp K H1 A1 d v from r1)
    exact ⟨_, _, t1.trans t2 trk, m2⟩
  | bo => exact absurd rfl nb
  | fr =>
    obtain ⟨ds, p, vs, rfl, rfl, hp, h2, nA, r, mm⟩ := r1
    refine ⟨_, _, ?_, mm.setOw hi (fun z => nA (m1.sub _ z)) h2 r⟩
    exact ⟨t1.kp, fun b z => z.elim (t1.new b) fun q => by rw [q]; exact .inr hp, fun b z n => .inl (t1.old b z n), fun b z => z.elim (fun q => t1.own b q.1) fun q => by rw [q]; exact .inr hp⟩
theorem ds_set {i : Nat} {x : Str} {pos' : Pos} (hN : X.N.Nodup) (hi : X.N[i]? = some x) (hx : Loc X.env.scope x) (he : PE X e (upE X.K Ts W te)) (hs : swapsWith e (some (.Name x pos')) pos.line X.env = pure false := by rfl) (hf : X.fn x = true ∨ X.env.scope.names.lookup x = some .local := by first | exact .inl rfl | exact .inr rfl | assumption) :
    PS X (.Assign [.Name x pos'] e pos) (upS X.K Ts W (dSet i te)) := by
  refine (ps_set hN hi hx he hs hf).imp fun E σ H h => ?_
  obtain ⟨A, O, ρ, Xf, N, m, h, c⟩ := h
  refine ⟨A, O, ρ, Xf, _, m, h, fun d κ ρ1 v H1 A1 O1 h1 s1 t1 m1 r1 => ?_, fun x ρ' cls od H' A' O' => c.x x ρ' cls od σ H' A' O'⟩
  obtain ⟨A2, O2, t2, m2⟩ := stored (i := i) t1 m1 s1 m.trk m.sub r1 h1.1 h1.2.1
  exact c.nx _ _ _ _ _ h1.2.2 t2 m2
def dDrop (te : DE) : DS := fun X N ρ => te X ρ fun _ _ ρ1 => N.nx ρ1
theorem ds_expr (he : PE X e (upE X.K Ts W te)) (hs : swapsWith e none pos.line X.env = pure false := by rfl) : PS X (.Expr e pos) (upS X.K Ts W (dDrop te)) := by
  refine (ps_expr he hs).imp fun E σ H h => ?_
  obtain ⟨A, O, ρ, Xf, N, m, h, c⟩ := h
  exact ⟨A, O, ρ, Xf, _, m, h, fun d κ ρ1 v H1 A1 O1 h1 s1 t1 m1 r1 => c.nx _ _ _ _ _ h1 t1 m1, fun x ρ' cls od H' A' O' => c.x x ρ' cls od σ H' A' O'⟩
end
end DL

-- part DL3
set_option Elab.async false
set_option linter.all false
set_option maxRecDepth 100000
set_option maxHeartbeats 2000000
/-! operators, calls of built-ins, lists, indexes over data -/
namespace DL
open PySem PySem.Spec PyProof.Rows L2 GxR GS GA GD
section
variable {K : PySem.W.Frag} {H : Hp} {A : AP} {v : V}
theorem Wk.int {i : Int} (h : Wk K H A (.int i) v) : v = .int i := by unfold Wk Rp at h; exact h
theorem Wk.str {i : Str} (h : Wk K H A (.str i) v) : v = .str i := by unfold Wk Rp at h; exact h
theorem Wk.bl {i : Bool} (h : Wk K H A (.bl i) v) : v = .bl i := by unfold Wk Rp at h; exact h
theorem Wk.non (h : Wk K H A .non v) : v = .non := by unfold Wk Rp at h; exact h
theorem Wk.lst {ds : List D} (h : Wk K H A (.lst ds) v) : ∃ a vs, v = .ref a ∧ H a = some (.lst vs) ∧ RpL K H A ds vs := by unfold Wk at h; exact h
theorem Wk.tup {ds : List D} (h : Wk K H A (.tup ds) v) : ∃ a vs, v = .ref a ∧ SqT K H a vs ∧ RpL K H A ds vs := by unfold Wk Rp at h; exact h
theorem Wk.scr {ns : List Int} (h : Wk K H A (.scr ns) v) : ∃ a, v = .ref a ∧ ScrAt K H a (ns.map V.int) := by unfold Wk Rp at h; exact h
theorem Rp.int {i : Int} : Rp K H A (.int i) (.int i) := by unfold Rp; rfl
theorem Rp.str {i : Str} : Rp K H A (.str i) (.str i) := by unfold Rp; rfl
theorem Rp.bl {i : Bool} : Rp K H A (.bl i) (.bl i) := by unfold Rp; rfl
theorem Rp.non : Rp K H A .non .non := by unfold Rp; rfl
theorem Rp.tup {ds : List D} {a : Addr} {vs : List V} (h : SqT K H a vs) (r : RpL K H A ds vs) : Rp K H A (.tup ds) (.ref a) := by unfold Rp; exact ⟨a, vs, rfl, h, r⟩
end
/-- a list of data of one's own, with a thing that is asked -/
def oK {α : Type} (o : Option α) (Q : α → Prop) : Prop := match o with
  | some x => Q x
  | none => False
theorem oK_some {α : Type} {x : α} {Q : α → Prop} : oK (some x) Q = Q x := rfl
theorem oK.get {α : Type} {o : Option α} {Q : α → Prop} (h : oK o Q) : ∃ x, o = some x ∧ Q x := by
  cases o with
  | none => exact h.elim
  | some x => exact ⟨x, rfl, h⟩
theorem oK.mk {α : Type} {o : Option α} {Q : α → Prop} {x : α} (e : o = some x) (h : Q x) : oK o Q := by rw [e]; exact h
section
variable {X : Cx} {Ts : AP}
/-- numbers -/
def numOp (C : Int → Int → Prop) (f : Int → Int → D) : D → D → (D → Kd → Prop) → Prop
  | .int i, .int j, Q => C i j ∧ Q (f i j) .sh
  | _, _, _ => False
theorem num_ok {f : Value → Value → Sem Value} {C : Int → Int → Prop} {g : Int → Int → V} {g' : Int → Int → D} (h : OpR X f (rI C g)) (hg : ∀ i j H A, Rp X.K H A (g' i j) (g i j)) : DOp X Ts f (numOp C g') := by
  refine ⟨_, h, fun W σ H A O ρ Xf Qd Q d e v w hd he m c q => ?_⟩
  unfold numOp at q
  split at q
  · exact ⟨_, _, hd.int, he.int, q.1, c.flat m q.2 (hg _ _ _ _)⟩
  · exact q.elim
theorem num_ok0 {f : Value → Value → Sem Value} {g : Int → Int → V} {g' : Int → Int → D} (h : OpR X f (rI0 g)) (hg : ∀ i j H A, Rp X.K H A (g' i j) (g i j)) : DOp X Ts f (numOp (fun _ _ => True) g') := by
  refine ⟨_, h, fun W σ H A O ρ Xf Qd Q d e v w hd he m c q => ?_⟩
  unfold numOp at q
  split at q
  · exact ⟨_, _, hd.int, he.int, c.flat m q.2 (hg _ _ _ _)⟩
  · exact q.elim
abbrev gSub' := numOp (fun _ _ => True) fun i j => .int (i - j)
abbrev gMul := numOp CMulB fun i j => .int (i * j)
abbrev gDiv := numOp CDiv fun i j => .int (i / j)
abbrev gMod := numOp (fun _ j => 0 < j) fun i j => .int (i % j)
abbrev gLt := numOp (fun _ _ => True) fun i j => .bl (decide (i < j))
abbrev gLe := numOp (fun _ _ => True) fun i j => .bl (decide (i ≤ j))
abbrev gGt := numOp (fun _ _ => True) fun i j => .bl (decide (j < i))
abbrev gGe := numOp (fun _ _ => True) fun i j => .bl (decide (j ≤ i))
theorem dop_sub : DOp X Ts (binaryOp .Sub) gSub' := num_ok0 op_sub fun _ _ _ _ => Rp.int
theorem dop_mul : DOp X Ts (binaryOp .Mult) gMul := num_ok op_mulB fun _ _ _ _ => Rp.int
theorem dop_div : DOp X Ts (binaryOp .FloorDiv) gDiv := num_ok op_fdiv fun _ _ _ _ => Rp.int
theorem dop_mod : DOp X Ts (binaryOp .Mod) gMod := num_ok op_mod fun _ _ _ _ => Rp.int
theorem dop_lt : DOp X Ts (compareOp .Lt) gLt := num_ok0 op_lt fun _ _ _ _ => Rp.bl
theorem dop_le : DOp X Ts (compareOp .LtE) gLe := num_ok0 op_le fun _ _ _ _ => Rp.bl
theorem dop_gt : DOp X Ts (compareOp .Gt) gGt := num_ok0 op_gt fun _ _ _ _ => Rp.bl
theorem dop_ge : DOp X Ts (compareOp .GtE) gGe := num_ok0 op_ge fun _ _ _ _ => Rp.bl
/-- + -/
def gAdd : D → D → (D → Kd → Prop) → Prop
  | .int i, .int j, Q => Q (.int (i + j)) .sh
  | .str a, .str b, Q => a.length + b.length ≤ sizeLine ∧ Q (.str (a ++ b)) .sh
  | .lst a, .lst b, Q => a.length + b.length ≤ sizeLine ∧ Q (.lst (a ++ b)) .fr
  | .tup a, .tup b, Q => a.length + b.length ≤ sizeLine ∧ Q (.tup (a ++ b)) .sh
  | _, _, _ => False
theorem dop_add : DOp X Ts (binaryOp .Add) gAdd := by
  refine ⟨_, OpR.or (OpR.or (OpR.or op_add op_add_str) op_cat) op_catA, fun W σ H A O ρ Xf Qd Q d e v w hd he m c q => ?_⟩
  unfold gAdd at q
  split at q
  · exact .inl (.inl (.inl ⟨_, _, hd.int, he.int, c.flat m q Rp.int⟩))
  · exact .inl (.inl (.inr ⟨_, _, hd.str, he.str, q.1, c.flat m q.2 Rp.str⟩))
  · obtain ⟨a, vs, rfl, ha, ra⟩ := hd.lst
    obtain ⟨b, ws, rfl, hb, rb⟩ := he.lst
    refine .inl (.inr ⟨a, b, vs, ws, rfl, rfl, ha, hb, by rw [← ra.len, ← rb.len]; exact q.1, fun p hp => c.fr m hp q.2 (ra.app rb)⟩)
  · obtain ⟨a, vs, rfl, ha, ra⟩ := hd.tup
    obtain ⟨b, ws, rfl, hb, rb⟩ := he.tup
    refine .inr ⟨a, b, vs, ws, rfl, rfl, ha, hb, by rw [← ra.len, ← rb.len]; exact q.1, fun e0 => ?_, fun _ e0 => ?_, fun _ _ p hp => ?_⟩
    · subst e0
      refine c.flat m q.2 (Rp.tup hb ?_)
      have := ra.app rb
      exact this
    · subst e0
      refine c.flat m q.2 (Rp.tup ha ?_)
      have := ra.app rb
      rw [List.append_nil] at this
      exact this
    · exact c.sh m (Sm.new hp) q.2 (Rp.tup (SqT.of upd_same) ((ra.app rb).sm (Sm.new hp)))
  · exact q.elim
/-! ### == -/
mutual
/-- as the library's data -/
def pd : D → PyData
  | .non => .none
  | .bl b => .bool b
  | .int i => .int i
  | .str s => .str s
  | .lst xs => .list (pdL xs)
  | .tup xs => .tuple (pdL xs)
  | _ => .none
def pdL : List D → List PyData
  | [] => []
  | d :: r => pd d :: pdL r
end
mutual
def okD : D → Bool
  | .non => true
  | .bl _ => true
  | .int _ => true
  | .str s => PyData.strOk s
  | .lst xs => okL xs
  | .tup xs => okL xs
  | _ => false
def okL : List D → Bool
  | [] => true
  | d :: r => okD d && okL r
end
mutual
def dpt : D → Nat
  | .lst xs => dptL xs + 1
  | .tup xs => dptL xs + 1
  | _ => 0
def dptL : List D → Nat
  | [] => 0
  | d :: r => max (dpt d) (dptL r)
end
/-- may be compared -/
def shp (d : D) : Bool := okD d && decide (dpt d ≤ 60)
def eqD (d e : D) : Bool := PyData.eqv (pd d) (pd e)
mutual
theorem lay_of : ∀ d : D, okD d = true → (pd d).canLay0 = true
  | .non, _ => by simp [pd, PyData.canLay0]
  | .bl _, _ => by simp [pd, PyData.canLay0]
  | .int _, _ => by simp [pd, PyData.canLay0]
  | .str s, h => by simp only [pd, PyData.canLay0]; exact h
  | .lst xs, h => by simp only [pd, PyData.canLay0]; exact layL_of xs h
  | .tup xs, h => by simp only [pd, PyData.canLay0]; exact layL_of xs h
  | .ins .., h => by simp [okD] at h
  | .dct .., h => by simp [okD] at h
  | .scr _, h => by simp [okD] at h
  | .xc .., h => by simp [okD] at h
theorem layL_of : ∀ xs : List D, okL xs = true → PyData.canLayAll0 (pdL xs) = true
  | [], _ => by simp [pdL, PyData.canLayAll0]
  | d :: r, h => by
    simp only [okL, Bool.and_eq_true] at h
    simp only [pdL, PyData.canLayAll0, lay_of d h.1, layL_of r h.2, Bool.and_true]
end
mutual
theorem dpt_of : ∀ d : D, (pd d).depth ≤ dpt d + 1
  | .non => by simp [pd, PyData.depth]
  | .bl _ => by simp [pd, PyData.depth]
  | .int _ => by simp [pd, PyData.depth]
  | .str s => by simp [pd, PyData.depth]
  | .lst xs => by
    have := dptL_of xs
    simp only [pd, PyData.depth, dpt]; omega
  | .tup xs => by
    have := dptL_of xs
    simp only [pd, PyData.depth, dpt]; omega
  | .ins .. => by simp [pd, PyData.depth]
  | .dct .. => by simp [pd, PyData.depth]
  | .scr _ => by simp [pd, PyData.depth]
  | .xc .. => by simp [pd, PyData.depth]
theorem dptL_of : ∀ xs : List D, PyData.depthAll (pdL xs) ≤ dptL xs + 1
  | [] => by simp [pdL, PyData.depthAll]
  | d :: r => by
    have h1 := dpt_of d
    have h2 := dptL_of r
    simp only [pdL, PyData.depthAll, dptL]
    omega
end
theorem shaped_of {d : D} (h : shp d = true) : SeqAt.shaped (pd d) = true := by
  obtain ⟨h1, h2⟩ := He.ba h
  have h2 := of_decide_eq_true h2
  have h3 := dpt_of d
  unfold SeqAt.shaped
  rw [lay_of d h1, decide_eq_true (by omega)]
  rfl
mutual
theorem dp_of {K : PySem.W.Frag} {H : Hp} {A : AP} : ∀ (d : D) (v : V), okD d = true → Rp K H A d v → Dp K H v (pd d)
  | .non, v, _, h => by unfold Rp at h; subst h; simp only [pd]; exact .non
  | .bl b, v, _, h => by unfold Rp at h; subst h; simp only [pd]; exact .bl b
  | .int i, v, _, h => by unfold Rp at h; subst h; simp only [pd]; exact .int i
  | .str s, v, _, h => by unfold Rp at h; subst h; simp only [pd]; exact .str s
  | .lst xs, v, o, h => by
    unfold Rp at h
    obtain ⟨a, vs, rfl, h1, _, h2⟩ := h
    simp only [pd]
    exact .lst (SqL.of h1) (dpL_of xs vs o h2)
  | .tup xs, v, o, h => by
    unfold Rp at h
    obtain ⟨a, vs, rfl, h1, h2⟩ := h
    simp only [pd]
    exact .tup h1 (dpL_of xs vs o h2)
  | .ins .., _, o, _ => by simp [okD] at o
  | .dct .., _, o, _ => by simp [okD] at o
  | .scr _, _, o, _ => by simp [okD] at o
  | .xc .., _, o, _ => by simp [okD] at o
theorem dpL_of {K : PySem.W.Frag} {H : Hp} {A : AP} : ∀ (ds : List D) (vs : List V), okL ds = true → RpL K H A ds vs → DpAll K H vs (pdL ds)
  | [], vs, _, h => by rw [h.unnil]; simp only [pdL]; exact .nil
  | d :: r, vs, o, h => by
    simp only [okL, Bool.and_eq_true] at o
    obtain ⟨v, t, rfl, h1, h2⟩ := h.uncons
    simp only [pdL]
    exact .cons (dp_of d v o.1 h1) (dpL_of r t o.2 h2)
end
theorem Wk.dp {K : PySem.W.Frag} {H : Hp} {A : AP} {d : D} {v : V} (o : okD d = true) (h : Wk K H A d v) : Dp K H v (pd d) := by
  unfold Wk at h
  split at h
  · obtain ⟨a, vs, rfl, h1, h2⟩ := h
    simp only [pd]
    exact .lst (SqL.of h1) (dpL_of _ vs o h2)
  · exact dp_of d v o h
/-- plain values that == tells apart -/
def sclr : D → D → Option Bool
  | .int i, .int j => some (decide (i = j))
  | .str a, .str b => some (decide (a = b))
  | .bl a, .bl b => some (decide (a = b))
  | .non, .non => some true
  | .non, .str _ => some false
  | .str _, .non => some false
  | .non, .int _ => some false
  | .int _, .non => some false
  | .int _, .str _ => some false
  | .str _, .int _ => some false
  | _, _ => none
theorem sclr_ok {K : PySem.W.Frag} {H : Hp} {A : AP} {d e : D} {v w : V} {b : Bool} (hd : Wk K H A d v) (he : Wk K H A e w) (h : sclr d e = some b) : scal v w = true ∧ b = decide (v = w) := by
  unfold sclr at h
  split at h
  · rw [hd.int, he.int]; cases h; exact ⟨rfl, decide_eq_decide.mpr ⟨congrArg _, V.int.inj⟩⟩
  · rw [hd.str, he.str]; cases h; exact ⟨rfl, decide_eq_decide.mpr ⟨congrArg _, V.str.inj⟩⟩
  · rw [hd.bl, he.bl]; cases h; exact ⟨rfl, decide_eq_decide.mpr ⟨congrArg _, V.bl.inj⟩⟩
  · rw [hd.non, he.non]; cases h; exact ⟨rfl, rfl⟩
  · rw [hd.non, he.str]; cases h; exact ⟨rfl, rfl⟩
  · rw [hd.str, he.non]; cases h; exact ⟨rfl, rfl⟩
  · rw [hd.non, he.int]; cases h; exact ⟨rfl, rfl⟩
  · rw [hd.int, he.non]; cases h; exact ⟨rfl, rfl⟩
  · rw [hd.int, he.str]; cases h; exact ⟨rfl, rfl⟩
  · rw [hd.str, he.int]; cases h; exact ⟨rfl, rfl⟩
  · cases h
/-- == : the plain ones, else what may be compared -/
def gEqB (d e : D) (Q : Bool → Prop) : Prop := match sclr d e with
  | some b => Q b
  | none => shp d = true ∧ shp e = true ∧ Q (eqD d e)
def gEq (d e : D) (Q : D → Kd → Prop) : Prop := gEqB d e fun b => Q (.bl b) .sh
def gNe (d e : D) (Q : D → Kd → Prop) : Prop := gEqB d e fun b => Q (.bl (!b)) .sh
theorem dop_eq (hu : X.A.units + 64 < cLine) : DOp X Ts (compareOp .Eq) gEq := by
  refine ⟨_, OpR.or op_eq (op_eqD hu), fun W σ H A O ρ Xf Qd Q d e v w hd he m c q => ?_⟩
  unfold gEq gEqB at q
  split at q
  · rename_i b hb
    obtain ⟨h1, h2⟩ := sclr_ok hd he hb
    exact .inl ⟨h1, by rw [← h2]; exact c.flat m q Rp.bl⟩
  · obtain ⟨h1, h2, q⟩ := q
    exact .inr ⟨pd d, pd e, hd.dp (He.ba h1).1, he.dp (He.ba h2).1, shaped_of h1, shaped_of h2, c.flat m q Rp.bl⟩
theorem dop_ne (hu : X.A.units + 64 < cLine) : DOp X Ts (compareOp .NotEq) gNe := by
  refine ⟨_, OpR.or op_ne (op_neD hu), fun W σ H A O ρ Xf Qd Q d e v w hd he m c q => ?_⟩
  unfold gNe gEqB at q
  split at q
  · rename_i b hb
    obtain ⟨h1, h2⟩ := sclr_ok hd he hb
    exact .inl ⟨h1, by rw [← h2]; exact c.flat m q Rp.bl⟩
  · obtain ⟨h1, h2, q⟩ := q
    exact .inr ⟨pd d, pd e, hd.dp (He.ba h1).1, he.dp (He.ba h2).1, shaped_of h1, shaped_of h2, c.flat m q Rp.bl⟩
/-! ### is None, in -/
def gIsN (d e : D) (Q : D → Kd → Prop) : Prop := match d, e with
  | .non, .non => Q (.bl true) .sh
  | _, .non => Q (.bl false) .sh
  | _, _ => False
def gNotN (d e : D) (Q : D → Kd → Prop) : Prop := match d, e with
  | .non, .non => Q (.bl false) .sh
  | _, .non => Q (.bl true) .sh
  | _, _ => False
theorem Wk.nn {K : PySem.W.Frag} {H : Hp} {A : AP} {d : D} {v : V} (h : Wk K H A d v) (n : d ≠ .non) : v ≠ .non := by
  rintro rfl
  unfold Wk at h
  split at h
  · obtain ⟨a, vs, e, _⟩ := h
    cases e
  · unfold Rp at h
    split at h
    · exact n rfl
    · cases h
    · cases h
    · cases h
    · obtain ⟨_, _, e, _⟩ := h; cases e
    · obtain ⟨_, _, e, _⟩ := h; cases e
    · obtain ⟨_, _, _, e, _⟩ := h; cases e
    · obtain ⟨_, _, e, _⟩ := h; cases e
    · obtain ⟨_, e, _⟩ := h; cases e
    · obtain ⟨e, _⟩ := h; cases e
theorem dop_isN : DOp X Ts (compareOp .Is) gIsN := by
  refine ⟨_, op_isN, fun W σ H A O ρ Xf Qd Q d e v w hd he m c q => ?_⟩
  unfold gIsN at q
  split at q
  · rw [hd.non, he.non]; exact ⟨rfl, c.flat m q Rp.bl⟩
  · rename_i n
    refine ⟨he.non, ?_⟩
    rw [decide_eq_false (hd.nn fun z => n z)]
    exact c.flat m q Rp.bl
  · exact q.elim
theorem dop_notN : DOp X Ts (compareOp .IsNot) gNotN := by
  refine ⟨_, op_notN, fun W σ H A O ρ Xf Qd Q d e v w hd he m c q => ?_⟩
  unfold gNotN at q
  split at q
  · rw [hd.non, he.non]; exact ⟨rfl, c.flat m q Rp.bl⟩
  · rename_i n
    refine ⟨he.non, ?_⟩
    rw [decide_eq_false (hd.nn fun z => n z)]
    exact c.flat m q Rp.bl
  · exact q.elim
def flD : D → Bool
  | .non => true
  | .bl _ => true
  | .int _ => true
  | .str _ => true
  | _ => false
def vD : D → V
  | .non => .non
  | .bl b => .bl b
  | .int i => .int i
  | .str s => .str s
  | _ => .non
theorem Wk.vD {K : PySem.W.Frag} {H : Hp} {A : AP} {d : D} {v : V} (h : Wk K H A d v) (f : flD d = true) : v = vD d ∧ flatV v = true := by
  cases d with
  | non => rw [h.non]; exact ⟨rfl, rfl⟩
  | bl => rw [h.bl]; exact ⟨rfl, rfl⟩
  | int => rw [h.int]; exact ⟨rfl, rfl⟩
  | str => rw [h.str]; exact ⟨rfl, rfl⟩
  | _ => cases f
theorem RpL.vDs {K : PySem.W.Frag} {H : Hp} {A : AP} : ∀ {ds : List D} {vs : List V}, RpL K H A ds vs → ds.all flD = true → vs = ds.map vD ∧ vs.all flatV = true
  | [], vs, h, _ => by rw [h.unnil]; exact ⟨rfl, rfl⟩
  | d :: r, vs, h, f => by
    obtain ⟨v, t, rfl, h1, h2⟩ := h.uncons
    rw [List.all_cons, Bool.and_eq_true] at f
    obtain ⟨e1, e2⟩ := (Wk.of h1).vD f.1
    obtain ⟨e3, e4⟩ := RpL.vDs h2 f.2
    rw [e1, e3]
    refine ⟨rfl, ?_⟩
    rw [List.all_cons, ← e1, e2, ← e3, e4]
    rfl
/-- is it one of these -/
def hasD (x : D) (ds : List D) : Bool := inV (vD x) (ds.map vD)
theorem has_strs (x : Str) (ss : List Str) : hasD (.str x) (ss.map .str) = ss.contains x := by
  unfold hasD inV
  rw [List.map_map, List.any_map, Bool.eq_iff_iff, List.any_eq_true]
  constructor
  · rintro ⟨y, hy, e⟩
    have e : (y == x) = true := e
    rw [← beq_iff_eq.mp e]
    simpa using hy
  · intro h
    exact ⟨x, by simpa using h, by show (x == x) = true; simp⟩
def gInB (x y : D) (Q : Bool → Prop) : Prop := match y with
  | .lst ds => flD x = true ∧ ds.all flD = true ∧ Q (hasD x ds)
  | .tup ds => flD x = true ∧ ds.all flD = true ∧ Q (hasD x ds)
  | _ => False
def gIn (d e : D) (Q : D → Kd → Prop) : Prop := gInB d e fun b => Q (.bl b) .sh
def gNin (d e : D) (Q : D → Kd → Prop) : Prop := gInB d e fun b => Q (.bl (!b)) .sh
theorem in_ok {neg : Bool} {W : WX} {σ : L2.St} {H : Hp} {A O : AP} {ρ : List Sl} {Xf : XF} {Qd : D → Kd → List Sl → Prop} {Q : VK} {d e : D} {v w : V} (hd : Wk X.K H A d v) (he : Wk X.K H A e w) (m : Mt X.K Ts H A O ρ σ) (c : Cn X.K Ts W σ H A O Xf Qd Q)
    (q : gInB d e fun b => Qd (.bl (if neg then !b else b)) .sh ρ) : rIn X.K neg v w H Q := by
  unfold gInB at q
  split at q
  · obtain ⟨f1, f2, q⟩ := q
    obtain ⟨a, vs, rfl, h1, h2⟩ := he.lst
    obtain ⟨e1, e2⟩ := hd.vD f1
    obtain ⟨e3, e4⟩ := h2.vDs f2
    refine ⟨a, vs, rfl, .inl (SqL.of h1), e2, e4, ?_⟩
    have := c.flat m q Rp.bl
    unfold hasD at this
    rw [← e1, ← e3] at this
    cases neg <;> exact this
  · obtain ⟨f1, f2, q⟩ := q
    obtain ⟨a, vs, rfl, h1, h2⟩ := he.tup
    obtain ⟨e1, e2⟩ := hd.vD f1
    obtain ⟨e3, e4⟩ := h2.vDs f2
    refine ⟨a, vs, rfl, .inr h1, e2, e4, ?_⟩
    have := c.flat m q Rp.bl
    unfold hasD at this
    rw [← e1, ← e3] at this
    cases neg <;> exact this
  · exact q.elim
theorem dop_in : DOp X Ts (compareOp .In) gIn := ⟨_, op_in_seq, fun W σ H A O ρ Xf Qd Q d e v w hd he m c q => in_ok hd he m c q⟩
theorem dop_nin : DOp X Ts (compareOp .NotIn) gNin := ⟨_, op_notIn_seq, fun W σ H A O ρ Xf Qd Q d e v w hd he m c q => in_ok (neg := true) hd he m c q⟩
/-! ### indexes, slices -/
def gIx : D → D → (D → Kd → Prop) → Prop
  | .lst ds, .int i, Q => oK (atI ds i) fun d => Q d .sh
  | .tup ds, .int i, Q => oK (atI ds i) fun d => Q d .sh
  | .str z, .int i, Q => z.length ≤ sizeLine ∧ oK (atI z.cps.toList i) fun c => Q (.str ⟨#[c]⟩) .sh
  | _, _, _ => False
theorem RpL.atI {K : PySem.W.Frag} {A : AP} {H : Hp} {ds : List D} {vs : List V} {i : Int} {d : D} (h : RpL K H A ds vs) (e : L2.atI ds i = some d) : ∃ v, L2.atI vs i = some v ∧ Rp K H A d v := by
  unfold L2.atI at e ⊢
  rw [h.len] at e
  cases q : ixN vs.length i with
  | none => rw [q] at e; cases e
  | some j =>
    rw [q] at e
    exact h.get' (i := j) e
theorem de_ix {W : WX} {a b : Expr} {ta tb : DE} {pos : Pos} (ha : PE X a (upE X.K Ts W ta)) (hb : PE X b (upE X.K Ts W tb)) (hs : PlainIx b) : PE X (.Subscript a b pos) (upE X.K Ts W (dBin gIx ta tb)) := by
  refine (pe_ix (IxR.or (IxR.or ix_list ix_tup) ix_str) ha hb hs).imp fun σ H Q h => up_bin (fun W σ H A O ρ Xf Qd Q d e v w hd he m c q => ?_) h
  unfold gIx at q
  split at q
  · obtain ⟨x, e1, q⟩ := q.get
    obtain ⟨a, vs, rfl, h1, h2⟩ := hd.lst
    obtain ⟨y, e2, r⟩ := h2.atI e1
    exact .inl (.inl ⟨a, vs, _, y, rfl, he.int, SqL.of h1, e2, c.flat m q r⟩)
  · obtain ⟨x, e1, q⟩ := q.get
    obtain ⟨a, vs, rfl, h1, h2⟩ := hd.tup
    obtain ⟨y, e2, r⟩ := h2.atI e1
    exact .inl (.inr ⟨a, vs, _, y, rfl, he.int, h1, e2, c.flat m q r⟩)
  · obtain ⟨h1, q⟩ := q
    obtain ⟨x, e1, q⟩ := q.get
    exact .inr ⟨_, _, x, hd.str, he.int, h1, e1, c.flat m q Rp.str⟩
  · exact q.elim
def cutD (xs : List D) (lo hi : Option Int) : List D := (xs.drop (HT.sIx xs.length 0 lo)).take (HT.sIx xs.length xs.length hi - HT.sIx xs.length 0 lo)
theorem RpL.cut {K : PySem.W.Frag} {A : AP} {H : Hp} {ds : List D} {vs : List V} (h : RpL K H A ds vs) (lo hi : Option Int) : RpL K H A (cutD ds lo hi) (cutV vs lo hi) := by
  unfold cutD cutV
  rw [h.len]
  exact (h.drop _).take _
/-- the bounds of a slice -/
abbrev DO := XF → List Sl → (Option Int → List Sl → Prop) → Prop
def dNoPart : DO := fun _ ρ Q => Q none ρ
def dPart (t : DE) : DO := fun X ρ Q => t X ρ fun d _ ρ1 => match d with
  | .int i => Q (some i) ρ1
  | _ => False
structure CnO (K : PySem.W.Frag) (Ts : AP) (W : WX) (σ : L2.St) (H : Hp) (A O : AP) (X : XF) (Qd : Option Int → List Sl → Prop) (Q : Option Int → Hp → Prop) : Prop where
  q : ∀ b ρ' H' A' O', Qd b ρ' → Sm H H' → Tr A O H A' O' H' → Mt K Ts H' A' O' ρ' σ → Q b H'
  x : ∀ x ρ' cls od H' A' O', X x ρ' → Tr A O H A' O' H' → Mt K Ts H' A' O' ρ' σ → XR K H' A' x cls od → W cls od σ H'
def upO (K : PySem.W.Frag) (Ts : AP) (W : WX) (t : DO) : TO := fun σ H Q => ∃ A O ρ X Qd, Mt K Ts H A O ρ σ ∧ t X ρ Qd ∧ CnO K Ts W σ H A O X Qd Q
theorem _root_.L2.PO.imp {X : Cx} {e : Option Expr} {t t' : TO} (h : PO X e t) (i : ∀ σ H Q, t' σ H Q → t σ H Q) : PO X e t' := ⟨fun pins s σ H Q I q => h.run pins s σ H Q I (i σ H Q q)⟩
theorem do_none {W : WX} : PO X none (upO X.K Ts W dNoPart) := po_none.imp fun σ H Q ⟨A, O, ρ, Xf, Qd, m, h, c⟩ => c.q none ρ H A O h Sm.refl Tr.refl m
theorem do_some {W : WX} {e : Expr} {te : DE} (he : PE X e (upE X.K Ts W te)) : PO X (some e) (upO X.K Ts W (dPart te)) := by
  refine (po_some he).imp fun σ H Q h => ?_
  obtain ⟨A, O, ρ, Xf, Qd, m, h, c⟩ := h
  refine ⟨A, O, ρ, Xf, _, m, h, fun d κ ρ1 v H1 A1 O1 h1 s1 t1 m1 r1 => ?_, c.x⟩
  split at h1
  · exact ⟨_, r1.wk.int, c.q _ ρ1 H1 A1 O1 h1 s1 t1 m1⟩
  · exact h1.elim
def dSl (te : DE) (tl th : DO) : DE := fun X ρ Q => te X ρ fun d _ ρ1 => tl X ρ1 fun lo ρ2 => th X ρ2 fun hi ρ3 => match d with
  | .lst ds => Q (.lst (cutD ds lo hi)) .fr ρ3
  | .scr ns => Q (.lst (cutD (ns.map .int) lo hi)) .fr ρ3
  | .tup ds => Q (.tup (cutD ds lo hi)) .sh ρ3
  | .str z => z.length ≤ sizeLine ∧ Q (.str (cutS z lo hi)) .sh ρ3
  | _ => False
theorem de_slice {W : WX} {e : Expr} {te : DE} {lo hi : Option Expr} {tl th : DO} {pos p2 : Pos} (he : PE X e (upE X.K Ts W te)) (hl : PO X lo (upO X.K Ts W tl)) (hu : PO X hi (upO X.K Ts W th)) : PE X (.Subscript e (.Slice lo hi none p2) pos) (upE X.K Ts W (dSl te tl th)) := by
  refine (pe_slice (SlR.or (SlR.or sl_list sl_tupA) sl_str) he hl hu).imp fun σ H Q h => ?_
  obtain ⟨A, O, ρ, Xf, Qd, m, h, c⟩ := h
  refine ⟨A, O, ρ, Xf, _, m, h, fun d κ ρ1 v H1 A1 O1 h1 s1 t1 m1 r1 => ?_, c.x⟩
  have c1 := c.move s1 t1 m
  refine ⟨A1, O1, ρ1, Xf, _, m1, h1, fun lo ρ2 H2 A2 O2 h2 s2 t2 m2 => ?_, c1.x⟩
  have c2 := c1.move s2 t2 m1
  have w2 := r1.wk.tr s2 t2 m1.sub
  refine ⟨A2, O2, ρ2, Xf, _, m2, h2, fun hi ρ3 H3 A3 O3 h3 s3 t3 m3 => ?_, c2.x⟩
  have c3 := c2.move s3 t3 m2
  have w3 := w2.tr s3 t3 m2.sub
  split at h3
  · obtain ⟨a, vs, rfl, g1, g2⟩ := w3.lst
    exact .inl (.inl ⟨a, vs, rfl, SqL.of g1, fun p hp => c3.fr m3 hp h3 (g2.cut lo hi)⟩)
  · obtain ⟨a, rfl, g1⟩ := w3.scr
    exact .inl (.inl ⟨a, _, rfl, g1.sq, fun p hp => c3.fr m3 hp h3 (RpL.ints.cut lo hi)⟩)
  · obtain ⟨a, vs, rfl, g1, g2⟩ := w3.tup
    refine .inl (.inr ⟨a, vs, rfl, g1, fun z => ?_, fun _ p hp => c3.sh m3 (Sm.new hp) h3 (Rp.tup (SqT.of upd_same) ((g2.cut lo hi).sm (Sm.new hp)))⟩)
    refine c3.flat m3 h3 (Rp.tup g1 ?_)
    have := g2.cut lo hi
    have e : cutV vs lo hi = vs := by
      unfold cutV
      rw [z.1, z.2, List.drop_zero, Nat.sub_zero, List.take_length]
    rw [e] at this
    exact this
  · exact .inr ⟨_, w3.str, h3.1, c3.flat m3 h3.2 Rp.str⟩
  · exact h3.elim
end
end DL

-- part DL4
set_option Elab.async false
set_option linter.all false
set_option maxRecDepth 100000
set_option maxHeartbeats 2000000
/-! arguments, calls of built-ins, displays, append, for, comprehensions, all and any -/
namespace DL
open PySem PySem.Spec PyProof.Rows L2 GxR GS GA GD
/-! ### arguments: kept (strong), looked at (weak) -/
def WkL (K : PySem.W.Frag) (H : Hp) (A : AP) : List D → List V → Prop
  | [], vs => vs = []
  | d :: r, vs => ∃ v t, vs = v :: t ∧ Wk K H A d v ∧ WkL K H A r t
structure CnW (K : PySem.W.Frag) (Ts : AP) (W : WX) (σ : L2.St) (H : Hp) (A O : AP) (X : XF) (Qd : List D → List Sl → Prop) (Q : List V → Hp → Prop) : Prop where
  q : ∀ ds ρ' vs H' A' O', Qd ds ρ' → Sm H H' → Tr A O H A' O' H' → Mt K Ts H' A' O' ρ' σ → WkL K H' A' ds vs → Q vs H'
  x : ∀ x ρ' cls od H' A' O', X x ρ' → Tr A O H A' O' H' → Mt K Ts H' A' O' ρ' σ → XR K H' A' x cls od → W cls od σ H'
def upW (K : PySem.W.Frag) (Ts : AP) (W : WX) (t : DA) : TA := fun σ H Q => ∃ A O ρ X Qd, Mt K Ts H A O ρ σ ∧ t X ρ Qd ∧ CnW K Ts W σ H A O X Qd Q
def dNil : DA := fun _ ρ Q => Q [] ρ
def dCons (te : DE) (ta : DA) : DA := fun X ρ Q => te X ρ fun d κ ρ1 => κ ≠ .bo ∧ ta X ρ1 fun ds ρ2 => Q (d :: ds) ρ2
def dConsW (te : DE) (ta : DA) : DA := fun X ρ Q => te X ρ fun d _ ρ1 => ta X ρ1 fun ds ρ2 => Q (d :: ds) ρ2
/-- the items of a list or tuple -/
def itsD : D → Option (List D)
  | .lst ds => some ds
  | .tup ds => some ds
  | _ => none
def dStar (te : DE) (ta : DA) : DA := fun X ρ Q => te X ρ fun d _ ρ1 => oK (itsD d) fun xs => ta X ρ1 fun ds ρ2 => Q (xs ++ ds) ρ2
section
variable {X : Cx} {Ts : AP} {W : WX} {e : Expr} {es : List Expr} {te : DE} {ta : DA} {pos : Pos}
theorem da_nil : PA X [] (upA X.K Ts W dNil) := pa_nil.imp fun σ H Q ⟨A, O, ρ, Xf, Qd, m, h, c⟩ => c.q [] ρ [] H A O h Sm.refl Tr.refl m RpL.nil
theorem dw_nil : PA X [] (upW X.K Ts W dNil) := pa_nil.imp fun σ H Q ⟨A, O, ρ, Xf, Qd, m, h, c⟩ => c.q [] ρ [] H A O h Sm.refl Tr.refl m (by unfold WkL; rfl)
theorem da_cons (he : PE X e (upE X.K Ts W te)) (ha : PA X es (upA X.K Ts W ta)) (hs : starEach (e :: es) X.env = (false, eval e X.env) :: starEach es X.env := by rfl) : PA X (e :: es) (upA X.K Ts W (dCons te ta)) := by
  refine (pa_cons he ha hs).imp fun σ H Q h => ?_
  obtain ⟨A, O, ρ, Xf, Qd, m, h, c⟩ := h
  refine ⟨A, O, ρ, Xf, _, m, h, fun d κ ρ1 v H1 A1 O1 h1 s1 t1 m1 r1 => ?_, c.x⟩
  have c1 := c.move s1 t1 m
  refine ⟨A1, O1, ρ1, Xf, _, m1, h1.2, fun ds ρ2 vs H2 A2 O2 h2 s2 t2 m2 r2 => ?_, c1.x⟩
  exact c1.q _ ρ2 _ H2 A2 O2 h2 s2 t2 m2 (RpL.cons ((r1.rp h1.1).tr t2 m1.sub) r2)
theorem da_consW (he : PE X e (upE X.K Ts W te)) (ha : PA X es (upW X.K Ts W ta)) (hs : starEach (e :: es) X.env = (false, eval e X.env) :: starEach es X.env := by rfl) : PA X (e :: es) (upW X.K Ts W (dConsW te ta)) := by
  refine (pa_cons he ha hs).imp fun σ H Q h => ?_
  obtain ⟨A, O, ρ, Xf, Qd, m, h, c⟩ := h
  refine ⟨A, O, ρ, Xf, _, m, h, fun d κ ρ1 v H1 A1 O1 h1 s1 t1 m1 r1 => ?_, c.x⟩
  refine ⟨A1, O1, ρ1, Xf, _, m1, h1, fun ds ρ2 vs H2 A2 O2 h2 s2 t2 m2 r2 => ?_, fun x ρ' cls od H' A' O' z t' => c.x x ρ' cls od H' A' O' z (t1.trans t' m.trk)⟩
  refine c.q _ ρ2 _ H2 A2 O2 h2 (s1.trans s2) (t1.trans t2 m.trk) m2 ?_
  unfold WkL
  exact ⟨v, vs, rfl, r1.wk.tr s2 t2 m1.sub, r2⟩
theorem da_star {p : Pos} (he : PE X e (upE X.K Ts W te)) (ha : PA X es (upA X.K Ts W ta)) (hs : starEach (.Starred e p :: es) X.env = (true, eval e X.env) :: starEach es X.env := by rfl) : PA X (.Starred e p :: es) (upA X.K Ts W (dStar te ta)) := by
  refine (StX.pa_star he ha hs).imp fun σ H Q h => ?_
  obtain ⟨A, O, ρ, Xf, Qd, m, h, c⟩ := h
  refine ⟨A, O, ρ, Xf, _, m, h, fun d κ ρ1 v H1 A1 O1 h1 s1 t1 m1 r1 => ?_, c.x⟩
  have c1 := c.move s1 t1 m
  obtain ⟨xs, ex, h1⟩ := h1.get
  have w := r1.wk
  have fin : ∀ vs, RpL X.K H1 A1 xs vs → upA X.K Ts W ta σ H1 fun ys H2 => Q (vs ++ ys) H2 := fun vs rx => by
    refine ⟨A1, O1, ρ1, Xf, _, m1, h1, fun ds ρ2 ws H2 A2 O2 h2 s2 t2 m2 r2 => ?_, c1.x⟩
    exact c1.q _ ρ2 _ H2 A2 O2 h2 s2 t2 m2 ((rx.tr t2 m1.sub).app r2)
  unfold itsD at ex
  split at ex
  · cases ex
    obtain ⟨a, vs, rfl, g1, g2⟩ := w.lst
    exact ⟨a, vs, rfl, .inr (SqL.of g1), fin vs g2⟩
  · cases ex
    obtain ⟨a, vs, rfl, g1, g2⟩ := w.tup
    exact ⟨a, vs, rfl, .inl g1, fin vs g2⟩
  · cases ex
/-! ### displays -/
def dLst (ta : DA) : DE := fun X ρ Q => ta X ρ fun ds ρ1 => ds.length ≤ sizeLine ∧ Q (.lst ds) .fr ρ1
def dTup (ta : DA) : DE := fun X ρ Q => ta X ρ fun ds ρ1 => ds.length ≤ sizeLine ∧ Q (.tup ds) .sh ρ1
theorem de_lst (ha : PA X es (upA X.K Ts W ta)) : PE X (.List es pos) (upE X.K Ts W (dLst ta)) := by
  refine (pe_lst ha).imp fun σ H Q h => ?_
  obtain ⟨A, O, ρ, Xf, Qd, m, h, c⟩ := h
  refine ⟨A, O, ρ, Xf, _, m, h, fun ds ρ1 vs H1 A1 O1 h1 s1 t1 m1 r1 => ?_, c.x⟩
  exact ⟨by rw [← r1.len]; exact h1.1, fun p hp => (c.move s1 t1 m).fr m1 hp h1.2 r1⟩
theorem de_tup {x1} (ha : PA X es (upA X.K Ts W ta)) : PE X (.Tuple es x1 pos) (upE X.K Ts W (dTup ta)) := by
  refine (pe_tup ha).imp fun σ H Q h => ?_
  obtain ⟨A, O, ρ, Xf, Qd, m, h, c⟩ := h
  refine ⟨A, O, ρ, Xf, _, m, h, fun ds ρ1 vs H1 A1 O1 h1 s1 t1 m1 r1 => ?_, c.x⟩
  exact ⟨by rw [← r1.len]; exact h1.1, fun p hp => (c.move s1 t1 m).sh m1 (Sm.new hp) h1.2 (Rp.tup (SqT.of upd_same) (r1.sm (Sm.new hp)))⟩
/-! ### built-ins called -/
def DCl (X : Cx) (Ts : AP) (f : Value) (g : List D → (D → Kd → Prop) → Prop) : Prop := ∃ r : List V → Hp → VK → Prop, CallR X f r ∧
  ∀ (W : WX) (σ : L2.St) (H : Hp) (A O : AP) (ρ : List Sl) (Xf : XF) (Qd : D → Kd → List Sl → Prop) (Q : VK) (ds : List D) (vs : List V), WkL X.K H A ds vs → Mt X.K Ts H A O ρ σ → Cn X.K Ts W σ H A O Xf Qd Q → g ds (fun z κ => Qd z κ ρ) → r vs H Q
def dBlt (g : List D → (D → Kd → Prop) → Prop) (ta : DA) : DE := fun X ρ Q => ta X ρ fun ds ρ1 => g ds fun z κ => Q z κ ρ1
theorem up_blt {g : List D → (D → Kd → Prop) → Prop} {r : List V → Hp → VK → Prop} (ho : ∀ (W : WX) (σ : L2.St) (H : Hp) (A O : AP) (ρ : List Sl) (Xf : XF) (Qd : D → Kd → List Sl → Prop) (Q : VK) (ds : List D) (vs : List V), WkL X.K H A ds vs → Mt X.K Ts H A O ρ σ → Cn X.K Ts W σ H A O Xf Qd Q → g ds (fun z κ => Qd z κ ρ) → r vs H Q)
    {σ : L2.St} {H : Hp} {Q : VK} (h : upE X.K Ts W (dBlt g ta) σ H Q) : tCB r (upW X.K Ts W ta) σ H Q := by
  obtain ⟨A, O, ρ, Xf, Qd, m, h, c⟩ := h
  exact ⟨A, O, ρ, Xf, _, m, h, fun ds ρ1 vs H1 A1 O1 h1 s1 t1 m1 r1 => ho W σ H1 A1 O1 ρ1 Xf Qd Q ds vs r1 m1 (c.move s1 t1 m) h1, c.x⟩
theorem de_callB {x : Str} {id : String} {p : Pos} {g : List D → (D → Kd → Prop) → Prop} (hc : DCl X Ts (.builtin id) g) (hg : Gl X x) (hm : X.mg x = none) (hv : bootBuiltins x = some (.builtin id)) (ha : PA X (e :: es) (upW X.K Ts W ta)) (hn : x ≠ "__name__" := by decide) (hdb : (x == ("__debug__" : Str)) = false := by decide)
    (hs : starEach (e :: es) X.env = (false, eval e X.env) :: starEach es X.env := by rfl) (hb : (backTo pos (starEach es X.env)).any (·.1) = false := by rfl) : PE X (.Call (.Name x p) (e :: es) [] pos) (upE X.K Ts W (dBlt g ta)) := by
  obtain ⟨r, h1, h2⟩ := hc
  exact (pe_callB h1 hg hm hv ha hn hdb hs hb).imp fun σ H Q h => up_blt h2 h
theorem de_callTy {x : Str} {T : String} {p : Pos} {g : List D → (D → Kd → Prop) → Prop} (hc : DCl X Ts (.type T) g) (hg : Gl X x) (hm : X.mg x = none) (hv : bootBuiltins x = some (.type T)) (ha : PA X (e :: es) (upW X.K Ts W ta)) (hn : x ≠ "__name__" := by decide) (hdb : (x == ("__debug__" : Str)) = false := by decide)
    (hs : starEach (e :: es) X.env = (false, eval e X.env) :: starEach es X.env := by rfl) (hb : (backTo pos (starEach es X.env)).any (·.1) = false := by rfl) : PE X (.Call (.Name x p) (e :: es) [] pos) (upE X.K Ts W (dBlt g ta)) := by
  obtain ⟨r, h1, h2⟩ := hc
  exact (pe_callTy h1 hg hm hv ha hn hdb hs hb).imp fun σ H Q h => up_blt h2 h
theorem WkL.one {K : PySem.W.Frag} {H : Hp} {A : AP} {d : D} {vs : List V} (h : WkL K H A [d] vs) : ∃ v, vs = [v] ∧ Wk K H A d v := by
  simp only [WkL] at h
  obtain ⟨v, t, rfl, h1, rfl⟩ := h
  exact ⟨v, rfl, h1⟩
theorem WkL.two {K : PySem.W.Frag} {H : Hp} {A : AP} {d e : D} {vs : List V} (h : WkL K H A [d, e] vs) : ∃ v w, vs = [v, w] ∧ Wk K H A d v ∧ Wk K H A e w := by
  simp only [WkL] at h
  obtain ⟨v, t, rfl, h1, w, t2, rfl, h2, rfl⟩ := h
  exact ⟨v, w, rfl, h1, h2⟩
def gLen : List D → (D → Kd → Prop) → Prop
  | [.lst ds], Q => Q (.int ds.length) .sh
  | [.tup ds], Q => Q (.int ds.length) .sh
  | [.scr ds], Q => Q (.int ds.length) .sh
  | [.str z], Q => z.length ≤ sizeLine ∧ Q (.int (z.length : Nat)) .sh
  | _, _ => False
theorem dcl_len : DCl X Ts (.builtin "len") gLen := by
  refine ⟨_, call_len, fun W σ H A O ρ Xf Qd Q ds vs hd m c q => ?_⟩
  unfold gLen at q
  split at q
  · obtain ⟨v, rfl, w⟩ := hd.one
    obtain ⟨a, ws, rfl, h1, h2⟩ := w.lst
    exact ⟨_, ws.length, rfl, .inl ⟨ws, SqL.of h1, rfl⟩, by rw [← h2.len]; exact c.flat m q Rp.int⟩
  · obtain ⟨v, rfl, w⟩ := hd.one
    obtain ⟨a, ws, rfl, h1, h2⟩ := w.tup
    exact ⟨_, ws.length, rfl, .inr ⟨ws, h1, rfl⟩, by rw [← h2.len]; exact c.flat m q Rp.int⟩
  · obtain ⟨v, rfl, w⟩ := hd.one
    obtain ⟨a, rfl, h1⟩ := w.scr
    exact ⟨_, _, rfl, .inl ⟨_, h1.sq, rfl⟩, by rw [List.length_map]; exact c.flat m q Rp.int⟩
  · obtain ⟨v, rfl, w⟩ := hd.one
    rw [w.str]
    exact ⟨_, _, rfl, ⟨q.1, rfl⟩, c.flat m q.2 Rp.int⟩
  · exact q.elim
def gInt : List D → (D → Kd → Prop) → Prop
  | [.int i], Q => Q (.int i) .sh
  | [.bl k], Q => Q (.int (if k then 1 else 0)) .sh
  | _, _ => False
theorem dcl_int : DCl X Ts (.type "int") gInt := by
  refine ⟨_, call_int1, fun W σ H A O ρ Xf Qd Q ds vs hd m c q => ?_⟩
  unfold gInt at q
  split at q
  · obtain ⟨v, rfl, w⟩ := hd.one
    rw [w.int]; exact .inl ⟨_, rfl, c.flat m q Rp.int⟩
  · obtain ⟨v, rfl, w⟩ := hd.one
    rw [w.bl]; exact .inr ⟨_, rfl, c.flat m q Rp.int⟩
  · exact q.elim
def gAbs : List D → (D → Kd → Prop) → Prop
  | [.int i], Q => Q (.int (if i < 0 then -i else i)) .sh
  | _, _ => False
theorem dcl_abs : DCl X Ts (.builtin "abs") gAbs := by
  refine ⟨_, call_abs, fun W σ H A O ρ Xf Qd Q ds vs hd m c q => ?_⟩
  unfold gAbs at q
  split at q
  · obtain ⟨v, rfl, w⟩ := hd.one
    rw [w.int]; exact ⟨_, rfl, c.flat m q Rp.int⟩
  · exact q.elim
def gMax : List D → (D → Kd → Prop) → Prop
  | [.int i, .int j], Q => Q (.int (if j > i then j else i)) .sh
  | _, _ => False
def gMin : List D → (D → Kd → Prop) → Prop
  | [.int i, .int j], Q => Q (.int (if j < i then j else i)) .sh
  | _, _ => False
theorem dcl_max (hc : X.calm = true) : DCl X Ts (.builtin "max") gMax := by
  refine ⟨_, call_max2 hc, fun W σ H A O ρ Xf Qd Q ds vs hd m c q => ?_⟩
  unfold gMax at q
  split at q
  · obtain ⟨v, w, rfl, h1, h2⟩ := hd.two
    rw [h1.int, h2.int]; exact ⟨_, _, rfl, c.flat m q Rp.int⟩
  · exact q.elim
theorem dcl_min (hc : X.calm = true) : DCl X Ts (.builtin "min") gMin := by
  refine ⟨_, call_min2 hc, fun W σ H A O ρ Xf Qd Q ds vs hd m c q => ?_⟩
  unfold gMin at q
  split at q
  · obtain ⟨v, w, rfl, h1, h2⟩ := hd.two
    rw [h1.int, h2.int]; exact ⟨_, _, rfl, c.flat m q Rp.int⟩
  · exact q.elim
def gTuple : List D → (D → Kd → Prop) → Prop
  | [.lst ds], Q => Q (.tup ds) .sh
  | [.tup ds], Q => Q (.tup ds) .sh
  | _, _ => False
def gList : List D → (D → Kd → Prop) → Prop
  | [.lst ds], Q => Q (.lst ds) .fr
  | [.tup ds], Q => Q (.lst ds) .fr
  | _, _ => False
theorem dcl_tuple : DCl X Ts (.type "tuple") gTuple := by
  refine ⟨_, call_tuple_of, fun W σ H A O ρ Xf Qd Q ds vs hd m c q => ?_⟩
  unfold gTuple at q
  split at q
  · obtain ⟨v, rfl, w⟩ := hd.one
    obtain ⟨a, ws, rfl, h1, h2⟩ := w.lst
    exact ⟨a, ws, rfl, .inl ⟨SqL.of h1, fun p hp => c.sh m (Sm.new hp) q (Rp.tup (SqT.of upd_same) (h2.sm (Sm.new hp)))⟩⟩
  · obtain ⟨v, rfl, w⟩ := hd.one
    obtain ⟨a, ws, rfl, h1, h2⟩ := w.tup
    exact ⟨a, ws, rfl, .inr ⟨h1, c.flat m q (Rp.tup h1 h2)⟩⟩
  · exact q.elim
theorem dcl_list : DCl X Ts (.type "list") gList := by
  refine ⟨_, call_list_of, fun W σ H A O ρ Xf Qd Q ds vs hd m c q => ?_⟩
  unfold gList at q
  split at q
  · obtain ⟨v, rfl, w⟩ := hd.one
    obtain ⟨a, ws, rfl, h1, h2⟩ := w.lst
    exact ⟨a, ws, rfl, .inl (SqL.of h1), fun p hp => c.fr m hp q h2⟩
  · obtain ⟨v, rfl, w⟩ := hd.one
    obtain ⟨a, ws, rfl, h1, h2⟩ := w.tup
    exact ⟨a, ws, rfl, .inr h1, fun p hp => c.fr m hp q h2⟩
  · exact q.elim
/-! ### x.append(e), x a list of one's own -/
def owAt (ρ : List Sl) (i : Nat) (Q : List D → Prop) : Prop := match ρ[i]? with
  | some (.ow ds) => Q ds
  | _ => False
theorem owAt.get {ρ : List Sl} {i : Nat} {Q : List D → Prop} (h : owAt ρ i Q) : ∃ ds, ρ[i]? = some (.ow ds) ∧ Q ds := by
  unfold owAt at h
  split at h
  · exact ⟨_, by assumption, h⟩
  · exact h.elim
def dApp (i : Nat) (te : DE) : DS := fun X N ρ => owAt ρ i fun _ => te X ρ fun d κ ρ1 => κ ≠ .bo ∧ owAt ρ1 i fun ds => ds.length < sizeLine ∧ N.nx (ρ1.set i (.ow (ds ++ [d])))
theorem ds_append {i : Nat} {x : Str} {p apos cpos pos' : Pos} (hN : X.N[i]? = some x) (hv : Vis X.env.scope x) (he : PE X e (upE X.K Ts W te)) (hd : (x == ("__debug__" : Str)) = false := by decide) (hcd : (x == ("__classdict__" : Str)) = false := by decide)
    (hbase : attributeBase (.Name x p) "append" X.env (eval (.Name x p) X.env) = eval (.Name x p) X.env := by rfl)
    (hfew : ((backTo cpos (starEach [e] X.env)).all (fun x => !x.1) && (backToKw cpos (keywordEach [] X.env)).all (fun x => x.1.isSome) && decide (([e] : List Expr).length + ([] : List Keyword).length + (if ([] : List Keyword).isEmpty then 0 else 1) < 30)) = true := by rfl)
    (hline : (apos.endLine == cpos.line) = true := by rfl) (hs : starEach [e] X.env = (false, eval e X.env) :: starEach [] X.env := by rfl) (hplain : (backTo cpos (starEach [] X.env)).any (·.1) = false := by rfl)
    (hsw : swapsWith (.Call (.Attribute (.Name x p) "append" apos) [e] [] cpos) none pos'.line X.env = pure false := by rfl) :
    PS X (.Expr (.Call (.Attribute (.Name x p) "append" apos) [e] [] cpos) pos') (upS X.K Ts W (dApp i te)) := by
  refine (ps_expr (pe_bm PySem.F.plainAttrs_list PySem.F.slot_list_append PySem.F.type_list_append mt_append (pe_var hN hv hd hcd) (pa_cons he pa_nil hs) hbase hfew hline hs hplain) hsw).imp fun E σ H h => ?_
  obtain ⟨A, O, ρ, Xf, N, m, h, c⟩ := h
  obtain ⟨ds0, e0, h⟩ := h.get
  obtain ⟨a, vs0, h1, h2, h3, h4⟩ := m.ow i ds0 e0
  refine ⟨_, h1, .inl ⟨rfl, vs0, SqL.of h3⟩, ?_⟩
  refine ⟨A, O, ρ, Xf, _, m, h, fun d κ ρ1 v H1 A1 O1 q s1 t1 m1 r1 => ?_, fun x ρ' cls od H' A' O' => c.x x ρ' cls od σ H' A' O'⟩
  obtain ⟨nb, q⟩ := q
  obtain ⟨ds, e1, q⟩ := q.get
  obtain ⟨b, vs, g1, g2, g3, g4⟩ := m1.ow i ds e1
  rw [h1] at g1
  cases g1
  refine ⟨a, vs, v, rfl, rfl, g3, by rw [← g4.len]; exact q.1, ?_⟩
  obtain ⟨m2, t2⟩ := m1.put (es := ds ++ [d]) (vs := vs ++ [v]) e1 h1 g3 g2 (g4.app (RpL.cons (r1.rp nb) RpL.nil))
  exact c.nx _ σ _ _ _ q.2 (t1.trans t2 m.trk) m2
end
/-! ### what is walked -/
structure Wlk (K : PySem.W.Frag) (H : Hp) (A O : AP) (lent : Bool) (J : It) (ds : List D) : Prop where
  ex : ∃ (G : Hp → Prop) (Y : Nat → Hp → V → Hp → Prop), Walk J ds.length G Y ∧ (∀ H1 A1 O1, Tr A O H A1 O1 H1 → (lent = true → Sm H H1) → G H1) ∧
    ∀ i H1 A1 O1 x H2, i < ds.length → Tr A O H A1 O1 H1 → (lent = true → Sm H H1) → Y i H1 x H2 → Sm H1 H2 ∧ ∃ d, ds[i]? = some d ∧ Rp K H2 A1 d x
abbrev DI := XF → List Sl → (List D → Bool → List Sl → Prop) → Prop
structure CnI (K : PySem.W.Frag) (Ts : AP) (W : WX) (σ : L2.St) (H : Hp) (A O : AP) (X : XF) (Qd : List D → Bool → List Sl → Prop) (R : It → Hp → Prop) : Prop where
  q : ∀ ds lent ρ' J H' A' O', Qd ds lent ρ' → Sm H H' → Tr A O H A' O' H' → Mt K Ts H' A' O' ρ' σ → Wlk K H' A' O' lent J ds → R J H'
  x : ∀ x ρ' cls od H' A' O', X x ρ' → Tr A O H A' O' H' → Mt K Ts H' A' O' ρ' σ → XR K H' A' x cls od → W cls od σ H'
def upI (K : PySem.W.Frag) (Ts : AP) (W : WX) (t : DI) : TI := fun σ H R => ∃ A O ρ X Qd, Mt K Ts H A O ρ σ ∧ t X ρ Qd ∧ CnI K Ts W σ H A O X Qd R
theorem _root_.L2.PI.imp {X : Cx} {tg e : Expr} {t t' : TI} (h : PI X tg e t) (i : ∀ σ H R, t' σ H R → t σ H R) : PI X tg e t' := ⟨fun pins s σ H R I q => h.run pins s σ H R I (i σ H R q)⟩
section
variable {X : Cx} {Ts : AP} {W : WX} {e tg : Expr} {es : List Expr} {te : DE} {ta : DA} {pos p : Pos}
/-- a list, a tuple, a text -/
def iAny (K : PySem.W.Frag) (tl : TE) : TI := fun σ H R => tl σ H fun x H1 => (∃ a, x = .ref a ∧ ((∃ xs, SqL K H1 a xs) ∧ R (Itl K a) H1 ∨ (∃ xs, SqT K H1 a xs) ∧ R (Itt K a) H1)) ∨ ∃ z, x = .str z ∧ R (Its z) H1
theorem pi_any {l : Expr} {tl : TE} (hl : PE X l tl) : PI X tg l (iAny X.K tl) := by
  refine ⟨fun pins s σ H R I h => ?_⟩
  refine thn (hl.run pins s σ H _ I h) fun v s1 ⟨x, H1, I1, r1, q⟩ => ?_
  rcases q with ⟨a, rfl, q⟩ | ⟨z, rfl, q⟩
  · obtain rfl : v = Value.ref a := r1
    rcases q with ⟨⟨xs, hq⟩, q⟩ | ⟨⟨xs, hq⟩, q⟩
    · obtain ⟨its, rv, p, hz⟩ := I1.list hq
      refine wpAny_pyIter_list p.isList ?_
      refine ⟨s1.heap.objs.size, [s1.heap.objs.size], _, _, H1, rfl, I1.kept (t' := s1.toks) fun b o e => Heap.get?_push_of_some _ e, turn_list a _, ⟨_, Heap.get?_push_size _ rfl, rfl, rfl⟩, fun b hb => ?_, q⟩
      rw [List.mem_singleton.mp hb]
      exact I1.fpOk (Nat.le_refl _) (I1.hok.fresh (Nat.le_refl _))
    · obtain ⟨its, rv, p, hz⟩ := I1.tuple hq
      refine wpAny_pyIter_tuple (show s1.heap.IsTuple a its.toArray from p) ?_
      refine ⟨s1.heap.objs.size, [s1.heap.objs.size], _, _, H1, rfl, I1.kept (t' := s1.toks) fun b o e => Heap.get?_push_of_some _ e, turn_tuple a _, ⟨_, Heap.get?_push_size _ rfl, rfl, rfl⟩, fun b hb => ?_, q⟩
      rw [List.mem_singleton.mp hb]
      exact I1.fpOk (Nat.le_refl _) (I1.hok.fresh (Nat.le_refl _))
  · obtain ⟨t, rfl⟩ := r1
    cases ha : z.cps.all (· < 128)
    · exact wpAny_pyIter_wide ha (pi_one (tk := s1.toks) I1 _ (turn_str _ z t "str_iterator" (.inr rfl)) ⟨_, Heap.get?_push_size _ rfl, rfl, rfl⟩ q)
    · exact wpAny_pyIter_ascii ha (pi_one (tk := s1.toks) I1 _ (turn_str _ z t "str_ascii_iterator" (.inl rfl)) ⟨_, Heap.get?_push_size _ rfl, rfl, rfl⟩ q)
theorem yat_len {xs : List V} {n : Nat} (e : xs.length = n) {J : It} {G : Hp → Prop} {Y : Nat → Hp → V → Hp → Prop} (w : Walk J xs.length G Y) : Walk J n G Y := by rw [← e]; exact w
theorem wlk_list {K : PySem.W.Frag} {H : Hp} {A O : AP} {lent : Bool} {a : Addr} {vs : List V} {ds : List D} (h : H a = some (.lst vs)) (r : RpL K H A ds vs) (hO : ∀ b, O b → A b) (hl : lent = true ∨ ¬ A a) : Wlk K H A O lent (Itl K a) ds := by
  refine ⟨_, _, yat_len r.len.symm walk_list, fun H1 A1 O1 t l => ?_, fun i H1 A1 O1 x H2 hi t l y => ?_⟩
  · rcases hl with hl | hl
    · exact SqL.of ((l hl).st a _ h fun _ z => by cases z)
    · exact SqL.of (t.kp.st a _ h (fun _ z => hl (hO a z)) fun _ z => by cases z)
  · obtain ⟨rfl, y⟩ := y
    obtain ⟨d, e, q⟩ := r.get y
    exact ⟨Sm.refl, d, e, q.tr t hO⟩
theorem wlk_tup {K : PySem.W.Frag} {H : Hp} {A O : AP} {lent : Bool} {a : Addr} {vs : List V} {ds : List D} (h : SqT K H a vs) (r : RpL K H A ds vs) (hO : ∀ b, O b → A b) : Wlk K H A O lent (Itt K a) ds := by
  refine ⟨_, _, yat_len r.len.symm walk_tup, fun H1 A1 O1 t l => ?_, fun i H1 A1 O1 x H2 hi t l y => ?_⟩
  · exact sqt_keep (fun u hu q => t.kp.st a u q (fun m => by rcases hu with rfl | ⟨x, rfl⟩ <;> exact m.elim) (by rintro ps rfl; rcases hu with z | ⟨_, z⟩ <;> cases z)) h
  · obtain ⟨rfl, y⟩ := y
    obtain ⟨d, e, q⟩ := r.get y
    exact ⟨Sm.refl, d, e, q.tr t hO⟩
theorem wlk_scr {K : PySem.W.Frag} {H : Hp} {A O : AP} {lent : Bool} {a : Addr} {ns : List Int} (h : ScrAt K H a (ns.map V.int)) (hO : ∀ b, O b → A b) : Wlk K H A O lent (Itl K a) (ns.map .int) := by
  have r : RpL K H A (ns.map D.int) (ns.map V.int) := RpL.ints
  refine ⟨_, _, yat_len r.len.symm walk_list, fun H1 A1 O1 t l => ?_, fun i H1 A1 O1 x H2 hi t l y => ?_⟩
  · exact ScrAt.sq (scr_keep (fun o u q => t.kp.st a _ q (fun m => m.elim) (fun ps z => by cases z)) h)
  · obtain ⟨rfl, y⟩ := y
    obtain ⟨d, e, q⟩ := r.get y
    exact ⟨Sm.refl, d, e, q.tr t hO⟩
def chD (z : Str) : List D := z.cps.toList.map fun c => .str ⟨#[c]⟩
theorem wlk_str {K : PySem.W.Frag} {H : Hp} {A O : AP} {lent : Bool} {z : Str} : Wlk K H A O lent (Its z) (chD z) := by
  have e : z.cps.size = (chD z).length := by unfold chD; rw [List.length_map, Array.length_toList]
  refine ⟨_, _, e ▸ walk_str, fun H1 A1 O1 t l => trivial, fun i H1 A1 O1 x H2 hi t l y => ?_⟩
  obtain ⟨rfl, c, hc, rfl⟩ := y
  refine ⟨Sm.refl, .str ⟨#[c]⟩, ?_, Rp.str⟩
  unfold chD
  rw [List.getElem?_map, Array.getElem?_toList, hc]
  rfl
/-- over a value; lent: it is a list of one's own -/
def diVal (te : DE) : DI := fun X ρ Q => te X ρ fun d κ ρ1 => match d with
  | .lst ds => Q ds (match κ with | .bo => true | _ => false) ρ1
  | .tup ds => Q ds false ρ1
  | .scr ns => Q (ns.map .int) false ρ1
  | .str z => Q (chD z) false ρ1
  | _ => False
theorem di_val (he : PE X e (upE X.K Ts W te)) : PI X tg e (upI X.K Ts W (diVal te)) := by
  refine (pi_any he).imp fun σ H R h => ?_
  obtain ⟨A, O, ρ, Xf, Qd, m, h, c⟩ := h
  refine ⟨A, O, ρ, Xf, _, m, h, fun d κ ρ1 v H1 A1 O1 h1 s1 t1 m1 r1 => ?_, c.x⟩
  split at h1
  · cases κ with
    | bo =>
      obtain ⟨a, vs, rfl, g1, g2⟩ := r1.wk.lst
      exact .inl ⟨a, rfl, .inl ⟨⟨vs, SqL.of g1⟩, c.q _ _ ρ1 _ H1 A1 O1 h1 s1 t1 m1 (wlk_list g1 g2 m1.sub (.inl rfl))⟩⟩
    | sh =>
      have r2 := r1.rp (by simp)
      unfold Rp at r2
      obtain ⟨a, vs, rfl, g1, g0, g2⟩ := r2
      exact .inl ⟨a, rfl, .inl ⟨⟨vs, SqL.of g1⟩, c.q _ _ ρ1 _ H1 A1 O1 h1 s1 t1 m1 (wlk_list g1 g2 m1.sub (.inr g0))⟩⟩
    | fr =>
      have r2 := r1.rp (by simp)
      unfold Rp at r2
      obtain ⟨a, vs, rfl, g1, g0, g2⟩ := r2
      exact .inl ⟨a, rfl, .inl ⟨⟨vs, SqL.of g1⟩, c.q _ _ ρ1 _ H1 A1 O1 h1 s1 t1 m1 (wlk_list g1 g2 m1.sub (.inr g0))⟩⟩
  · obtain ⟨a, vs, rfl, g1, g2⟩ := r1.wk.tup
    exact .inl ⟨a, rfl, .inr ⟨⟨vs, g1⟩, c.q _ _ ρ1 _ H1 A1 O1 h1 s1 t1 m1 (wlk_tup g1 g2 m1.sub)⟩⟩
  · obtain ⟨a, rfl, g1⟩ := r1.wk.scr
    exact .inl ⟨a, rfl, .inl ⟨⟨_, g1.sq⟩, c.q _ _ ρ1 _ H1 A1 O1 h1 s1 t1 m1 (wlk_scr g1 m1.sub)⟩⟩
  · exact .inr ⟨_, r1.wk.str, c.q _ _ ρ1 _ H1 A1 O1 h1 s1 t1 m1 wlk_str⟩
  · exact h1.elim
def rngD (n : Nat) : List D := (List.range n).map fun k : Nat => .int (k : Int)
theorem wlk_rng {K : PySem.W.Frag} {H : Hp} {A O : AP} {lent : Bool} {n : Nat} : Wlk K H A O lent (Itr 0 n) (rngD n) := by
  have e : n = (rngD n).length := by unfold rngD; rw [List.length_map, List.length_range]
  refine ⟨fun _ => True, YFn fun i => .int (0 + i), e ▸ walk_range, fun H1 A1 O1 t l => trivial, fun i H1 A1 O1 x H2 hi t l y => ?_⟩
  obtain ⟨rfl, rfl⟩ := y
  refine ⟨Sm.refl, .int i, ?_, by show Rp K H2 A1 (.int (i : Nat)) (.int (0 + (i : Nat))); rw [Int.zero_add]; exact Rp.int⟩
  unfold rngD
  rw [List.getElem?_map, List.getElem?_range (by rw [← e] at hi; exact hi)]
  rfl
/-- range(n) -/
def diRng (ta : DA) : DI := fun X ρ Q => ta X ρ fun ds ρ1 => match ds with
  | [.int n] => -(2 ^ 62) ≤ n ∧ n < 2 ^ 62 ∧ Q (rngD n.toNat) false ρ1
  | _ => False
theorem di_rng {a : Expr} (hg : Gl X "range") (hm : X.mg "range" = none) (ha : PA X [a] (upW X.K Ts W ta)) (hs : starEach [a] X.env = [(false, eval a X.env)] := by rfl) : PI X tg (.Call (.Name "range" p) [a] [] pos) (upI X.K Ts W (diRng ta)) := by
  refine (pi_range1 hg hm ha hs).imp fun σ H R h => ?_
  obtain ⟨A, O, ρ, Xf, Qd, m, h, c⟩ := h
  refine ⟨A, O, ρ, Xf, _, m, h, fun ds ρ1 vs H1 A1 O1 h1 s1 t1 m1 r1 => ?_, c.x⟩
  split at h1
  · obtain ⟨v, rfl, w⟩ := r1.one
    rw [w.int]
    exact ⟨_, rfl, h1.1, h1.2.1, c.q _ _ ρ1 _ H1 A1 O1 h1.2.2 s1 t1 m1 wlk_rng⟩
  · exact h1.elim
def enD (ds : List D) : List D := (ds.zipIdx).map fun z => .tup [.int (z.2 : Nat), z.1]
theorem wlk_enum {K : PySem.W.Frag} {H : Hp} {A O : AP} {lent : Bool} {a : Addr} {vs : List V} {ds : List D} (h : H a = some (.lst vs)) (r : RpL K H A ds vs) (hO : ∀ b, O b → A b) (hl : lent = true ∨ ¬ A a) : Wlk K H A O lent (Ite K a) (enD ds) := by
  have e : vs.length = (enD ds).length := by unfold enD; rw [List.length_map, List.length_zipIdx, r.len]
  refine ⟨_, _, e ▸ walk_enum, fun H1 A1 O1 t l => ?_, fun i H1 A1 O1 x H2 hi t l y => ?_⟩
  · rcases hl with hl | hl
    · exact SqL.of ((l hl).st a _ h fun _ z => by cases z)
    · exact SqL.of (t.kp.st a _ h (fun _ z => hl (hO a z)) fun _ z => by cases z)
  · obtain ⟨T, u, v, rfl, hT, rfl, eu, ev⟩ := y
    obtain ⟨d, e1, q⟩ := r.get ev
    cases eu
    refine ⟨Sm.new hT, .tup [.int (i : Nat), d], ?_, Rp.tup (SqT.of upd_same) (RpL.cons Rp.int (RpL.cons ((q.tr t hO).sm (Sm.new hT)) RpL.nil))⟩
    unfold enD
    rw [List.getElem?_map, List.getElem?_zipIdx, e1]
    simp
/-- enumerate(a list) -/
def diEnum (te : DE) : DI := fun X ρ Q => te X ρ fun d κ ρ1 => match d with
  | .lst ds => Q (enD ds) (match κ with | .bo => true | _ => false) ρ1
  | _ => False
theorem di_enum {elts : List Expr} {kk : Nat} {tpos : Pos} (hg : Gl X "enumerate") (hm : X.mg "enumerate" = none) (he : PE X e (upE X.K Ts W te)) (hs : starEach [e] X.env = [(false, eval e X.env)] := by rfl) (hs' : starEach [e] X.env = (false, eval e X.env) :: starEach [] X.env := by rfl) :
    PI X (.Tuple elts kk tpos) (.Call (.Name "enumerate" p) [e] [] pos) (upI X.K Ts W (diEnum te)) := by
  refine (pi_enum hg hm (pa_cons he pa_nil hs') hs).imp fun σ H R h => ?_
  obtain ⟨A, O, ρ, Xf, Qd, m, h, c⟩ := h
  refine ⟨A, O, ρ, Xf, _, m, h, fun d κ ρ1 v H1 A1 O1 h1 s1 t1 m1 r1 => ?_, c.x⟩
  split at h1
  · cases κ with
    | bo =>
      obtain ⟨a, vs, rfl, g1, g2⟩ := r1.wk.lst
      exact ⟨a, vs, rfl, SqL.of g1, c.q _ _ ρ1 _ H1 A1 O1 h1 s1 t1 m1 (wlk_enum g1 g2 m1.sub (.inl rfl))⟩
    | sh =>
      have r2 := r1.rp (by simp)
      unfold Rp at r2
      obtain ⟨a, vs, rfl, g1, g0, g2⟩ := r2
      exact ⟨a, vs, rfl, SqL.of g1, c.q _ _ ρ1 _ H1 A1 O1 h1 s1 t1 m1 (wlk_enum g1 g2 m1.sub (.inr g0))⟩
    | fr =>
      have r2 := r1.rp (by simp)
      unfold Rp at r2
      obtain ⟨a, vs, rfl, g1, g0, g2⟩ := r2
      exact ⟨a, vs, rfl, SqL.of g1, c.q _ _ ρ1 _ H1 A1 O1 h1 s1 t1 m1 (wlk_enum g1 g2 m1.sub (.inr g0))⟩
  · exact h1.elim
end
/-! ### targets, for -/
abbrev DG := D → List Sl → (List Sl → Prop) → Prop
def upG (K : PySem.W.Frag) (Ts : AP) (g : DG) : TG := fun v σ H Q => ∃ A O ρ d Qd, Mt K Ts H A O ρ σ ∧ Rp K H A d v ∧ g d ρ Qd ∧ ∀ ρ' σ' A' O', Qd ρ' → Tr A O H A' O' H → Mt K Ts H A' O' ρ' σ' → Q σ' H
def upGs (K : PySem.W.Frag) (Ts : AP) (g : List D → List Sl → (List Sl → Prop) → Prop) : TGs := fun vs σ H Q => ∃ A O ρ ds Qd, Mt K Ts H A O ρ σ ∧ RpL K H A ds vs ∧ g ds ρ Qd ∧ ∀ ρ' σ' A' O', Qd ρ' → Tr A O H A' O' H → Mt K Ts H A' O' ρ' σ' → Q σ' H
theorem _root_.L2.PG.imp {X : Cx} {e : Expr} {t t' : TG} (h : PG X e t) (i : ∀ v σ H Q, t' v σ H Q → t v σ H Q) : PG X e t' := ⟨fun pins s σ H v u Q I r q => h.run pins s σ H v u Q I r (i v σ H Q q)⟩
theorem _root_.L2.PGs.imp {X : Cx} {e : List Expr} {t t' : TGs} (h : PGs X e t) (i : ∀ v σ H Q, t' v σ H Q → t v σ H Q) : PGs X e t' := ⟨fun pins s σ H v u Q I r q => h.run pins s σ H v u Q I r (i v σ H Q q)⟩
def dgName (i : Nat) : DG := fun d ρ Q => Q (ρ.set i (.va d))
def dgNil : List D → List Sl → (List Sl → Prop) → Prop := fun ds ρ Q => match ds with
  | [] => Q ρ
  | _ => False
def dgCons (g : DG) (gs : List D → List Sl → (List Sl → Prop) → Prop) : List D → List Sl → (List Sl → Prop) → Prop := fun ds ρ Q => match ds with
  | d :: r => g d ρ fun ρ1 => gs r ρ1 Q
  | [] => False
def dgTup (n : Nat) (gs : List D → List Sl → (List Sl → Prop) → Prop) : DG := fun d ρ Q => match d with
  | .tup ds => ds.length = n ∧ gs ds ρ Q
  | _ => False
section
variable {X : Cx} {Ts : AP} {W : WX} {pos : Pos}
theorem dg_name {i : Nat} {x : Str} (hN : X.N.Nodup) (hi : X.N[i]? = some x) (hx : Loc X.env.scope x) (hf : X.fn x = true ∨ X.env.scope.names.lookup x = some .local := by first | exact .inl rfl | exact .inr rfl | assumption) : PG X (.Name x pos) (upG X.K Ts (dgName i)) := by
  refine (pg_name hN hi hx hf).imp fun v σ H Q h => ?_
  obtain ⟨A, O, ρ, d, Qd, m, r, h, k⟩ := h
  obtain ⟨m2, t2⟩ := m.setVa (i := i) r
  exact k _ _ _ _ h t2 m2
theorem dgs_nil : PGs X [] (upGs X.K Ts dgNil) := pgs_nil.imp fun v σ H Q h => by
  obtain ⟨A, O, ρ, ds, Qd, m, r, h, k⟩ := h
  unfold dgNil at h
  split at h
  · exact ⟨r.unnil, k ρ σ A O h Tr.refl m⟩
  · exact h.elim
theorem dgs_cons {e : Expr} {es : List Expr} {g : DG} {gs : List D → List Sl → (List Sl → Prop) → Prop} (h1 : PG X e (upG X.K Ts g)) (h2 : PGs X es (upGs X.K Ts gs)) (hs : (assignEach (e :: es) X.env).map (·.2) = assign e X.env :: (assignEach es X.env).map (·.2) := by rfl) :
    PGs X (e :: es) (upGs X.K Ts (dgCons g gs)) := by
  refine (pgs_cons h1 h2 hs).imp fun v σ H Q h => ?_
  obtain ⟨A, O, ρ, ds, Qd, m, r, h, k⟩ := h
  unfold dgCons at h
  split at h
  · obtain ⟨w, t, rfl, r1, r2⟩ := r.uncons
    refine ⟨w, t, rfl, A, O, ρ, _, _, m, r1, h, fun ρ1 σ1 A1 O1 q t1 m1 => ?_⟩
    exact ⟨A1, O1, ρ1, _, _, m1, r2.tr t1 m.sub, q, fun ρ2 σ2 A2 O2 q2 t2 m2 => k ρ2 σ2 A2 O2 q2 (t1.trans t2 m.trk) m2⟩
  · exact h.elim
theorem dg_tup {es : List Expr} {k : Nat} {gs : List D → List Sl → (List Sl → Prop) → Prop} {n : Nat} (hc : X.calm = true) (h : PGs X es (upGs X.K Ts gs)) (hn : (assignEach es X.env).length = n := by rfl) (hst : (assignEach es X.env).findIdx? (·.1) = none := by rfl) :
    PG X (.Tuple es k pos) (upG X.K Ts (dgTup n gs)) := by
  refine (pg_tup hc h hn hst).imp fun v σ H Q h => ?_
  obtain ⟨A, O, ρ, d, Qd, m, r, h, k⟩ := h
  unfold dgTup at h
  split at h
  · unfold Rp at r
    obtain ⟨a, vs, rfl, g1, g2⟩ := r
    exact ⟨a, vs, rfl, g1, by rw [← g2.len]; exact h.1, A, O, ρ, _, Qd, m, g2, h.2, k⟩
  · exact h.elim
/-- (a, b) = e -/
def dAsg (te : DE) (g : DG) : DS := fun X N ρ => te X ρ fun d κ ρ1 => κ ≠ .bo ∧ g d ρ1 N.nx
theorem ds_asg {tg e : Expr} {te : DE} {g : DG} (he : PE X e (upE X.K Ts W te)) (hg : PG X tg (upG X.K Ts g)) (hs : swapsWithSole [tg] e pos.line X.env = pure false := by rfl) (hw : swappedStores [tg] e X.env = pure none := by rfl)
    (h1 : (assignEach [tg] X.env).map (·.2) = [assign tg X.env] := by rfl) : PS X (.Assign [tg] e pos) (upS X.K Ts W (dAsg te g)) := by
  refine (ps_asg he hg hs hw h1).imp fun E σ H h => ?_
  obtain ⟨A, O, ρ, Xf, N, m, h, c⟩ := h
  refine ⟨A, O, ρ, Xf, _, m, h, fun d κ ρ1 v H1 A1 O1 h1 s1 t1 m1 r1 => ?_, fun x ρ' cls od H' A' O' => c.x x ρ' cls od σ H' A' O'⟩
  exact ⟨A1, O1, ρ1, d, _, m1, r1.rp h1.1, h1.2, fun ρ2 σ2 A2 O2 q t2 m2 => c.nx ρ2 σ2 H1 A2 O2 q (t1.trans t2 m.trk) m2⟩
/-- for: I by the turn and the slots -/
def dFor (ti : DI) (g : DG) (tb : DS) : DS := fun X N ρ => ti X ρ fun ds lent ρ1 => lent = false ∧ ∃ I : Nat → List Sl → Prop, I 0 ρ1 ∧
  (∀ k d ρ', ds[k]? = some d → I k ρ' → g d ρ' fun ρ2 => tb X { nx := I (k + 1), ct := I (k + 1), bk := N.nx, rt := N.rt } ρ2) ∧ ∀ ρ', I ds.length ρ' → N.nx ρ'
theorem ds_for {tg iter : Expr} {body : List Stmt} {ti : DI} {g : DG} {tb : DS} (hp : PassesOwn (model X.prog X.w) X.A X.env X.xe) (hc : X.calm = true) (hi : PI X tg iter (upI X.K Ts W ti)) (hg : PG X tg (upG X.K Ts g)) (hb : PSs X body (upS X.K Ts W tb))
    (hs : ∀ x, foldedSetIterable iter X.env x = pure x := by intro _; rfl) : PS X (.For tg iter body [] pos) (upS X.K Ts W (dFor ti g tb)) := by
  refine (ps_for hp hc hi hg hb hs).imp fun E σ H h => ?_
  obtain ⟨A, O, ρ, Xf, N, m, h, c⟩ := h
  refine ⟨A, O, ρ, Xf, _, m, h, fun ds lent ρ1 J H1 A1 O1 h1 s1 t1 m1 w1 => ?_, fun x ρ' cls od H' A' O' => c.x x ρ' cls od σ H' A' O'⟩
  obtain ⟨el, I, i0, step, done⟩ := h1
  subst el
  obtain ⟨G, Y, w, hG, hY⟩ := w1.ex
  have c1 := c.move t1 m
  refine for_it w (fun k σ' H' => ∃ A' O' ρ', Tr A1 O1 H1 A' O' H' ∧ Mt X.K Ts H' A' O' ρ' σ' ∧ I k ρ') ⟨A1, O1, ρ1, Tr.refl, m1, i0⟩ (fun k σ' H' hk p => ?_) (fun k x σ' H' H'' hk p y => ?_) fun σ' H' p => ?_
  · obtain ⟨A', O', ρ', t', m', _⟩ := p
    exact hG H' A' O' t' fun z => by cases z
  · obtain ⟨A', O', ρ', t', m', i'⟩ := p
    obtain ⟨s2, d, ed, rd⟩ := hY k H' A' O' x H'' hk t' (fun z => by cases z) y
    have t2 : Tr A1 O1 H1 A' O' H'' := t'.trans (Tr.of s2) m1.trk
    refine ⟨A', O', ρ', d, _, m'.sm s2, rd, step k d ρ' ed i', fun ρ2 σ2 A2 O2 q t3 m3 => ?_⟩
    have t23 := t2.trans t3 m1.trk
    have c2 := c1.move t23 m1
    refine ⟨A2, O2, ρ2, Xf, _, m3, q, fun ρ4 σ4 H4 A4 O4 q4 t4 m4 => ?_, fun ρ4 σ4 H4 A4 O4 q4 t4 m4 => ?_, fun ρ4 σ4 H4 A4 O4 q4 t4 m4 => ?_, c2.rt, c2.x⟩
    · exact ⟨A4, O4, ρ4, t23.trans t4 m1.trk, m4, q4⟩
    · exact c2.nx ρ4 σ4 H4 A4 O4 q4 t4 m4
    · exact ⟨A4, O4, ρ4, t23.trans t4 m1.trk, m4, q4⟩
  · obtain ⟨A', O', ρ', t', m', i'⟩ := p
    exact c1.nx ρ' σ' H' A' O' (done ρ' i') t' m'
end
end DL

-- part DL5
set_option Elab.async false
set_option linter.all false
set_option maxRecDepth 100000
set_option maxHeartbeats 2000000
/-! comprehensions, all and any; calls of the program's defs, methods, properties; fields -/
namespace DL
open PySem PySem.Spec PyProof.Rows L2 GxR GS GA GD
/-- nothing is let out -/
abbrev W0 : WX := fun _ _ _ _ => False
abbrev X0 : XF := fun _ _ => False
/-- the slots as they were -/
def same (ρ : List Sl) (ρ' : List Sl) : Prop := ρ' = ρ
section
variable {K : PySem.W.Frag} {Ts A O A' O' : AP} {H H' : Hp} {ρ : List Sl} {σ : L2.St}
/-- where the slots are as they were, what is kept apart is so still -/
theorem Mt.stay (m : Mt K Ts H A O ρ σ) (t : Tr A O H A' O' H') (m' : Mt K Ts H' A' O' ρ σ) : ∀ b, A b → A' b := fun b hb => by
  by_cases hO : O b
  · obtain ⟨i, ds, h1, h2⟩ := m.ox b hO
    obtain ⟨a, vs, g1, g2, _⟩ := m'.ow i ds h1
    rw [h2] at g1
    cases g1
    exact m'.sub _ g2
  · exact t.old b hb hO
theorem wipe1 (σ : L2.St) (i : Nat) (x : Option V) : ((wipe σ [i]).set i x) = σ.set i x := by
  show (σ.set i none).set i x = _
  rw [List.set_set]
end
/-! ### [e for x in xs if t] -/
def dLc (ti : DI) (i : Nat) (tt : DT) (te : DE) : DE := fun X ρ Q => ti X ρ fun ds _ ρ1 => ds.length ≤ sizeLine ∧ ∃ f : D → Option D,
  (∀ d ∈ ds, tt X0 (ρ1.set i (.va d)) fun b ρ2 => if b = true then te X0 ρ2 fun z κ ρ3 => κ ≠ .bo ∧ ρ3 = ρ1.set i (.va d) ∧ f d = some z else f d = none) ∧ Q (.lst (ds.filterMap f)) .fr ρ1
def dYes : DT := fun _ ρ Q => Q true ρ
structure Dts (X : Cx) (Ts : AP) (ifs : List Expr) (t : DT) : Prop where
  run : PTs X ifs (upT X.K Ts W0 t)
theorem dts_nil {X : Cx} {Ts : AP} : PTs X [] (upT X.K Ts W0 dYes) := ⟨fun pins s σ H Q I h => pts_nil.run pins s σ H Q I (by
  obtain ⟨A, O, ρ, Xf, Qd, m, h, c⟩ := h
  exact c.q true ρ H A O h Sm.refl Tr.refl m)⟩
theorem dts_one {X : Cx} {Ts : AP} {c : Expr} {t : DT} (h : PT X c (upT X.K Ts W0 t)) : PTs X [c] (upT X.K Ts W0 t) := pts_one h
section
variable {X : Cx} {Ts : AP} {W : WX}
theorem up_lc {ti : DI} {i : Nat} {tt : DT} {te : DE} {σ : L2.St} {H : Hp} {Q : VK} (h : upE X.K Ts W (dLc ti i tt te) σ H Q) : tLc (upI X.K Ts W ti) (gName i) (upT X.K Ts W0 tt) (upE X.K Ts W0 te) [i] σ H Q := by
  obtain ⟨A, O, ρ, Xf, Qd, m, h, c⟩ := h
  refine ⟨A, O, ρ, Xf, _, m, h, fun ds lent ρ1 J H1 A1 O1 h1 s1 t1 m1 w1 => ?_, c.x⟩
  obtain ⟨hz, f, hf, hq⟩ := h1
  have c1 := c.move s1 t1 m
  obtain ⟨G, Y, w, hG, hY⟩ := w1.ex
  intro Dd hD
  have mD : ∀ {H' : Hp}, Sm H1 H' → H' Dd ≠ none → Mt X.K Ts H' (fun b => A1 b ∨ b = Dd) O1 ρ1 σ := fun s n => m1.fresh hD s n
  have tD : ∀ {H' : Hp}, Sm H1 H' → Tr A1 O1 H1 (fun b => A1 b ∨ b = Dd) O1 H' := fun s => ⟨Kp.of s, fun b z => z.imp id fun q => by rw [q]; exact hD, fun b z _ => .inl z, fun b z => .inl z⟩
  refine lc_it w (Qd := fun H => Q (.ref Dd) H) (fun k H' => Sm H1 H' ∧ ∃ vs, H' Dd = some (.lst vs) ∧ RpL X.K H' (fun b => A1 b ∨ b = Dd) ((ds.take k).filterMap f) vs) ⟨Sm.new hD, [], upd_same, RpL.nil⟩ (fun k H' _ p => hG H' A1 O1 (Tr.of p.1) fun _ => p.1) (fun k x H' H'' hk p y => ?_) fun H' p => ?_
  · obtain ⟨p1, vs, p2, p3⟩ := p
    obtain ⟨s2, d, ed, rd⟩ := hY k H' (fun b => A1 b ∨ b = Dd) O1 x H'' hk (tD p1) (fun _ => p1) y
    have s12 := p1.trans s2
    have n2 : H'' Dd = some (.lst vs) := s2.st _ _ p2 fun _ z => by cases z
    have mm := mD s12 (by rw [n2]; exact fun z => by cases z)
    refine ⟨wipe_set σ i (some x), ?_⟩
    rw [wipe1]
    obtain ⟨m2, t2⟩ := mm.setVa (i := i) rd
    refine ⟨_, _, _, _, _, m2, hf d (List.mem_of_getElem? ed), ⟨fun b ρ2 H3 A3 O3 h3 s3 t3 m3 => ?_, fun x ρ' cls od H' A' O' z => z.elim⟩⟩
    have n3 : H3 Dd = some (.lst vs) := s3.st _ _ n2 fun _ z => by cases z
    have tk : (ds.take (k + 1)).filterMap f = (ds.take k).filterMap f ++ (match f d with | some z => [z] | none => []) := by
      rw [List.take_add_one, ed, List.filterMap_append]
      show _ ++ List.filterMap f [d] = _
      cases hfd : f d with
      | some z => rw [List.filterMap_cons_some hfd]; rfl
      | none => rw [List.filterMap_cons_none hfd]; rfl
    cases b with
    | false =>
      have h3 : f d = none := h3
      refine ifF rfl ⟨s12.trans s3, vs, n3, ?_⟩
      rw [tk, h3, List.append_nil]
      exact (p3.sm s2).sm s3
    | true =>
      refine ifT rfl ⟨A3, O3, ρ2, _, _, m3, h3, ⟨fun z κ ρ4 v H4 A4 O4 h4 s4 t4 m4 r4 => ?_, fun x ρ' cls od H' A' O' z => z.elim⟩⟩
      obtain ⟨nb, e4, ef⟩ := h4
      have n4 : H4 Dd = some (.lst vs) := s4.st _ _ n3 fun _ z => by cases z
      subst e4
      have st := m2.stay (t3.trans t4 m2.trk) m4
      have rv : Rp X.K H4 (fun b => A1 b ∨ b = Dd) z v := (r4.rp nb).less st
      have pv : RpL X.K H4 (fun b => A1 b ∨ b = Dd) ((ds.take k).filterMap f) vs := ((p3.sm s2).sm s3).sm s4
      have hm : ∀ u, H4 Dd = some u → isM u := fun u e => by rw [n4] at e; cases e; trivial
      refine ⟨vs, n4, ?_, Sm.own ((s12.trans s3).trans s4) hD (fun P t => tabG_ne t n4 fun _ z => by cases z), vs ++ [v], upd_same, ?_⟩
      · rw [← p3.len]
        have h1 := List.length_filterMap_le f (ds.take k)
        rw [List.length_take] at h1
        omega
      · rw [tk, ef]
        exact (pv.upd (.inr rfl) hm).app (RpL.cons (rv.upd (.inr rfl) hm) RpL.nil)
  · obtain ⟨p1, vs, p2, p3⟩ := p
    rw [List.take_length] at p3
    have mm := mD p1 (by rw [p2]; exact fun z => by cases z)
    refine c1.q _ .fr ρ1 _ H' A1 O1 hq p1 (Tr.of p1) (m1.sm p1) ⟨_, Dd, vs, rfl, rfl, hD, p2, fun z => m1.trk Dd z hD, p3, mm⟩
theorem de_lc {elt tg iter : Expr} {ifs : List Expr} {scope : Scope} {own : List (Str × Nat)} {pos : Pos} {ti : DI} {i : Nat} {tt : DT} {te : DE} (hc : X.calm = true) (hN : X.N.Nodup) (hi : PI X tg iter (upI X.K Ts W ti)) (ok : BlkOk X.N X.env.scope scope own) (ho : own.map (·.2) = [i])
    (hg : ∀ (s : Shared) (H : Hp) (C : Addr) (cl : List (Str × Addr)) (fp : List Addr), PG (X.blk s H scope (compEnvC scope cl C X.env) fp) tg (gName i)) (ht : ∀ (s : Shared) (H : Hp) (C : Addr) (cl : List (Str × Addr)) (fp : List Addr), PTs (X.blk s H scope (compEnvC scope cl C X.env) fp) ifs (upT X.K Ts W0 tt))
    (he : ∀ (s : Shared) (H : Hp) (C : Addr) (cl : List (Str × Addr)) (fp : List Addr), PE (X.blk s H scope (compEnvC scope cl C X.env) fp) elt (upE X.K Ts W0 te)) (hs : ∀ x, foldedSetIterable iter X.env x = pure x := by intro _; rfl) :
    PE X (.ListComp elt [⟨tg, iter, ifs, 0⟩] scope pos) (upE X.K Ts W (dLc ti i tt te)) :=
  (pe_lc hc hN hi ok hg ht he hs).imp fun σ H Q h => by rw [ho]; exact up_lc h
/-- name = [..] -/
theorem ds_setLc {i j : Nat} {y : Str} {py : Pos} {elt tg iter : Expr} {ifs : List Expr} {scope : Scope} {own : List (Str × Nat)} {pos spos : Pos} {ti : DI} {tt : DT} {te : DE} (hc : X.calm = true) (hN : X.N.Nodup) (hy : X.N[j]? = some y) (hyl : X.env.scope.names.lookup y = some .local)
    (hsw : swapsWith (.ListComp elt [⟨tg, iter, ifs, 0⟩] scope pos) (some (.Name y py)) spos.line X.env = pure true) (hi : PI X tg iter (upI X.K Ts W ti)) (ok : BlkOk X.N X.env.scope scope own) (ho : own.map (·.2) = [i])
    (hg : ∀ (s : Shared) (H : Hp) (C : Addr) (cl : List (Str × Addr)) (fp : List Addr), PG (X.blk s H scope (compEnvC scope cl C X.env) fp) tg (gName i)) (ht : ∀ (s : Shared) (H : Hp) (C : Addr) (cl : List (Str × Addr)) (fp : List Addr), PTs (X.blk s H scope (compEnvC scope cl C X.env) fp) ifs (upT X.K Ts W0 tt))
    (he : ∀ (s : Shared) (H : Hp) (C : Addr) (cl : List (Str × Addr)) (fp : List Addr), PE (X.blk s H scope (compEnvC scope cl C X.env) fp) elt (upE X.K Ts W0 te)) (hs : ∀ x, foldedSetIterable iter X.env x = pure x := by intro _; rfl) :
    PS X (.Assign [.Name y py] (.ListComp elt [⟨tg, iter, ifs, 0⟩] scope pos) spos) (upS X.K Ts W (dSet j (dLc ti i tt te))) := by
  refine (ps_setLc hc hN hy hyl hsw hi ok hg ht he hs).imp fun E σ H h => ?_
  obtain ⟨A, O, ρ, Xf, N, m, h, c⟩ := h
  show tLc _ _ _ _ (own.map (·.2)) σ H _
  rw [ho]
  refine up_lc ⟨A, O, ρ, Xf, _, m, h, fun d κ ρ1 v H1 A1 O1 h1 s1 t1 m1 r1 => ?_, fun x ρ' cls od H' A' O' => c.x x ρ' cls od σ H' A' O'⟩
  obtain ⟨A2, O2, t2, m2⟩ := stored (i := j) t1 m1 s1 m.trk m.sub r1 h1.1 h1.2.1
  exact c.nx _ _ _ _ _ h1.2.2 t2 m2
/-! ### all(e for x in xs), any -/
def dGen (b : Bool) (ti : DI) (i : Nat) (te : DE) : DE := fun X ρ Q => ti X ρ fun ds _ ρ1 => ∃ f : D → Bool,
  (∀ d ∈ ds, te X0 (ρ1.set i (.va d)) fun z _ ρ3 => ρ3 = ρ1.set i (.va d) ∧ z = .bl (f d)) ∧ Q (.bl (if b then ds.any f else ds.all f)) .sh ρ1
theorem up_gen {b : Bool} {P : Addr} {ti : DI} {i : Nat} {te : DE} {σ : L2.St} {H : Hp} {Q : VK} (hP : Ts P) (h : upE X.K Ts W (dGen b ti i te) σ H Q) : tGen b P (upI X.K Ts W ti) (gName i) (upE X.K Ts W0 te) [i] σ H Q := by
  unfold tGen
  obtain ⟨A, O, ρ, Xf, Qd, m, h, c⟩ := h
  refine ⟨A, O, ρ, Xf, _, m, h, fun ds lent ρ1 J H1 A1 O1 h1 s1 t1 m1 w1 => ?_, c.x⟩
  obtain ⟨f, hf, hq⟩ := h1
  have c1 := c.move s1 t1 m
  obtain ⟨G, Y, w, hG, hY⟩ := w1.ex
  have hT := m1.tab P hP
  refine gen_it w hT (fun k H' => Sm H1 H' ∧ ∀ x ∈ ds.take k, f x ≠ b) (fun H2 t => ⟨Sm.tab hT t, by simp⟩) (fun k H' _ p => hG H' A1 O1 (Tr.of p.1) fun _ => p.1) (fun k x H' H'' hk p y => ?_) fun H' p => ?_
  · obtain ⟨s2, d, ed, rd⟩ := hY k H' A1 O1 x H'' hk (Tr.of p.1) (fun _ => p.1) y
    have s12 := p.1.trans s2
    have hm : d ∈ ds := List.mem_of_getElem? ed
    refine ⟨wipe_set σ i (some x), ?_⟩
    rw [wipe1]
    obtain ⟨m2, t2⟩ := (m1.sm s12).setVa (i := i) rd
    refine ⟨_, _, _, _, _, m2, hf d hm, ⟨fun z κ ρ4 v H4 A4 O4 h4 s4 t4 m4 r4 => ?_, fun x ρ' cls od H' A' O' z => z.elim⟩⟩
    obtain ⟨e4, rfl⟩ := h4
    refine ⟨f d, r4.bl, fun e => ?_, fun e => ⟨s12.trans s4, fun y hy => ?_⟩⟩
    · have e2 : (if b = true then ds.any f else ds.all f) = b := by
        cases b with
        | true => rw [if_pos rfl]; exact List.any_eq_true.mpr ⟨d, hm, e⟩
        | false =>
          rw [if_neg Bool.false_ne_true, List.all_eq_false]
          exact ⟨d, hm, by simp [e]⟩
      have hq2 : Qd (.bl b) .sh ρ1 := by rw [e2] at hq; exact hq
      exact c1.sh m1 (s12.trans s4) hq2 Rp.bl
    · rw [List.take_add_one, ed] at hy
      rcases List.mem_append.mp hy with hy | hy
      · exact p.2 y hy
      · have : y = d := by simpa using hy
        rw [this]; exact e
  · obtain ⟨p1, p2⟩ := p
    rw [List.take_length] at p2
    have e2 : (if b = true then ds.any f else ds.all f) = !b := by
      cases b with
      | true =>
        rw [if_pos rfl]
        show ds.any f = false
        rw [List.any_eq_false]
        exact fun x hx => by simpa using p2 x hx
      | false =>
        rw [if_neg Bool.false_ne_true]
        show ds.all f = true
        rw [List.all_eq_true]
        exact fun x hx => by simpa using p2 x hx
    have hq2 : Qd (.bl (!b)) .sh ρ1 := by rw [e2] at hq; exact hq
    exact c1.sh m1 p1 hq2 Rp.bl
theorem de_all {c P : Addr} {elt tg iter : Expr} {p pos gpos : Pos} {scope : Scope} {own : List (Str × Nat)} {ti : DI} {i : Nat} {te : DE} {k : Nat} (hr : Room k X.A) (hc : X.calm = true) (hN : X.N.Nodup) (hm : X.mg "all" = none) (TB : TabB X.base X.mg c P) (hP : Ts P) (hcode : X.env.code = .ref c) (ok : BlkOk X.N X.env.scope scope own) (ho : own.map (·.2) = [i]) (hi : PI X tg iter (upI X.K Ts W ti))
    (hg : ∀ (s : Shared) (H : Hp) (cl : List (Str × Addr)) (C : Addr) (code : Value) (fp : List Addr), PG (gcx X s H scope cl C code fp) tg (gName i))
    (he : ∀ (s : Shared) (H : Hp) (cl : List (Str × Addr)) (C : Addr) (code : Value) (fp : List Addr), PE (gcx X s H scope cl C code fp) elt (upE X.K Ts W0 te))
    (hncell : ∀ y ∈ scope.names, y.2 ≠ .cell := by decide +kernel) (h0 : scope.names.lookup (".0" : Str) = some .local := by decide +kernel) (hco : scope.isCoroutine = false := by rfl) (hgl : Gl X "all" := by rfl) (hs : ∀ v, genFold iter X.env v = pure v := by intro _; rfl)
    (hst : starEach [.GeneratorExp elt [⟨tg, iter, [], 0⟩] scope gpos] X.env = (false, eval (.GeneratorExp elt [⟨tg, iter, [], 0⟩] scope gpos) X.env) :: starEach [] X.env := by rfl) :
    PE X (.Call (.Name "all" p) [.GeneratorExp elt [⟨tg, iter, [], 0⟩] scope gpos] [] pos) (upE X.K Ts W (dGen false ti i te)) :=
  (pe_all hr hc hN hm TB hcode ok hi hg he hncell h0 hco hgl hs hst).imp fun σ H Q h => by rw [ho]; exact up_gen hP h
theorem de_any {c P : Addr} {elt tg iter : Expr} {p pos gpos : Pos} {scope : Scope} {own : List (Str × Nat)} {ti : DI} {i : Nat} {te : DE} {k : Nat} (hr : Room k X.A) (hc : X.calm = true) (hN : X.N.Nodup) (hm : X.mg "any" = none) (TB : TabB X.base X.mg c P) (hP : Ts P) (hcode : X.env.code = .ref c) (ok : BlkOk X.N X.env.scope scope own) (ho : own.map (·.2) = [i]) (hi : PI X tg iter (upI X.K Ts W ti))
    (hg : ∀ (s : Shared) (H : Hp) (cl : List (Str × Addr)) (C : Addr) (code : Value) (fp : List Addr), PG (gcx X s H scope cl C code fp) tg (gName i))
    (he : ∀ (s : Shared) (H : Hp) (cl : List (Str × Addr)) (C : Addr) (code : Value) (fp : List Addr), PE (gcx X s H scope cl C code fp) elt (upE X.K Ts W0 te))
    (hncell : ∀ y ∈ scope.names, y.2 ≠ .cell := by decide +kernel) (h0 : scope.names.lookup (".0" : Str) = some .local := by decide +kernel) (hco : scope.isCoroutine = false := by rfl) (hgl : Gl X "any" := by rfl) (hs : ∀ v, genFold iter X.env v = pure v := by intro _; rfl)
    (hst : starEach [.GeneratorExp elt [⟨tg, iter, [], 0⟩] scope gpos] X.env = (false, eval (.GeneratorExp elt [⟨tg, iter, [], 0⟩] scope gpos) X.env) :: starEach [] X.env := by rfl) :
    PE X (.Call (.Name "any" p) [.GeneratorExp elt [⟨tg, iter, [], 0⟩] scope gpos] [] pos) (upE X.K Ts W (dGen true ti i te)) :=
  (pe_any hr hc hN hm TB hcode ok hi hg he hncell h0 hco hgl hs hst).imp fun σ H Q h => by rw [ho]; exact up_gen hP h
end
/-! ### the program's defs -/
abbrev Ph := List D → (D → Prop) → (Xc → Prop) → Prop
/-- the promise of a def: φ by the arguments -/
def spD (K : PySem.W.Frag) (Ts : AP) (n : Nat) (φ : Ph) : Sp := fun vs H Q E => vs.length = n ∧ ∃ A ds Qd Xd, (∀ P, Ts P → TabG H P) ∧ (∀ b, A b → H b ≠ none) ∧ RpL K H A ds vs ∧ φ ds Qd Xd ∧
  (∀ d v H' A', Qd d → Sm H H' → (∀ b, A b → A' b) → Rp K H' A' d v → Q v H') ∧ ∀ x cls od H' A', Xd x → Sm H H' → (∀ b, A b → A' b) → XR K H' A' x cls od → E cls od H'
/-- what is let out comes where the wish is -/
def Ps (X : Cx) (W : WX) : Prop := ∀ σ, PassesAt (L2.CX X.prog X.w) X σ (WE W σ)
theorem Ps.no {X : Cx} : Ps X W0 := fun σ pins H s e s' I h => by
  obtain ⟨a, B, H', cls, d, h1, h2, h3, h4, h5, h6, h7, z⟩ := h
  exact z.elim
theorem Ps.of {X : Cx} {W : WX} (tk : Takes X W) : Ps X W := fun σ => passAt tk σ
theorem RpL.less' {K : PySem.W.Frag} {A A' : AP} {H : Hp} {d : D} {v : V} (h : Rp K H A' d v) (n : ∀ b, A b → A' b) : Rp K H A d v := h.less n
theorem XR.less {K : PySem.W.Frag} {A A' : AP} {H : Hp} {x : Xc} {cls : Value} {od : Option Addr} (h : XR K H A' x cls od) (n : ∀ b, A b → A' b) : XR K H A x cls od := by
  unfold XR at h ⊢
  refine ⟨h.1, ?_⟩
  have h2 := h.2
  split
  · rename_i e; rw [e] at h2; exact h2
  · rename_i f d e
    rw [e] at h2
    obtain ⟨a, v, h3, h4, h5⟩ := h2
    exact ⟨a, v, h3, h4, h5.less n⟩
section
variable {X : Cx} {Ts : AP} {W : WX} {k n : Nat} {f : Addr} {fd : FuncData} {ps : List Str} {φ : Ph} {x : Str} {p pos apos : Pos} {e o : Expr} {es : List Expr} {te : DE} {ta : DA}
def dCall (n : Nat) (φ : Ph) (ta : DA) : DE := fun X ρ Q => ta X ρ fun ds ρ1 => ds.length = n ∧ φ ds (fun d => Q d .sh ρ1) fun x => X x ρ1
theorem up_call {σ : L2.St} {H : Hp} {A O : AP} {ρ : List Sl} {Xf : XF} {Qd : D → Kd → List Sl → Prop} {Q : VK} {ds : List D} {vs : List V} (hn : vs.length = n) (m : Mt X.K Ts H A O ρ σ) (r : RpL X.K H A ds vs) (h : φ ds (fun d => Qd d .sh ρ) fun x => Xf x ρ) (c : Cn X.K Ts W σ H A O Xf Qd Q) : spD X.K Ts n φ vs H Q (WE W σ) :=
  ⟨hn, A, ds, _, _, m.tab, m.trk, r, h, fun d v H' A' q s n r => c.sh m s q (r.less n), fun x cls od H' A' q s n r => c.x x ρ cls od H' A O q (Tr.of s) (m.sm s) (r.less n)⟩
theorem de_call (F : FnOk X.prog X.w X.K X.mg X.base (L2.CX X.prog X.w) k f fd ps (spD X.K Ts n φ)) (hr : Room k X.A) (hg : Gl X x) (hm : X.mg x = some (.ref f)) (hk : PySem.W.keepIn X.K (.ref f) = true) (hb : Binds X.K fd ps []) (hx : Ps X W)
    (ha : PA X (e :: es) (upA X.K Ts W ta)) (hdb : (x == ("__debug__" : Str)) = false := by decide) (he : starEach (e :: es) X.env = (false, eval e X.env) :: starEach es X.env := by rfl) (hpl : (backTo pos (starEach es X.env)).any (·.1) = false := by rfl) :
    PE X (.Call (.Name x p) (e :: es) [] pos) (upE X.K Ts W (dCall n φ ta)) := by
  refine (pe_callS F hr hg hm hk hb hx ha hdb he hpl).imp fun σ H Q h => ?_
  obtain ⟨A, O, ρ, Xf, Qd, m, h, c⟩ := h
  refine ⟨A, O, ρ, Xf, _, m, h, fun ds ρ1 vs H1 A1 O1 h1 s1 t1 m1 r1 => ?_, c.x⟩
  exact up_call (by rw [← r1.len]; exact h1.1) m1 r1 h1.2 (c.move s1 t1 m)
/-- a def of the program keeps its promise -/
theorem fn_data {P : Program} {w : World} {K : PySem.W.Frag} {mg : Str → Option Value} {base : Heap} {xn qual : Str} {params : Arguments} {body : List Stmt} {scope : Scope} {dvs : List V} {kws : List (Str × V)} {c : Addr} {N : List Str} (F : FunD K xn qual params body scope dvs kws f fd) (hc : fd.code = .ref c) (S : FnScope N ps scope) (hn : ps.length = n)
    (hbody : ∀ (A : Around) (outer : List Env) (s : Shared) (H : Hp) (E : XK), Room k (A.deeper (envOfC qual scope s.heap.objs.size f (.ref c))) → ∃ t : DS, PSs (cxOf (L2.CX P w) P w K mg base N qual scope f (.ref c) A outer s H E) body (upS K Ts (fun cls d _ H => E cls d H) t) ∧
      ∀ ds Qd Xd, φ ds Qd Xd → ds.length = n → t (fun x _ => Xd x) ⟨fun _ => Qd .non, Qd, fun _ => False, fun _ => False⟩ (ds.map Sl.va ++ List.replicate (N.length - n) .no)) : FnOk P w K mg base (L2.CX P w) (k + 1) f fd ps (spD K Ts n φ) := by
  refine okC F hc S (fun vs H Q E h => by rw [hn]; exact h.1) fun A outer s H vs Q E hr h => ?_
  obtain ⟨t, hp, ht⟩ := hbody A outer s H E hr
  refine ⟨_, hp, ?_⟩
  obtain ⟨hl, A0, ds, Qd, Xd, tb, trk, r, h, kq, kx⟩ := h
  have dl : ds.length = n := by rw [r.len]; exact hl
  have sl : ∀ {i : Nat} {x : Sl}, (ds.map Sl.va ++ List.replicate (N.length - n) .no)[i]? = some x → x ≠ .no → ∃ d, ds[i]? = some d ∧ x = .va d := fun {i x} e nx => by
    by_cases hi : i < ds.length
    · rw [List.getElem?_append_left (by rw [List.length_map]; exact hi), List.getElem?_map] at e
      cases q : ds[i]? with
      | none => rw [q] at e; cases e
      | some d => rw [q] at e; cases e; exact ⟨d, rfl, rfl⟩
    · rw [List.getElem?_append_right (by rw [List.length_map]; omega)] at e
      exact absurd (List.eq_of_mem_replicate (List.mem_of_getElem? e)) nx
  have m : Mt K Ts H A0 (fun _ => False) (ds.map Sl.va ++ List.replicate (N.length - n) .no) (L2.start N vs) := by
    refine ⟨tb, fun b z => z.elim, trk, ?_, fun i d e => ?_, fun i es e => ?_, fun i j es fs a e => ?_, fun b z => z.elim⟩
    · unfold L2.start
      rw [List.length_append, List.length_append, List.length_map, List.length_map, List.length_replicate, List.length_replicate, r.len, hl]
    · obtain ⟨z, e1, e2⟩ := sl e (by simp)
      cases e2
      obtain ⟨v, g1, g2⟩ := r.get' e1
      refine ⟨v, ?_, g2⟩
      unfold L2.start
      rw [List.getElem?_append_left (by rw [List.length_map]; exact (List.getElem?_eq_some_iff.mp g1).1), List.getElem?_map, g1]
      rfl
    · obtain ⟨z, e1, e2⟩ := sl e (by simp)
      cases e2
    · obtain ⟨z, e1, e2⟩ := sl e (by simp)
      cases e2
  have old : ∀ {A' O' : AP} {H' : Hp}, Tr A0 (fun _ => False) H A' O' H' → ∀ b, A0 b → A' b := fun t b z => t.old b z fun q => q
  refine ⟨A0, _, _, _, _, m, ht ds Qd Xd h dl, ⟨fun ρ' σ' H' A' O' q t m' => ?_, fun _ _ _ _ _ q => q.elim, fun _ _ _ _ _ q => q.elim, fun d v H' A' O' q t r' => ?_, fun x ρ' cls od σ' H' A' O' q t m' r' => ?_⟩⟩
  · exact kq .non .non H' A' q t.kp.sm (old t) (by unfold Rp; rfl)
  · exact kq d v H' A' q t.kp.sm (old t) r'
  · exact kx x cls od H' A' q t.kp.sm (old t) r'
/-! ### methods, properties, fields -/
theorem pe_methS {pl : Sem Bool} {C g : Addr} {m : Str} {sp : Sp} {E : L2.St → XK} {CX : CXT} {to : TE} {t : TA} (he : PE X o to) (c : Cls X.K C) (hm : Meth X.K C m g) (F : FnOk X.prog X.w X.K X.mg X.base CX k g fd ps sp) (hr : Room k X.A) (hb : Binds X.K fd ps []) (hx : ∀ σ, PassesAt CX X σ (E σ)) (ha : PA X (e :: es) t)
    (hst : starEach (e :: es) X.env = (false, eval e X.env) :: starEach es X.env := by rfl) (hpl : (backTo pos (starEach es X.env)).any (·.1) = false := by rfl)
    (ht : eval (.Call (.Attribute o m apos) (e :: es) [] pos) X.env = (do
      let ov ← eval o X.env
      standAt apos.atName
      let (f, first) ← holding [ov] (getMethod ov m pl)
      callWith pos f first (backTo pos (starEach (e :: es) X.env)) (backToKw pos (keywordEach [] X.env))) := by rfl) :
    PE X (.Call (.Attribute o m apos) (e :: es) [] pos) (fun σ H Q => to σ H fun x H1 => ∃ a dx fs, x = .ref a ∧ H1 a = some (.ins C dx fs) ∧ fs.lookup m = none ∧ t σ H1 fun vs H2 => sp (x :: vs) H2 Q (E σ)) := by
  refine ⟨fun pins s σ H Q I h => ?_⟩
  refine PySem.W.methodCall_KW (pl := pl) (thn (he.run pins s σ H _ I h) fun u s1 ⟨x, H1, I1, rx, a, dx, fs, ex, ea, l, q⟩ => ?_) ht
  subst ex
  obtain rfl : u = Value.ref a := rx
  refine getmeth_ok I1 ea c hm l ?_
  refine PySem.W.callWith_K (first := [.ref a]) (h₀ := X.base) I.ok.mod.kin hm.kp (thn (ha.run pos pins s1 σ H1 _ I1 q) fun us s2 ⟨vs, H2, I2, r, q2⟩ => ⟨I2.kIn, ?_⟩) hst hpl
  exact run_fnS (us := .ref a :: us) (vs := .ref a :: vs) F hr hb (hx σ) I2 (.cons rfl r) q2
/-- o.m(e, ..): o an instance that stands, of the class C -/
def dMeth (C m : Str) (n : Nat) (φ : Ph) (to : DE) (ta : DA) : DE := fun X ρ Q => to X ρ fun d κ ρ1 => κ = .sh ∧ match d with
  | .ins C' ns xs => C' = C ∧ m ∉ ns ∧ ta X ρ1 fun ds ρ2 => ds.length = n ∧ φ (.ins C' ns xs :: ds) (fun z => Q z .sh ρ2) fun x => X x ρ2
  | _ => False
theorem lookup_zip {ns : List Str} {m : Str} : ∀ {ns : List Str} {vs : List V}, m ∉ ns → (ns.zip vs).lookup m = none
  | [], vs, _ => by rw [List.zip_nil_left]; rfl
  | n :: r, [], _ => by rw [List.zip_nil_right]; rfl
  | n :: r, v :: t, h => by
    rw [List.zip_cons_cons, List.lookup_cons]
    have h1 : (m == n) = false := by
      rw [beq_eq_false_iff_ne]
      exact fun z => h (by rw [z]; exact List.mem_cons_self)
    rw [h1]
    exact lookup_zip (ns := ns) fun z => h (List.mem_cons_of_mem _ z)
theorem de_meth {pl : Sem Bool} {C m : Str} {g : Addr} {to : DE} (he : PE X o (upE X.K Ts W to)) (c : Cls X.K (He.ga X.K C)) (hm : Meth X.K (He.ga X.K C) m g) (F : FnOk X.prog X.w X.K X.mg X.base (L2.CX X.prog X.w) k g fd ps (spD X.K Ts (n + 1) φ)) (hr : Room k X.A) (hb : Binds X.K fd ps []) (hx : Ps X W) (ha : PA X (e :: es) (upA X.K Ts W ta))
    (hst : starEach (e :: es) X.env = (false, eval e X.env) :: starEach es X.env := by rfl) (hpl : (backTo pos (starEach es X.env)).any (·.1) = false := by rfl)
    (ht : eval (.Call (.Attribute o m apos) (e :: es) [] pos) X.env = (do
      let ov ← eval o X.env
      standAt apos.atName
      let (f, first) ← holding [ov] (getMethod ov m pl)
      callWith pos f first (backTo pos (starEach (e :: es) X.env)) (backToKw pos (keywordEach [] X.env))) := by rfl) :
    PE X (.Call (.Attribute o m apos) (e :: es) [] pos) (upE X.K Ts W (dMeth C m n φ to ta)) := by
  refine (pe_methS (pl := pl) he c hm F hr hb hx ha hst hpl ht).imp fun σ H Q h => ?_
  obtain ⟨A, O, ρ, Xf, Qd, mm, h, cn⟩ := h
  refine ⟨A, O, ρ, Xf, _, mm, h, fun d κ ρ1 v H1 A1 O1 h1 s1 t1 m1 r1 => ?_, cn.x⟩
  obtain ⟨ek, h1⟩ := h1
  subst ek
  split at h1
  · obtain ⟨ec, nm, h1⟩ := h1
    subst ec
    have r0 : Rp X.K H1 A1 _ v := r1
    have r2 : Rp X.K H1 A1 _ v := r0
    unfold Rp at r2
    obtain ⟨a, dx, vs, rfl, g1, _, gl, _⟩ := r2
    refine ⟨a, dx, _, rfl, g1, lookup_zip (ns := []) nm, ?_⟩
    have c1 := cn.move s1 t1 mm
    refine ⟨A1, O1, ρ1, Xf, _, m1, h1, fun ds ρ2 ws H2 A2 O2 h2 s2 t2 m2 r3 => ?_, c1.x⟩
    exact up_call (by rw [List.length_cons, ← r3.len, h2.1]) m2 (RpL.cons (r0.tr t2 m1.sub) r3) h2.2 (c1.move s2 t2 m1)
  · exact h1.elim
/-- o.f, a field of an instance that stands -/
def dFld (C f : Str) (to : DE) : DE := fun X ρ Q => to X ρ fun d κ ρ1 => κ = .sh ∧ match d with
  | .ins C' ns xs => C' = C ∧ ns.length = xs.length ∧ oK ((ns.zip xs).lookup f) fun z => Q z .sh ρ1
  | _ => False
theorem lookup_get {K : PySem.W.Frag} {H : Hp} {A : AP} {f : Str} {z : D} : ∀ {ns : List Str} {xs : List D} {vs : List V}, RpL K H A xs vs → (ns.zip xs).lookup f = some z → ∃ v, (ns.zip vs).lookup f = some v ∧ Rp K H A z v
  | [], _, _, _, h => by rw [List.zip_nil_left] at h; cases h
  | n :: r, [], vs, _, h => by rw [List.zip_nil_right] at h; cases h
  | n :: r, x :: t, vs, q, h => by
    obtain ⟨v, ws, rfl, h1, h2⟩ := q.uncons
    rw [List.zip_cons_cons, List.lookup_cons] at h ⊢
    cases e : f == n with
    | true => rw [e] at h; cases h; exact ⟨v, rfl, h1⟩
    | false => rw [e] at h; exact lookup_get h2 h
theorem de_fld {C f' : Str} {to : DE} (he : PE X o (upE X.K Ts W to)) (c : Cls X.K (He.ga X.K C)) (na : NoAttr X.K (He.ga X.K C) f') (hb : attributeBase o f' X.env (eval o X.env) = eval o X.env := by rfl) : PE X (.Attribute o f' pos) (upE X.K Ts W (dFld C f' to)) := by
  refine (pe_fld he hb).imp fun σ H Q h => ?_
  obtain ⟨A, O, ρ, Xf, Qd, mm, h, cn⟩ := h
  refine ⟨A, O, ρ, Xf, _, mm, h, fun d κ ρ1 v H1 A1 O1 h1 s1 t1 m1 r1 => ?_, cn.x⟩
  obtain ⟨ek, h1⟩ := h1
  subst ek
  split at h1
  · obtain ⟨ec, nm, h1⟩ := h1
    subst ec
    obtain ⟨z, ez, h1⟩ := h1.get
    have r2 : Rp X.K H1 A1 _ v := r1
    unfold Rp at r2
    obtain ⟨a, dx, vs, rfl, g1, _, gl, g2⟩ := r2
    obtain ⟨u, e1, e2⟩ := lookup_get g2 ez
    exact ⟨a, _, dx, _, u, rfl, g1, c, na, e1, (cn.move s1 t1 mm).flat m1 h1 e2⟩
  · exact h1.elim
end
end DL

-- part DL6
set_option Elab.async false
set_option linter.all false
set_option maxRecDepth 100000
set_option maxHeartbeats 2000000
/-! short words; while; how a reading is reckoned -/
namespace DL
open PySem PySem.Spec PyProof.Rows L2 GxR GS GA GD
section
variable {X : Cx} {Ts : AP} {W : WX}
theorem vV (i : Nat) {x : Str} {pos : Pos} (hN : X.N[i]? = some x := by rfl) (hv : Vis X.env.scope x := by first | exact Or.inl rfl | exact Or.inr (Or.inl rfl) | exact Or.inr (Or.inr rfl)) (hd : (x == ("__debug__" : Str)) = false := by decide) (hcd : (x == ("__classdict__" : Str)) = false := by decide) :
    PE X (.Name x pos) (upE X.K Ts W (dVar i)) := de_var hN hv hd hcd
theorem vB (i : Nat) {x : Str} {pos : Pos} (hN : X.N[i]? = some x := by rfl) (hv : Vis X.env.scope x := by first | exact Or.inl rfl | exact Or.inr (Or.inl rfl) | exact Or.inr (Or.inr rfl)) (hd : (x == ("__debug__" : Str)) = false := by decide) (hcd : (x == ("__classdict__" : Str)) = false := by decide) :
    PE X (.Name x pos) (upE X.K Ts W (dVarB i)) := de_varB hN hv hd hcd
/-! ### while: I by the slots, μ what falls -/
def dWhile (c : DT) (tb : DS) : DS := fun X N ρ => ∃ (I : Nat → List Sl → Prop), (∃ m, I m ρ) ∧ ∀ m ρ1, I m ρ1 → c X ρ1 fun b ρ2 => if b = true then
    tb X { nx := fun ρ3 => ∃ m', m' < m ∧ I m' ρ3, ct := fun ρ3 => ∃ m', m' < m ∧ I m' ρ3, bk := N.nx, rt := N.rt } ρ2 else N.nx ρ2
theorem ds_while {c : Expr} {body : List Stmt} {pos : Pos} {tc : DT} {tb : DS} (hp : PassesOwn (model X.prog X.w) X.A X.env X.xe) (hc : PT X c (upT X.K Ts W tc)) (hb : PSs X body (upS X.K Ts W tb)) : PS X (.While c body [] pos) (upS X.K Ts W (dWhile tc tb)) := by
  refine (ps_while hp hc hb).imp fun E σ H h => ?_
  obtain ⟨A, O, ρ, Xf, N, m, h, c⟩ := h
  obtain ⟨I, ⟨n0, i0⟩, step⟩ := h
  refine ⟨fun n σ' H' => ∃ A' O' ρ', Tr A O H A' O' H' ∧ Mt X.K Ts H' A' O' ρ' σ' ∧ I n ρ', ⟨n0, A, O, ρ, Tr.refl, m, i0⟩, ?_⟩
  rintro n σ' H' ⟨A', O', ρ', t', m', i'⟩
  have c1 := c.move t' m
  refine ⟨A', O', ρ', Xf, _, m', step n ρ' i', fun b ρ2 H2 A2 O2 h2 s2 t2 m2 => ?_, fun x ρ' cls od H' A' O' => c1.x x ρ' cls od σ' H' A' O'⟩
  have t12 := t'.trans t2 m.trk
  have c2 := c.move t12 m
  cases b with
  | false => exact c2.nx ρ2 σ' H2 A2 O2 h2 Tr.refl m2
  | true =>
    refine ⟨fun σ3 H3 => ∃ n', n' < n ∧ ∃ A' O' ρ', Tr A O H A' O' H3 ∧ Mt X.K Ts H3 A' O' ρ' σ3 ∧ I n' ρ', fun σ3 H3 z => z, ?_⟩
    refine ⟨A2, O2, ρ2, Xf, _, m2, h2, ⟨fun ρ3 σ3 H3 A3 O3 h3 t3 m3 => ?_, fun ρ3 σ3 H3 A3 O3 h3 t3 m3 => ?_, fun ρ3 σ3 H3 A3 O3 h3 t3 m3 => ?_, c2.rt, c2.x⟩⟩
    · obtain ⟨n', hn, i3⟩ := h3
      exact ⟨n', hn, A3, O3, ρ3, t12.trans t3 m.trk, m3, i3⟩
    · exact c2.nx ρ3 σ3 H3 A3 O3 h3 t3 m3
    · obtain ⟨n', hn, i3⟩ := h3
      exact ⟨n', hn, A3, O3, ρ3, t12.trans t3 m.trk, m3, i3⟩
end
theorem rng_get {n k : Nat} {d : D} (h : (rngD n)[k]? = some d) : k < n ∧ d = .int (k : Int) := by
  unfold rngD at h
  have hk : k < n := by
    have := (List.getElem?_eq_some_iff.mp h).1
    rw [List.length_map, List.length_range] at this
    exact this
  rw [List.getElem?_map, List.getElem?_range hk] at h
  cases h
  exact ⟨hk, rfl⟩
theorem rng_len {n : Nat} : (rngD n).length = n := by unfold rngD; rw [List.length_map, List.length_range]
theorem map_get {α : Type} {f : α → D} {xs : List α} {k : Nat} {d : D} (h : (xs.map f)[k]? = some d) : ∃ x, xs[k]? = some x ∧ d = f x := by
  rw [List.getElem?_map] at h
  cases e : xs[k]? with
  | none => rw [e] at h; cases h
  | some x => rw [e] at h; cases h; exact ⟨x, rfl, rfl⟩
theorem at_map {α : Type} {f : α → D} {xs : List α} {k : Nat} {x : α} (h : xs[k]? = some x) : atI (xs.map f) (k : Int) = some (f x) := atI_nat (by rw [List.getElem?_map, h]; rfl)
theorem at_ix {α : Type} {f : α → D} {xs : List α} {i : Int} {k : Nat} {x : α} (e : i = (k : Int)) (h : xs[k]? = some x) : atI (xs.map f) i = some (f x) := by rw [e]; exact at_map h
theorem oK_at {α : Type} {f : α → D} {xs : List α} {i : Int} {Q : D → Prop} (k : Nat) {x : α} (e : i = (k : Int)) (h : xs[k]? = some x) (q : Q (f x)) : oK (atI (xs.map f) i) Q := oK.mk (at_ix e h) q
theorem flD_str (ss : List Str) : (ss.map D.str).all flD = true := by rw [List.all_map, List.all_eq_true]; intro x _; rfl
theorem flD_int (ss : List Int) : (ss.map D.int).all flD = true := by rw [List.all_map, List.all_eq_true]; intro x _; rfl
theorem cutD_drop (xs : List D) (m : Nat) : cutD xs (some (m : Int)) none = xs.drop m := by
  unfold cutD
  have e1 : HT.sIx xs.length 0 (some (m : Int)) = min m xs.length := by
    show (if (m : Int) < 0 then ((m : Int) + (xs.length : Int)).toNat else min (m : Int).toNat xs.length) = _
    rw [if_neg (by omega)]
    rfl
  have e2 : HT.sIx xs.length xs.length none = xs.length := rfl
  rw [e1, e2]
  by_cases h : m ≤ xs.length
  · rw [Nat.min_eq_left h, List.take_of_length_le (by rw [List.length_drop]; exact Nat.le_refl _)]
  · rw [Nat.min_eq_right (by omega), Nat.sub_self, List.take_zero, List.drop_of_length_le (by omega)]
theorem cutD_take (xs : List D) (m : Nat) : cutD xs none (some (m : Int)) = xs.take m := by
  unfold cutD
  have e2 : HT.sIx xs.length xs.length (some (m : Int)) = min m xs.length := by
    show (if (m : Int) < 0 then ((m : Int) + (xs.length : Int)).toNat else min (m : Int).toNat xs.length) = _
    rw [if_neg (by omega)]
    rfl
  have e1 : HT.sIx xs.length 0 none = 0 := rfl
  rw [e1, e2]
  show xs.take (min m xs.length - 0) = xs.take m
  rw [Nat.sub_zero, List.take_eq_take_iff]
  omega
theorem cutD_nil (xs : List D) (lo hi : Option Int) : cutD [] lo hi = [] := by unfold cutD; simp
/-! ### more operators -/
abbrev gPow := numOp CPow fun i j => .int (i ^ j.toNat)
theorem dop_pow {X : Cx} {Ts : AP} : DOp X Ts (binaryOp .Pow) gPow := num_ok op_pow fun _ _ _ _ => Rp.int
def dNeg (ta : DE) : DE := fun X ρ Q => ta X ρ fun d _ ρ1 => match d with
  | .int i => Q (.int (-i)) .sh ρ1
  | _ => False
theorem de_neg {X : Cx} {Ts : AP} {W : WX} {a : Expr} {ta : DE} {pos : Pos} (ha : PE X a (upE X.K Ts W ta)) : PE X (.UnaryOp .USub a pos) (upE X.K Ts W (dNeg ta)) := by
  refine (pe_un un_neg ha).imp fun σ H Q h => ?_
  obtain ⟨A, O, ρ, Xf, Qd, m, h, c⟩ := h
  refine ⟨A, O, ρ, Xf, _, m, h, fun d κ ρ1 v H1 A1 O1 h1 s1 t1 m1 r1 => ?_, c.x⟩
  split at h1
  · exact ⟨_, r1.wk.int, (c.move s1 t1 m).flat m1 h1 Rp.int⟩
  · exact h1.elim
/-- an if in a reading, by its truth -/
theorem if_b {b : Bool} {P Q : Prop} (h1 : b = true → P) (h2 : b = false → Q) : if b = true then P else Q := by
  cases b with
  | true => rw [if_pos rfl]; exact h1 rfl
  | false => rw [if_neg Bool.false_ne_true]; exact h2 rfl
theorem if_d {C : Prop} [Decidable C] {P Q : Prop} (h1 : C → P) (h2 : ¬ C → Q) : if decide C = true then P else Q := if_b (fun z => h1 (of_decide_eq_true z)) fun z => h2 (of_decide_eq_false z)
/-- a reading keeps the promise -/
abbrev MD (r : DS) (n N : Nat) (ph : Ph) : Prop := ∀ (ds : List D) (Qd : D → Prop) (Xd : Xc → Prop), ph ds Qd Xd → ds.length = n → r (fun x _ => Xd x) ⟨fun _ => Qd .non, Qd, fun _ => False, fun _ => False⟩ (ds.map Sl.va ++ List.replicate (N - n) .no)
end DL

-- part DL7
set_option Elab.async false
set_option linter.all false
set_option maxRecDepth 100000
set_option maxHeartbeats 2000000
/-! how a reading is reckoned: from the head, what follows is left shut -/
namespace DL
open PySem PySem.Spec PyProof.Rows L2 GxR GS GA GD
/-- what stands behind a tag is not reckoned -/
structure Tag {α : Sort _} (a : α) : Type where
def kk {α : Sort _} (a : α) (_ : Tag a := ⟨⟩) : α := a
/-- an if whose ways are left shut -/
def iK (b : Bool) (P Q : Prop) (_ : Tag P := ⟨⟩) (_ : Tag Q := ⟨⟩) : Prop := if b = true then P else Q
theorem iK_true (P Q : Prop) (s : Tag P) (u : Tag Q) : iK true P Q s u = P := if_pos rfl
theorem iK_false (P Q : Prop) (s : Tag P) (u : Tag Q) : iK false P Q s u = Q := if_neg Bool.false_ne_true
theorem iK_not (b : Bool) (P Q : Prop) (s : Tag P) (u : Tag Q) : iK (!b) P Q s u = iK b Q P u s := by cases b <;> rfl
theorem iK_b {b : Bool} {P Q : Prop} {s : Tag P} {u : Tag Q} (h1 : b = true → P) (h2 : b = false → Q) : iK b P Q s u := if_b h1 h2
theorem iK_d {C : Prop} [Decidable C] {P Q : Prop} {s : Tag P} {u : Tag Q} (h1 : C → P) (h2 : ¬ C → Q) : iK (decide C) P Q s u := if_d h1 h2
theorem iK_T {C : Prop} [Decidable C] {P Q : Prop} {s : Tag P} {u : Tag Q} (c : C) (h : P) : iK (decide C) P Q s u := iK_d (fun _ => h) fun n => absurd c n
theorem iK_F {C : Prop} [Decidable C] {P Q : Prop} {s : Tag P} {u : Tag Q} (c : ¬ C) (h : Q) : iK (decide C) P Q s u := iK_d (fun n => absurd n c) fun _ => h
/-- an if behind which the slots keep I -/
theorem iK_J {b : Bool} {t u : DS} {X : XF} {N : DN} {ρ : List Sl} {s : Tag (t X N ρ)} {v : Tag (u X N ρ)} (I : List Sl → Prop) (h1 : ∀ c : List Sl → Prop, (∀ ρ', I ρ' → c ρ') → b = true → t X ⟨c, N.rt, N.bk, N.ct⟩ ρ) (h2 : ∀ c : List Sl → Prop, (∀ ρ', I ρ' → c ρ') → b = false → u X ⟨c, N.rt, N.bk, N.ct⟩ ρ)
    (hc : ∀ ρ', I ρ' → N.nx ρ') : iK b (t X N ρ) (u X N ρ) s v := iK_b (h1 N.nx hc) (h2 N.nx hc)
section
variable {X : XF} {N : DN} {ρ : List Sl} {Q : D → Kd → List Sl → Prop} {i : Nat} {ta tb tc te : DE} {A B : DA} {c d : DT} {t u : DS}
theorem k0 (P : Prop) (t : Tag P) : kk P t = P := rfl
theorem k1 {α : Sort _} {β : Sort _} (f : α → β) (t : Tag f) (a : α) : kk f t a = f a := rfl
theorem k2 {α : Sort _} {β : Sort _} {γ : Sort _} (f : α → β → γ) (t : Tag f) (a : α) (b : β) : kk f t a b = f a b := rfl
theorem k3 {α : Sort _} {β : Sort _} {γ : Sort _} {δ : Sort _} (f : α → β → γ → δ) (t : Tag f) (a : α) (b : β) (c : γ) : kk f t a b c = f a b c := rfl
/-- a slot -/
def sl (ρ : List Sl) (i : Nat) : Sl := ρ.getD i .no
theorem sl_0 {s : Sl} {r : List Sl} : sl (s :: r) 0 = s := rfl
theorem sl_s {s : Sl} {r : List Sl} {i : Nat} : sl (s :: r) (i + 1) = sl r i := rfl
theorem sl_o {s : Sl} {r : List Sl} {i : Nat} [NeZero (OfNat.ofNat i : Nat)] : True := trivial
def vK (s : Sl) (i : Nat) (ρ : List Sl) (Q : D → Kd → List Sl → Prop) : Prop := match s with
  | .va d => Q d .sh ρ
  | .ow ds => Q (.lst ds) .sh (ρ.set i (.va (.lst ds)))
  | .no => False
def bK (s : Sl) (ρ : List Sl) (Q : D → Kd → List Sl → Prop) : Prop := match s with
  | .va d => Q d .sh ρ
  | .ow ds => Q (.lst ds) .bo ρ
  | .no => False
theorem vK_va {d : D} : vK (.va d) i ρ Q = Q d .sh ρ := rfl
theorem vK_ow {ds : List D} : vK (.ow ds) i ρ Q = Q (.lst ds) .sh (ρ.set i (.va (.lst ds))) := rfl
theorem bK_va {d : D} : bK (.va d) ρ Q = Q d .sh ρ := rfl
theorem bK_ow {ds : List D} : bK (.ow ds) ρ Q = Q (.lst ds) .bo ρ := rfl
theorem sl_eq : ρ[i]? = (if i < ρ.length then some (sl ρ i) else none) := by
  unfold sl
  rw [List.getD_eq_getElem?_getD]
  by_cases h : i < ρ.length
  · rw [if_pos h, List.getElem?_eq_getElem h]; rfl
  · rw [if_neg h, List.getElem?_eq_none (by omega)]
theorem dVar_ev : dVar i X ρ Q = vK (sl ρ i) i ρ Q := by
  unfold dVar vK
  rw [sl_eq]
  by_cases h : i < ρ.length
  · rw [if_pos h]; cases sl ρ i <;> rfl
  · have : sl ρ i = .no := by unfold sl; rw [List.getD_eq_getElem?_getD, List.getElem?_eq_none (by omega)]; rfl
    rw [if_neg h, this]
theorem dVarB_ev : dVarB i X ρ Q = bK (sl ρ i) ρ Q := by
  unfold dVarB bK
  rw [sl_eq]
  by_cases h : i < ρ.length
  · rw [if_pos h]; cases sl ρ i <;> rfl
  · have : sl ρ i = .no := by unfold sl; rw [List.getD_eq_getElem?_getD, List.getElem?_eq_none (by omega)]; rfl
    rw [if_neg h, this]
theorem dC_ev {z : D} : dC z X ρ Q = Q z .sh ρ := rfl
theorem dBin_ev {g : D → D → (D → Kd → Prop) → Prop} : dBin g ta tb X ρ Q = ta X ρ (kk fun d _ ρ1 => tb X ρ1 (kk fun e _ ρ2 => g d e (kk fun z κ => Q z κ ρ2))) := rfl
def tK (d : D) (Q : Bool → Prop) : Prop := match d with
  | .bl b => Q b
  | _ => False
theorem tK_bl {b : Bool} {R : Bool → Prop} : tK (.bl b) R = R b := rfl
theorem dTst_ev {R : Bool → List Sl → Prop} : dTst te X ρ R = te X ρ (kk fun d _ ρ1 => tK d (kk fun b => R b ρ1)) := rfl
theorem dAnd_ev {R : Bool → List Sl → Prop} : dAnd c d X ρ R = c X ρ (kk fun b ρ1 => iK b (d X ρ1 R) (R false ρ1)) := rfl
theorem dOr_ev {R : Bool → List Sl → Prop} : dOr c d X ρ R = c X ρ (kk fun b ρ1 => iK b (R true ρ1) (d X ρ1 R)) := rfl
theorem dNot_ev {R : Bool → List Sl → Prop} : dNot c X ρ R = c X ρ (kk fun b ρ1 => R (!b) ρ1) := rfl
theorem dAndV_ev : dAndV ta tb X ρ Q = ta X ρ (kk fun d _ ρ1 => tK d (kk fun b => iK b (tb X ρ1 Q) (Q (.bl false) .sh ρ1))) := by
  show ta X ρ _ = ta X ρ _
  congr 1
  funext d κ ρ1
  cases d with
  | bl b => cases b <;> rfl
  | _ => rfl
theorem dOrV_ev : dOrV ta tb X ρ Q = ta X ρ (kk fun d _ ρ1 => tK d (kk fun b => iK b (Q (.bl true) .sh ρ1) (tb X ρ1 Q))) := by
  show ta X ρ _ = ta X ρ _
  congr 1
  funext d κ ρ1
  cases d with
  | bl b => cases b <;> rfl
  | _ => rfl
theorem dNotV_ev : dNotV ta X ρ Q = ta X ρ (kk fun d _ ρ1 => tK d (kk fun b => Q (.bl (!b)) .sh ρ1)) := by
  show ta X ρ _ = ta X ρ _
  congr 1
theorem dIf_ev : dIf c ta tb X ρ Q = c X ρ (kk fun b ρ1 => iK b (ta X ρ1 Q) (tb X ρ1 Q)) := rfl
theorem dNext_ev : dNext X N ρ = N.nx ρ := rfl
theorem dSeq_ev : dSeq t u X N ρ = t X { N with nx := kk (u X N) } ρ := rfl
theorem dBreak_ev : dBreak X N ρ = N.bk ρ := rfl
theorem dCont_ev : dCont X N ρ = N.ct ρ := rfl
theorem dRet_ev : dRet te X N ρ = te X ρ (kk fun d κ _ => κ ≠ .bo ∧ N.rt d) := rfl
theorem dRetN_ev : dRetN X N ρ = N.rt .non := rfl
theorem dIfS_ev : dIfS c t u X N ρ = c X ρ (kk fun b ρ1 => iK b (t X N ρ1) (u X N ρ1)) := rfl
theorem dSet_ev : dSet i te X N ρ = te X ρ (kk fun d κ ρ1 => κ ≠ .bo ∧ i < ρ1.length ∧ N.nx (ρ1.set i (slOf d κ))) := rfl
theorem dDrop_ev : dDrop te X N ρ = te X ρ (kk fun _ _ ρ1 => N.nx ρ1) := rfl
theorem slOf_fr {ds : List D} : slOf (.lst ds) .fr = .ow ds := rfl
theorem slOf_sh {z : D} : slOf z .sh = .va z := by cases z <;> rfl
/-! operators by what they are given -/
section
variable {R : D → Kd → Prop} {j k : Int} {x y : Str} {ds es : List D} {b b' : Bool}
theorem gAdd_i : gAdd (.int j) (.int k) R = R (.int (j + k)) .sh := rfl
theorem gAdd_s : gAdd (.str x) (.str y) R = (x.length + y.length ≤ sizeLine ∧ R (.str (x ++ y)) .sh) := rfl
theorem gAdd_l : gAdd (.lst ds) (.lst es) R = (ds.length + es.length ≤ sizeLine ∧ R (.lst (ds ++ es)) .fr) := rfl
theorem gAdd_t : gAdd (.tup ds) (.tup es) R = (ds.length + es.length ≤ sizeLine ∧ R (.tup (ds ++ es)) .sh) := rfl
theorem num_i {C : Int → Int → Prop} {f : Int → Int → D} : numOp C f (.int j) (.int k) R = (C j k ∧ R (f j k) .sh) := rfl
theorem gEq_i : gEq (.int j) (.int k) R = R (.bl (decide (j = k))) .sh := rfl
theorem gEq_s : gEq (.str x) (.str y) R = R (.bl (decide (x = y))) .sh := rfl
theorem gEq_b : gEq (.bl b) (.bl b') R = R (.bl (decide (b = b'))) .sh := rfl
theorem gEq_sn : gEq (.str x) .non R = R (.bl false) .sh := rfl
theorem gEq_ns : gEq .non (.str x) R = R (.bl false) .sh := rfl
theorem gEq_in : gEq (.int j) .non R = R (.bl false) .sh := rfl
theorem gEq_ni : gEq .non (.int j) R = R (.bl false) .sh := rfl
theorem gEq_nn : gEq .non .non R = R (.bl true) .sh := rfl
theorem gEq_is : gEq (.int j) (.str x) R = R (.bl false) .sh := rfl
theorem gEq_si : gEq (.str x) (.int j) R = R (.bl false) .sh := rfl
theorem gNe_i : gNe (.int j) (.int k) R = R (.bl (!decide (j = k))) .sh := rfl
theorem gNe_s : gNe (.str x) (.str y) R = R (.bl (!decide (x = y))) .sh := rfl
theorem gNe_b : gNe (.bl b) (.bl b') R = R (.bl (!decide (b = b'))) .sh := rfl
theorem gNe_sn : gNe (.str x) .non R = R (.bl true) .sh := rfl
theorem gNe_ns : gNe .non (.str x) R = R (.bl true) .sh := rfl
theorem gNe_in : gNe (.int j) .non R = R (.bl true) .sh := rfl
theorem gNe_ni : gNe .non (.int j) R = R (.bl true) .sh := rfl
theorem gNe_nn : gNe .non .non R = R (.bl false) .sh := rfl
theorem gEq_l : gEq (.lst ds) (.lst es) R = (shp (.lst ds) = true ∧ shp (.lst es) = true ∧ R (.bl (eqD (.lst ds) (.lst es))) .sh) := rfl
theorem gEq_t : gEq (.tup ds) (.tup es) R = (shp (.tup ds) = true ∧ shp (.tup es) = true ∧ R (.bl (eqD (.tup ds) (.tup es))) .sh) := rfl
theorem gNe_l : gNe (.lst ds) (.lst es) R = (shp (.lst ds) = true ∧ shp (.lst es) = true ∧ R (.bl (!eqD (.lst ds) (.lst es))) .sh) := rfl
theorem gNe_t : gNe (.tup ds) (.tup es) R = (shp (.tup ds) = true ∧ shp (.tup es) = true ∧ R (.bl (!eqD (.tup ds) (.tup es))) .sh) := rfl
theorem gIsN_n : gIsN .non .non R = R (.bl true) .sh := rfl
theorem gIsN_s : gIsN (.str x) .non R = R (.bl false) .sh := rfl
theorem gIsN_i : gIsN (.int j) .non R = R (.bl false) .sh := rfl
theorem gIsN_l : gIsN (.lst ds) .non R = R (.bl false) .sh := rfl
theorem gIsN_t : gIsN (.tup ds) .non R = R (.bl false) .sh := rfl
theorem gNotN_n : gNotN .non .non R = R (.bl false) .sh := rfl
theorem gNotN_s : gNotN (.str x) .non R = R (.bl true) .sh := rfl
theorem gNotN_i : gNotN (.int j) .non R = R (.bl true) .sh := rfl
theorem gNotN_l : gNotN (.lst ds) .non R = R (.bl true) .sh := rfl
theorem gNotN_t : gNotN (.tup ds) .non R = R (.bl true) .sh := rfl
theorem gIn_l {z : D} : gIn z (.lst ds) R = (flD z = true ∧ ds.all flD = true ∧ R (.bl (hasD z ds)) .sh) := rfl
theorem gIn_t {z : D} : gIn z (.tup ds) R = (flD z = true ∧ ds.all flD = true ∧ R (.bl (hasD z ds)) .sh) := rfl
theorem gNin_l {z : D} : gNin z (.lst ds) R = (flD z = true ∧ ds.all flD = true ∧ R (.bl (!hasD z ds)) .sh) := rfl
theorem gNin_t {z : D} : gNin z (.tup ds) R = (flD z = true ∧ ds.all flD = true ∧ R (.bl (!hasD z ds)) .sh) := rfl
theorem flD_s : flD (.str x) = true := rfl
theorem flD_i : flD (.int j) = true := rfl
theorem flD_n : flD .non = true := rfl
theorem gIx_l : gIx (.lst ds) (.int j) R = oK (atI ds j) (kk fun z => R z .sh) := rfl
theorem gIx_t : gIx (.tup ds) (.int j) R = oK (atI ds j) (kk fun z => R z .sh) := rfl
theorem gIx_s : gIx (.str x) (.int j) R = (x.length ≤ sizeLine ∧ oK (atI x.cps.toList j) (kk fun c => R (.str ⟨#[c]⟩) .sh)) := rfl
theorem at0 {α : Type} {a : α} {r : List α} : atI (a :: r) 0 = some a := atI_nat (j := 0) rfl
theorem at1 {α : Type} {a b : α} {r : List α} : atI (a :: b :: r) 1 = some b := atI_nat (j := 1) rfl
theorem at2 {α : Type} {a b c : α} {r : List α} : atI (a :: b :: c :: r) 2 = some c := atI_nat (j := 2) rfl
theorem at3 {α : Type} {a b c d : α} {r : List α} : atI (a :: b :: c :: d :: r) 3 = some d := atI_nat (j := 3) rfl
theorem at4 {α : Type} {a b c d e : α} {r : List α} : atI (a :: b :: c :: d :: e :: r) 4 = some e := atI_nat (j := 4) rfl
theorem at5 {α : Type} {a b c d e f : α} {r : List α} : atI (a :: b :: c :: d :: e :: f :: r) 5 = some f := atI_nat (j := 5) rfl
end
section
variable {R : Option Int → List Sl → Prop} {L H : DO} {j : Int}
theorem dNoPart_ev : dNoPart X ρ R = R none ρ := rfl
def pK (d : D) (Q : Int → Prop) : Prop := match d with
  | .int i => Q i
  | _ => False
theorem pK_i {f : Int → Prop} : pK (.int j) f = f j := rfl
theorem dPart_ev : dPart te X ρ R = te X ρ (kk fun d _ ρ1 => pK d (kk fun n => R (some n) ρ1)) := rfl
def sK (d : D) (lo hi : Option Int) (Q : D → Kd → Prop) : Prop := match d with
  | .lst ds => Q (.lst (cutD ds lo hi)) .fr
  | .scr ns => Q (.lst (cutD (ns.map .int) lo hi)) .fr
  | .tup ds => Q (.tup (cutD ds lo hi)) .sh
  | .str z => z.length ≤ sizeLine ∧ Q (.str (cutS z lo hi)) .sh
  | _ => False
theorem sK_l {ds : List D} {lo hi : Option Int} {f : D → Kd → Prop} : sK (.lst ds) lo hi f = f (.lst (cutD ds lo hi)) .fr := rfl
theorem sK_r {ns : List Int} {lo hi : Option Int} {f : D → Kd → Prop} : sK (.scr ns) lo hi f = f (.lst (cutD (ns.map .int) lo hi)) .fr := rfl
theorem sK_t {ds : List D} {lo hi : Option Int} {f : D → Kd → Prop} : sK (.tup ds) lo hi f = f (.tup (cutD ds lo hi)) .sh := rfl
theorem sK_s {z : Str} {lo hi : Option Int} {f : D → Kd → Prop} : sK (.str z) lo hi f = (z.length ≤ sizeLine ∧ f (.str (cutS z lo hi)) .sh) := rfl
theorem dSl_ev : dSl te L H X ρ Q = te X ρ (kk fun d _ ρ1 => L X ρ1 (kk fun lo ρ2 => H X ρ2 (kk fun hi ρ3 => sK d lo hi (kk fun z κ => Q z κ ρ3)))) := by
  show te X ρ _ = te X ρ _
  congr 1
end
section
variable {R : List D → List Sl → Prop}
theorem dNil_ev : dNil X ρ R = R [] ρ := rfl
theorem dCons_ev : dCons te A X ρ R = te X ρ (kk fun d κ ρ1 => κ ≠ .bo ∧ A X ρ1 (kk fun ds ρ2 => R (d :: ds) ρ2)) := rfl
theorem dConsW_ev : dConsW te A X ρ R = te X ρ (kk fun d _ ρ1 => A X ρ1 (kk fun ds ρ2 => R (d :: ds) ρ2)) := rfl
theorem itsD_l {ds : List D} : itsD (.lst ds) = some ds := rfl
theorem itsD_t {ds : List D} : itsD (.tup ds) = some ds := rfl
theorem dStar_ev : dStar te A X ρ R = te X ρ (kk fun d _ ρ1 => oK (itsD d) (kk fun xs => A X ρ1 (kk fun ds ρ2 => R (xs ++ ds) ρ2))) := rfl
end
theorem dLst_ev : dLst A X ρ Q = A X ρ (kk fun ds ρ1 => ds.length ≤ sizeLine ∧ Q (.lst ds) .fr ρ1) := rfl
theorem dTup_ev : dTup A X ρ Q = A X ρ (kk fun ds ρ1 => ds.length ≤ sizeLine ∧ Q (.tup ds) .sh ρ1) := rfl
theorem dBlt_ev {g : List D → (D → Kd → Prop) → Prop} : dBlt g A X ρ Q = A X ρ (kk fun ds ρ1 => g ds (kk fun z κ => Q z κ ρ1)) := rfl
section
variable {R : D → Kd → Prop} {j k : Int} {x y : Str} {ds es : List D} {b : Bool}
theorem gLen_l : gLen [.lst ds] R = R (.int (ds.length : Nat)) .sh := rfl
theorem gLen_t : gLen [.tup ds] R = R (.int (ds.length : Nat)) .sh := rfl
theorem gLen_r {ns : List Int} : gLen [.scr ns] R = R (.int (ns.length : Nat)) .sh := rfl
theorem gLen_s : gLen [.str x] R = (x.length ≤ sizeLine ∧ R (.int (x.length : Nat)) .sh) := rfl
theorem gInt_i : gInt [.int j] R = R (.int j) .sh := rfl
theorem gInt_b : gInt [.bl b] R = R (.int (if b then 1 else 0)) .sh := rfl
theorem gAbs_i : gAbs [.int j] R = R (.int (if j < 0 then -j else j)) .sh := rfl
theorem gMax_i : gMax [.int j, .int k] R = R (.int (if k > j then k else j)) .sh := rfl
theorem gMin_i : gMin [.int j, .int k] R = R (.int (if k < j then k else j)) .sh := rfl
theorem gTuple_l : gTuple [.lst ds] R = R (.tup ds) .sh := rfl
theorem gTuple_t : gTuple [.tup ds] R = R (.tup ds) .sh := rfl
theorem gList_l : gList [.lst ds] R = R (.lst ds) .fr := rfl
theorem gList_t : gList [.tup ds] R = R (.lst ds) .fr := rfl
end
def oW (s : Sl) (Q : List D → Prop) : Prop := match s with
  | .ow ds => Q ds
  | _ => False
theorem oW_ow {ds : List D} {f : List D → Prop} : oW (.ow ds) f = f ds := rfl
theorem owAt_ev {f : List D → Prop} : owAt ρ i f = oW (sl ρ i) f := by
  unfold owAt oW
  rw [sl_eq]
  by_cases h : i < ρ.length
  · rw [if_pos h]; cases sl ρ i <;> rfl
  · have : sl ρ i = .no := by unfold sl; rw [List.getD_eq_getElem?_getD, List.getElem?_eq_none (by omega)]; rfl
    rw [if_neg h, this]
theorem dApp_ev : dApp i te X N ρ = oW (sl ρ i) (kk fun _ => te X ρ (kk fun d κ ρ1 => κ ≠ .bo ∧ oW (sl ρ1 i) (kk fun ds => ds.length < sizeLine ∧ N.nx (ρ1.set i (.ow (ds ++ [d])))))) := by
  unfold dApp
  rw [owAt_ev]
  simp only [owAt_ev]
  rfl
/-! what is walked -/
section
variable {R : List D → Bool → List Sl → Prop}
def wK (d : D) (κ : Kd) (Q : List D → Bool → Prop) : Prop := match d with
  | .lst ds => Q ds (match κ with | .bo => true | _ => false)
  | .tup ds => Q ds false
  | .scr ns => Q (ns.map .int) false
  | .str z => Q (chD z) false
  | _ => False
variable {f : List D → Bool → Prop} {ds : List D} {κ : Kd}
theorem wK_sh : wK (.lst ds) .sh f = f ds false := rfl
theorem wK_fr : wK (.lst ds) .fr f = f ds false := rfl
theorem wK_bo : wK (.lst ds) .bo f = f ds true := rfl
theorem wK_t : wK (.tup ds) κ f = f ds false := rfl
theorem wK_r {ns : List Int} : wK (.scr ns) κ f = f (ns.map .int) false := rfl
theorem wK_s {z : Str} : wK (.str z) κ f = f (chD z) false := rfl
theorem diVal_ev : diVal te X ρ R = te X ρ (kk fun d κ ρ1 => wK d κ (kk fun ds l => R ds l ρ1)) := by
  show te X ρ _ = te X ρ _
  congr 1
def rK (ds : List D) (Q : List D → Prop) : Prop := match ds with
  | [.int n] => -(2 ^ 62) ≤ n ∧ n < 2 ^ 62 ∧ Q (rngD n.toNat)
  | _ => False
theorem rK_i {n : Int} {f : List D → Prop} : rK [.int n] f = (-(2 ^ 62) ≤ n ∧ n < 2 ^ 62 ∧ f (rngD n.toNat)) := rfl
theorem diRng_ev : diRng A X ρ R = A X ρ (kk fun ds ρ1 => rK ds (kk fun xs => R xs false ρ1)) := by
  show A X ρ _ = A X ρ _
  congr 1
def eK (d : D) (κ : Kd) (Q : List D → Bool → Prop) : Prop := match d with
  | .lst ds => Q (enD ds) (match κ with | .bo => true | _ => false)
  | _ => False
theorem eK_sh : eK (.lst ds) .sh f = f (enD ds) false := rfl
theorem eK_fr : eK (.lst ds) .fr f = f (enD ds) false := rfl
theorem eK_bo : eK (.lst ds) .bo f = f (enD ds) true := rfl
theorem diEnum_ev : diEnum te X ρ R = te X ρ (kk fun d κ ρ1 => eK d κ (kk fun ds l => R ds l ρ1)) := by
  show te X ρ _ = te X ρ _
  congr 1
end
/-! targets -/
section
variable {R : List Sl → Prop} {g : DG} {gs : List D → List Sl → (List Sl → Prop) → Prop} {z : D} {ds : List D} {n : Nat}
theorem dgName_ev : dgName i z ρ R = R (ρ.set i (.va z)) := rfl
theorem dgNil_ev : dgNil [] ρ R = R ρ := rfl
theorem dgCons_ev : dgCons g gs (z :: ds) ρ R = g z ρ (kk fun ρ1 => gs ds ρ1 R) := rfl
theorem dgTup_ev : dgTup n gs (.tup ds) ρ R = (ds.length = n ∧ gs ds ρ R) := rfl
theorem dAsg_ev : dAsg te g X N ρ = te X ρ (kk fun d κ ρ1 => κ ≠ .bo ∧ g d ρ1 N.nx) := rfl
end
/-! loops -/
def forK (ds : List D) (g : DG) (tb : DS) (X : XF) (N : DN) (ρ : List Sl) : Prop := ∃ I : Nat → List Sl → Prop, I 0 ρ ∧
  (∀ k d ρ', ds[k]? = some d → I k ρ' → g d ρ' fun ρ2 => tb X { nx := I (k + 1), ct := I (k + 1), bk := N.nx, rt := N.rt } ρ2) ∧ ∀ ρ', I ds.length ρ' → N.nx ρ'
theorem dFor_ev {ti : DI} {g : DG} : dFor ti g t X N ρ = ti X ρ (kk fun ds lent ρ1 => lent = false ∧ forK ds g t X N ρ1) := rfl
theorem forK.mk {ds : List D} {g : DG} (I : Nat → List Sl → Prop) (h0 : I 0 ρ) (hs : ∀ k d ρ', ds[k]? = some d → I k ρ' → g d ρ' (kk fun ρ2 => t X { nx := I (k + 1), ct := I (k + 1), bk := N.nx, rt := N.rt } ρ2)) (hd : ∀ ρ', I ds.length ρ' → N.nx ρ') : forK ds g t X N ρ := ⟨I, h0, hs, hd⟩
/-- over what a plain list stands for -/
theorem forK.map {α : Type} {f : α → D} {xs : List α} {g : DG} (I : Nat → List Sl → Prop) (h0 : I 0 ρ) (hs : ∀ k x ρ', xs[k]? = some x → k < xs.length → I k ρ' → g (f x) ρ' (kk fun ρ2 => t X { nx := I (k + 1), ct := I (k + 1), bk := N.nx, rt := N.rt } ρ2)) (hd : ∀ ρ', I xs.length ρ' → N.nx ρ') :
    forK (xs.map f) g t X N ρ := ⟨I, h0, fun k d ρ' hk i => by
  obtain ⟨x, hx, rfl⟩ := map_get hk
  exact hs k x ρ' hx (List.getElem?_eq_some_iff.mp hx).1 i, by rw [List.length_map]; exact hd⟩
theorem forK.rng {n : Nat} {g : DG} (I : Nat → List Sl → Prop) (h0 : I 0 ρ) (hs : ∀ k ρ', k < n → I k ρ' → g (.int (k : Int)) ρ' (kk fun ρ2 => t X { nx := I (k + 1), ct := I (k + 1), bk := N.nx, rt := N.rt } ρ2)) (hd : ∀ ρ', I n ρ' → N.nx ρ') :
    forK (rngD n) g t X N ρ := ⟨I, h0, fun k d ρ' hk i => by
  obtain ⟨lt, rfl⟩ := rng_get hk
  exact hs k ρ' lt i, by rw [rng_len]; exact hd⟩
def whileK (c : DT) (tb : DS) (X : XF) (N : DN) (ρ : List Sl) : Prop := dWhile c tb X N ρ
theorem dWhile_ev : dWhile c t X N ρ = whileK c t X N ρ := rfl
theorem whileK.mk (I : Nat → List Sl → Prop) (m : Nat) (h0 : I m ρ) (hs : ∀ m ρ1, I m ρ1 → c X ρ1 (kk fun b ρ2 => iK b (t X { nx := fun ρ3 => ∃ m', m' < m ∧ I m' ρ3, ct := fun ρ3 => ∃ m', m' < m ∧ I m' ρ3, bk := N.nx, rt := N.rt } ρ2) (N.nx ρ2))) : whileK c t X N ρ := ⟨I, ⟨m, h0⟩, hs⟩
/-! comprehensions, all, any -/
def lcK (ds : List D) (i : Nat) (tt : DT) (te : DE) (ρ : List Sl) (Q : List D → Prop) : Prop := ds.length ≤ sizeLine ∧ ∃ f : D → Option D,
  (∀ d ∈ ds, tt X0 (ρ.set i (.va d)) fun b ρ2 => if b = true then te X0 ρ2 fun z κ ρ3 => κ ≠ .bo ∧ ρ3 = ρ.set i (.va d) ∧ f d = some z else f d = none) ∧ Q (ds.filterMap f)
theorem dLc_ev {ti : DI} : dLc ti i c te X ρ Q = ti X ρ (kk fun ds _ ρ1 => lcK ds i c te ρ1 (kk fun zs => Q (.lst zs) .fr ρ1)) := rfl
theorem filterMap_if {α : Type} (f : α → D) (q : α → Bool) : ∀ xs : List α, xs.filterMap (fun x => if q x = true then some (f x) else none) = (xs.filter q).map f
  | [] => rfl
  | x :: r => by
    rw [List.filterMap_cons, List.filter_cons]
    cases h : q x with
    | true => rw [if_pos rfl, if_pos rfl, List.map_cons, filterMap_if f q r]
    | false => rw [if_neg Bool.false_ne_true, if_neg Bool.false_ne_true, filterMap_if f q r]
/-- over what a plain list stands for, where different things stand for different data -/
theorem lcK.map {α : Type} {f : α → D} {xs : List α} (inj : ∀ x y, f x = f y → x = y) (q : α → Bool) (h : α → D) {Q : List D → Prop} (hz : xs.length ≤ sizeLine)
    (hs : ∀ x ∈ xs, ∀ o : Option D, o = (if q x = true then some (h x) else none) → c X0 (ρ.set i (.va (f x))) (kk fun b ρ2 => iK b (te X0 ρ2 (kk fun z κ ρ3 => κ ≠ .bo ∧ ρ3 = ρ.set i (.va (f x)) ∧ o = some z)) (o = none))) (hq : Q ((xs.filter q).map h)) : lcK (xs.map f) i c te ρ Q := by
  classical
  have sel : ∀ d, ∃ o : Option D, ∀ x, d = f x → o = if q x = true then some (h x) else none := fun d => by
    by_cases e : ∃ x, d = f x
    · obtain ⟨x, rfl⟩ := e
      exact ⟨if q x = true then some (h x) else none, fun y hy => by rw [inj _ _ hy]⟩
    · exact ⟨none, fun x hx => absurd ⟨x, hx⟩ e⟩
  refine ⟨by rw [List.length_map]; exact hz, fun d => Classical.choose (sel d), fun d hd => ?_, ?_⟩
  · obtain ⟨x, hx, rfl⟩ := List.mem_map.mp hd
    exact hs x hx _ (Classical.choose_spec (sel (f x)) x rfl)
  · have e : (xs.map f).filterMap (fun d => Classical.choose (sel d)) = (xs.filter q).map h := by
      rw [List.filterMap_map, ← filterMap_if]
      congr 1
      funext x
      exact Classical.choose_spec (sel (f x)) x rfl
    rw [e]
    exact hq
/-- without a test -/
theorem lcK.all {α : Type} {f : α → D} {xs : List α} (inj : ∀ x y, f x = f y → x = y) (h : α → D) {Q : List D → Prop} (hz : xs.length ≤ sizeLine)
    (hs : ∀ x ∈ xs, te X0 (ρ.set i (.va (f x))) (kk fun z κ ρ3 => κ ≠ .bo ∧ ρ3 = ρ.set i (.va (f x)) ∧ z = h x)) (hq : Q (xs.map h)) : lcK (xs.map f) i dYes te ρ Q := by
  refine lcK.map inj (fun _ => true) h hz (fun x hx o ho => ?_) (by rw [List.filter_eq_self.mpr (fun _ _ => rfl)]; exact hq)
  rw [ho, if_pos rfl]
  show iK true (te X0 (ρ.set i (Sl.va (f x))) (kk fun z κ ρ3 => κ ≠ Kd.bo ∧ ρ3 = ρ.set i (Sl.va (f x)) ∧ some (h x) = some z)) (some (h x) = none)
  rw [iK_true]
  have e : (kk fun z κ ρ3 => κ ≠ Kd.bo ∧ ρ3 = ρ.set i (Sl.va (f x)) ∧ some (h x) = some z) = (kk fun z κ ρ3 => κ ≠ Kd.bo ∧ ρ3 = ρ.set i (Sl.va (f x)) ∧ z = h x) := by
    unfold kk
    funext z κ ρ3
    rw [Option.some.injEq, eq_comm (a := h x)]
  rw [e]
  exact hs x hx
theorem inj_str (x y : Str) (h : D.str x = D.str y) : x = y := by cases h; rfl
theorem inj_int (x y : Int) (h : D.int x = D.int y) : x = y := by cases h; rfl
theorem lcK.rng {n : Nat} (h : Nat → D) {Q : List D → Prop} (hz : n ≤ sizeLine) (hs : ∀ k, k < n → te X0 (ρ.set i (.va (.int (k : Int)))) (kk fun z κ ρ3 => κ ≠ .bo ∧ ρ3 = ρ.set i (.va (.int (k : Int))) ∧ z = h k)) (hq : Q ((List.range n).map h)) : lcK (rngD n) i dYes te ρ Q :=
  lcK.all (f := fun k : Nat => D.int (k : Int)) (fun x y e => by injection e with e; omega) h (by rw [List.length_range]; exact hz) (fun k hk => hs k (List.mem_range.mp hk)) hq
def genK (b : Bool) (ds : List D) (i : Nat) (te : DE) (ρ : List Sl) (Q : D → Prop) : Prop := ∃ f : D → Bool, (∀ d ∈ ds, te X0 (ρ.set i (.va d)) fun z _ ρ3 => ρ3 = ρ.set i (.va d) ∧ z = .bl (f d)) ∧ Q (.bl (if b then ds.any f else ds.all f))
theorem dGen_ev {b : Bool} {ti : DI} : dGen b ti i te X ρ Q = ti X ρ (kk fun ds _ ρ1 => genK b ds i te ρ1 (kk fun z => Q z .sh ρ1)) := rfl
theorem genK.map {α : Type} {f : α → D} {xs : List α} (inj : ∀ x y, f x = f y → x = y) (b : Bool) (q : α → Bool) {Q : D → Prop} (hs : ∀ x ∈ xs, te X0 (ρ.set i (.va (f x))) (kk fun z _ ρ3 => ρ3 = ρ.set i (.va (f x)) ∧ z = .bl (q x))) (hq : Q (.bl (if b then xs.any q else xs.all q))) : genK b (xs.map f) i te ρ Q := by
  classical
  have sel : ∀ d, ∃ o : Bool, ∀ x, d = f x → o = q x := fun d => by
    by_cases e : ∃ x, d = f x
    · obtain ⟨x, rfl⟩ := e
      exact ⟨q x, fun y hy => by rw [inj _ _ hy]⟩
    · exact ⟨false, fun x hx => absurd ⟨x, hx⟩ e⟩
  refine ⟨fun d => Classical.choose (sel d), fun d hd => ?_, ?_⟩
  · obtain ⟨x, hx, rfl⟩ := List.mem_map.mp hd
    have e := Classical.choose_spec (sel (f x)) x rfl
    show te X0 _ fun z _ ρ3 => ρ3 = ρ.set i (.va (f x)) ∧ z = .bl (Classical.choose (sel (f x)))
    rw [e]
    exact hs x hx
  · have e : (fun x => Classical.choose (sel (f x))) = q := funext fun x => Classical.choose_spec (sel (f x)) x rfl
    have e2 : (xs.map f).any (fun d => Classical.choose (sel d)) = xs.any q := by rw [List.any_map]; exact congrArg xs.any e
    have e3 : (xs.map f).all (fun d => Classical.choose (sel d)) = xs.all q := by rw [List.all_map]; exact congrArg xs.all e
    show Q (.bl (if b = true then (xs.map f).any _ else (xs.map f).all _))
    rw [e2, e3]
    exact hq
/-! the program's defs, fields -/
theorem dCall_ev {n : Nat} {φ : Ph} : dCall n φ A X ρ Q = A X ρ (kk fun ds ρ1 => ds.length = n ∧ φ ds (kk fun d => Q d .sh ρ1) (kk fun x => X x ρ1)) := rfl
def mK (C m : Str) (d : D) (κ : Kd) (Q : Prop) : Prop := κ = .sh ∧ match d with
  | .ins C' ns xs => C' = C ∧ m ∉ ns ∧ Q
  | _ => False
theorem mK_i {C C' m : Str} {ns : List Str} {xs : List D} {P : Prop} : mK C m (.ins C' ns xs) .sh P = (C' = C ∧ m ∉ ns ∧ P) := by unfold mK; simp
theorem dMeth_ev {C m : Str} {n : Nat} {φ : Ph} : dMeth C m n φ te A X ρ Q = te X ρ (kk fun d κ ρ1 => mK C m d κ (kk (A X ρ1 (kk fun ds ρ2 => ds.length = n ∧ φ (d :: ds) (kk fun z => Q z .sh ρ2) (kk fun x => X x ρ2))))) := by
  show te X ρ _ = te X ρ _
  congr 1
  funext d κ ρ1
  cases d <;> rfl
def fK (C f : Str) (d : D) (κ : Kd) (Q : D → Prop) : Prop := κ = .sh ∧ match d with
  | .ins C' ns xs => C' = C ∧ ns.length = xs.length ∧ oK ((ns.zip xs).lookup f) Q
  | _ => False
theorem fK_i {C C' f : Str} {ns : List Str} {xs : List D} {R : D → Prop} : fK C f (.ins C' ns xs) .sh R = (C' = C ∧ ns.length = xs.length ∧ oK ((ns.zip xs).lookup f) R) := by unfold fK; simp
theorem dFld_ev {C f : Str} : dFld C f te X ρ Q = te X ρ (kk fun d κ ρ1 => fK C f d κ (kk fun z => Q z .sh ρ1)) := by
  show te X ρ _ = te X ρ _
  congr 1
def nK (d : D) (Q : Int → Prop) : Prop := match d with
  | .int i => Q i
  | _ => False
theorem nK_i {j : Int} {f : Int → Prop} : nK (.int j) f = f j := rfl
theorem dNeg_ev : dNeg te X ρ Q = te X ρ (kk fun d _ ρ1 => nK d (kk fun n => Q (.int (-n)) .sh ρ1)) := by
  show te X ρ _ = te X ρ _
  congr 1
theorem dYes_ev {R : Bool → List Sl → Prop} : dYes X ρ R = R true ρ := rfl
end
end DL

-- part DL8
set_option Elab.async false
set_option linter.all false
set_option maxRecDepth 100000
set_option maxHeartbeats 2000000
/-! a store into a list of one's own -/
namespace DL
open PySem PySem.Spec PyProof.Rows L2 GxR GS GA GD
theorem RpL.set {K : PySem.W.Frag} {H : Hp} {A : AP} {d : D} {v : V} (hv : Rp K H A d v) : ∀ {ds : List D} {vs : List V} (j : Nat), RpL K H A ds vs → RpL K H A (ds.set j d) (vs.set j v)
  | [], _, j, h => by rw [h.unnil]; exact RpL.nil
  | e :: r, _, 0, h => by
    obtain ⟨w, t, rfl, h1, h2⟩ := h.uncons
    exact RpL.cons hv h2
  | e :: r, _, j + 1, h => by
    obtain ⟨w, t, rfl, h1, h2⟩ := h.uncons
    exact RpL.cons h1 (RpL.set hv j h2)
/-- xs[k] = e, xs a list of one's own, k written -/
def dStI (i : Nat) (k : Int) (te : DE) : DS := fun X N ρ => te X ρ fun d κ ρ1 => κ ≠ .bo ∧ owAt ρ1 i fun ds => ∃ j, ixN ds.length k = some j ∧ N.nx (ρ1.set i (.ow (ds.set j d)))
theorem dStI_ev {i : Nat} {k : Int} {te : DE} {X : XF} {N : DN} {ρ : List Sl} : dStI i k te X N ρ = te X ρ (kk fun d κ ρ1 => κ ≠ .bo ∧ owAt ρ1 i (kk fun ds => ∃ j, ixN ds.length k = some j ∧ N.nx (ρ1.set i (.ow (ds.set j d))))) := rfl
section
variable {X : Cx} {Ts : AP} {W : WX} {e : Expr} {te : DE} {i : Nat} {k : Int} {x : Str} {iq : Nat} {p ip sp pos : Pos}
theorem ds_stI (hN : X.N[i]? = some x) (hv : Vis X.env.scope x) (he : PE X e (upE X.K Ts W te)) (hd : (x == ("__debug__" : Str)) = false := by decide) (hcd : (x == ("__classdict__" : Str)) = false := by decide)
    (hs : swapsWithSole [.Subscript (.Name x p) (.Constant (.int k) iq ip) sp] e pos.line X.env = pure false := by rfl) (hw : swappedStores [.Subscript (.Name x p) (.Constant (.int k) iq ip) sp] e X.env = pure none := by rfl)
    (h1 : (assignEach [.Subscript (.Name x p) (.Constant (.int k) iq ip) sp] X.env).map (·.2) = [assign (.Subscript (.Name x p) (.Constant (.int k) iq ip) sp) X.env] := by rfl) :
    PS X (.Assign [.Subscript (.Name x p) (.Constant (.int k) iq ip) sp] e pos) (upS X.K Ts W (dStI i k te)) := by
  refine (ps_asg he (pg_sub (pe_var hN hv hd hcd) pe_int set_list) hs hw h1).imp fun E σ H h => ?_
  obtain ⟨A, O, ρ, Xf, N, m, h, c⟩ := h
  refine ⟨A, O, ρ, Xf, _, m, h, fun d κ ρ1 v H1 A1 O1 q s1 t1 m1 r1 => ?_, fun x ρ' cls od H' A' O' => c.x x ρ' cls od σ H' A' O'⟩
  obtain ⟨nb, q⟩ := q
  obtain ⟨ds, e1, j, hj, q⟩ := q.get
  obtain ⟨a, vs, g1, g2, g3, g4⟩ := m1.ow i ds e1
  obtain ⟨m2, t2⟩ := m1.put (es := ds.set j d) (vs := vs.set j v) e1 g1 g3 g2 (g4.set (r1.rp nb) j)
  exact ⟨_, g1, a, vs, k, j, rfl, rfl, g3, by rw [← g4.len]; exact hj, c.nx _ σ _ _ _ q (t1.trans t2 m.trk) m2⟩
end
/-! ### statement by statement -/
def kS {α : Sort _} (a : α) (_ : Tag a := ⟨⟩) : α := a
theorem kS_e {β : Sort _} (f : List Sl → β) (t : Tag f) (a : List Sl) : kS f t a = f a := rfl
section
variable {X : XF} {N : DN} {ρ : List Sl} {t u r : DS} {c : DT}
theorem dSeq_st : dSeq t u X N ρ = t X { N with nx := kS (u X N) } ρ := rfl
/-- an if with truth B behind which the slots keep I -/
theorem ifJ (B : Bool) (I : List Sl → Prop) {D : DN} (hc : ∀ R : Bool → List Sl → Prop, R B ρ → c X ρ R) (h1 : ∀ k : List Sl → Prop, (∀ ρ', I ρ' → k ρ') → B = true → t X ⟨k, D.rt, D.bk, D.ct⟩ ρ) (h2 : ∀ k : List Sl → Prop, (∀ ρ', I ρ' → k ρ') → B = false → u X ⟨k, D.rt, D.bk, D.ct⟩ ρ)
    (hn : ∀ ρ', I ρ' → D.nx ρ') : dIfS c t u X D ρ := by
  refine hc _ ?_
  cases B with
  | true => exact h1 D.nx hn rfl
  | false => exact h2 D.nx hn rfl
end
end DL

-- part DL9
set_option Elab.async false
set_option linter.all false
set_option maxRecDepth 100000
set_option maxHeartbeats 2000000
/-! isinstance of a built-in class; properties; exceptions with one field -/
namespace DL
open PySem PySem.Spec PyProof.Rows L2 GxR GS GA GD
/-! ### isinstance(x, T) -/
def tyD : D → Option String
  | .non => some "NoneType" | .bl _ => some "bool" | .int _ => some "int" | .str _ => some "str"
  | .lst _ => some "list" | .tup _ => some "tuple" | .scr _ => some "list" | .dct .. => some "dict" | .ins .. => none | .xc .. => none
def isD (T : String) (d : D) : Option Bool := (tyD d).bind fun t => kitB t T
theorem tyX_sqt {K : PySem.W.Frag} {H : Hp} {a : Addr} {vs : List V} (h : SqT K H a vs) : TyX K H (.ref a) (.type "tuple") := by
  rcases h with (h | ⟨o, h⟩) | ⟨o, its, n, h, e, _⟩
  · exact .base (.tup h)
  · exact .fTuple h
  · exact .kTuple h e
theorem tyX_sql {K : PySem.W.Frag} {H : Hp} {a : Addr} {vs : List V} (h : SqL K H a vs) : TyX K H (.ref a) (.type "list") := by
  rcases h with (h | ⟨o, h⟩) | ⟨o, its, n, h, e, _⟩
  · exact .base (.lst h)
  · exact .base (.frz h)
  · exact .kList h e
theorem tyX_of {K : PySem.W.Frag} {H : Hp} {A : AP} {d : D} {v : V} {t : String} (e : tyD d = some t) (h : Wk K H A d v) : TyX K H v (.type t) := by
  cases d with
  | non => cases e; rw [h.non]; exact .base .non
  | bl b => cases e; rw [h.bl]; exact .base (.bl b)
  | int i => cases e; rw [h.int]; exact .base (.int i)
  | str s => cases e; rw [h.str]; exact .base (.str s)
  | lst xs => cases e; obtain ⟨a, vs, rfl, h1, _⟩ := h.lst; exact .base (.lst h1)
  | tup xs => cases e; obtain ⟨a, vs, rfl, h1, _⟩ := h.tup; exact tyX_sqt h1
  | scr ns => cases e; obtain ⟨a, rfl, h1⟩ := h.scr; exact tyX_sql h1.sq
  | dct ks xs => cases e; have h : Rp K H A (.dct ks xs) v := h; unfold Rp at h; obtain ⟨a, vs, rfl, h1, _⟩ := h; exact .base (.dK h1)
  | ins C ns xs => cases e
  | xc a dd f z => cases e
def dIsi (T : String) (te : DE) : DE := fun X ρ Q => te X ρ fun d _ ρ1 => oK (isD T d) fun b => Q (.bl b) .sh ρ1
theorem dIsi_ev {T : String} {te : DE} {X : XF} {ρ : List Sl} {Q : D → Kd → List Sl → Prop} : dIsi T te X ρ Q = te X ρ (kk fun d _ ρ1 => oK (isD T d) (kk fun b => Q (.bl b) .sh ρ1)) := rfl
section
variable {X : Cx} {Ts : AP} {W : WX} {e o : Expr} {te to : DE} {p p2 pos : Pos}
theorem de_isi {x : Str} {T : String} (hg : Gl X "isinstance") (hm : X.mg "isinstance" = none) (hv : bootBuiltins "isinstance" = some (.builtin "isinstance")) (gx : Gl X x) (mx : X.mg x = none) (vx : bootBuiltins x = some (.type T)) (he : PE X e (upE X.K Ts W te)) (hn : x ≠ "__name__" := by decide) (hd : (x == ("__debug__" : Str)) = false := by decide)
    (hs : starEach [e, .Name x p2] X.env = (false, eval e X.env) :: starEach [.Name x p2] X.env := by rfl) (hs2 : starEach [.Name x p2] X.env = (false, eval (.Name x p2) X.env) :: starEach [] X.env := by rfl) (hb : (backTo pos (starEach [.Name x p2] X.env)).any (·.1) = false := by rfl) (hb2 : (backTo pos (starEach [] X.env)).any (·.1) = false := by rfl) :
    PE X (.Call (.Name "isinstance" p) [e, .Name x p2] [] pos) (upE X.K Ts W (dIsi T te)) := by
  refine (pe_callB call_isi hg hm hv (pa_cons he (pa_cons (pe_bltn (v := .ty T) gx mx vx rfl hn hd) pa_nil hs2) hs) (by decide) (by decide) hs hb).imp fun σ H Q h => ?_
  obtain ⟨A, O, ρ, Xf, Qd, m, h, c⟩ := h
  refine ⟨A, O, ρ, Xf, _, m, h, fun d κ ρ1 v H1 A1 O1 h1 s1 t1 m1 r1 => ?_, c.x⟩
  obtain ⟨b, eb, h1⟩ := h1.get
  unfold isD at eb
  cases et : tyD d with
  | none => rw [et] at eb; cases eb
  | some t =>
    rw [et] at eb
    exact ⟨v, .ty T, .type t, .type T, b, rfl, .ty T, tyX_of et r1.wk, kit_ty eb, (c.move s1 t1 m).flat m1 h1 (by unfold Rp; rfl)⟩
end
theorem is_ss {s : Str} : isD "str" (.str s) = some true := by show kitB "str" "str" = _; decide +kernel
theorem is_sl {ds : List D} : isD "str" (.lst ds) = some false := by show kitB "list" "str" = _; decide +kernel
theorem is_st {ds : List D} : isD "str" (.tup ds) = some false := by show kitB "tuple" "str" = _; decide +kernel
theorem is_bb {b : Bool} : isD "bool" (.bl b) = some true := by show kitB "bool" "bool" = _; decide +kernel
/-! ### properties that let nothing out -/
def dProp (C : Str) (φ : Ph) (to : DE) : DE := fun X ρ Q => to X ρ fun d κ ρ1 => κ = .sh ∧ match d with
  | .ins C' ns xs => C' = C ∧ φ [.ins C' ns xs] (fun z => Q z .sh ρ1) fun _ => False
  | _ => False
def prK (C : Str) (φ : Ph) (d : D) (κ : Kd) (Q : D → Prop) : Prop := κ = .sh ∧ match d with
  | .ins C' ns xs => C' = C ∧ φ [.ins C' ns xs] Q fun _ => False
  | _ => False
theorem prK_i {C C' : Str} {φ : Ph} {ns : List Str} {xs : List D} {Q : D → Prop} : prK C φ (.ins C' ns xs) .sh Q = (C' = C ∧ φ [.ins C' ns xs] Q fun _ => False) := by unfold prK; simp
theorem dProp_ev {C : Str} {φ : Ph} {to : DE} {X : XF} {ρ : List Sl} {Q : D → Kd → List Sl → Prop} : dProp C φ to X ρ Q = to X ρ (kk fun d κ ρ1 => prK C φ d κ (kk fun z => Q z .sh ρ1)) := by
  show to X ρ _ = to X ρ _
  congr 1
section
variable {X : Cx} {Ts : AP} {W : WX} {e o : Expr} {te to : DE} {p p2 pos : Pos} {k : Nat} {fd : FuncData} {ps : List Str} {φ : Ph}
theorem de_prop {C f' : Str} {pa g : Addr} (he : PE X o (upE X.K Ts W to)) (c : Cls X.K (He.ga X.K C)) (hp : PropOf X.K (He.ga X.K C) f' pa g) (F : FnOk X.prog X.w X.K X.mg X.base (L2.CX X.prog X.w) k g fd ps (spD X.K Ts 1 φ)) (hr : Room (k + 1) X.A) (hb : Binds X.K fd ps [])
    (hab : attributeBase o f' X.env (eval o X.env) = eval o X.env := by rfl) : PE X (.Attribute o f' pos) (upE X.K Ts W (dProp C φ to)) := by
  refine (pe_prop he c hp (quiet F) hr hb .nil pass0 hab).imp fun σ H Q h => ?_
  obtain ⟨A, O, ρ, Xf, Qd, mm, h, cn⟩ := h
  refine ⟨A, O, ρ, Xf, _, mm, h, fun d κ ρ1 v H1 A1 O1 h1 s1 t1 m1 r1 => ?_, cn.x⟩
  obtain ⟨ek, h1⟩ := h1
  subst ek
  split at h1
  · obtain ⟨ec, h1⟩ := h1
    subst ec
    have r0 : Rp X.K H1 A1 _ v := r1
    have r2 : Rp X.K H1 A1 _ v := r0
    unfold Rp at r2
    obtain ⟨a, dx, vs, rfl, g1, _, gl, _⟩ := r2
    exact ⟨a, dx, _, rfl, g1, rfl, A1, _, _, _, m1.tab, m1.trk, RpL.cons r0 RpL.nil, h1, fun z u H2 A2 hz s2 ha r => (cn.move s1 t1 mm).sh m1 s2 hz (r.less ha), fun _ _ _ _ _ z => z.elim⟩
  · exact h1.elim
/-! ### raise C(e): C keeps one field -/
def fmtD : D → Prop
  | .str y => y.length ≤ 100000
  | .int i => 0 ≤ i ∧ i < 1000
  | _ => False
def dRaise1 (C f : Str) (te : DE) : DS := fun X N ρ => te X ρ fun d κ ρ1 => κ ≠ .bo ∧ fmtD d ∧ X ⟨C, some (f, d)⟩ ρ1
theorem dRaise1_ev {C f : Str} {te : DE} {Xf : XF} {N : DN} {ρ : List Sl} : dRaise1 C f te Xf N ρ = te Xf ρ (kk fun d κ ρ1 => κ ≠ .bo ∧ fmtD d ∧ Xf ⟨C, some (f, d)⟩ ρ1) := rfl
theorem str_len : ∀ n < 1000, (toString ((n : Nat) : Int) : Str).length ≤ 10 := by decide +kernel
theorem fmt_ok {K : PySem.W.Frag} {H : Hp} {A : AP} {d : D} {v : V} {m : Str} (hm : m.length ≤ 100) (hd : fmtD d) (r : Rp K H A d v) (a : V) :
    (fun (σ : L2.St) (H : Hp) (Q : VK) => tJs [tC (.str m), tFmt (tVar 1)] Str.empty σ H fun out H1 => Q (.str out) H1) [some a, some v] H (fun _ H' => H' = H) := by
  have e0 : (Str.empty ++ m : Str).length ≤ 100 := by
    have : (Str.empty ++ m : Str).length = m.length := by
      show (#[] ++ m.cps).size = m.cps.size
      simp
    omega
  have ap : ∀ a b : Str, (a ++ b).length = a.length + b.length := fun a b => Array.size_append
  cases d with
  | str y =>
    have ev : v = .str y := by unfold Rp at r; exact r
    have hd : y.length ≤ 100000 := hd
    refine ⟨m, rfl, by unfold sizeLine; omega, v, rfl, .inl ⟨y, ev, by unfold sizeLine; omega, y, rfl, ?_, rfl⟩⟩
    rw [ap]; unfold sizeLine; omega
  | int i =>
    have ev : v = .int i := by unfold Rp at r; exact r
    have hd : 0 ≤ i ∧ i < 1000 := hd
    obtain ⟨n, rfl⟩ : ∃ n : Nat, i = (n : Int) := ⟨i.toNat, by omega⟩
    have l := str_len n (by omega)
    have l2 : ((n : Int)).natAbs.log2 < 1920 := by
      have : ∀ n < 1000, n.log2 < 1920 := by decide +kernel
      exact this n (by omega)
    refine ⟨m, rfl, by unfold sizeLine; omega, v, rfl, .inr ⟨_, ev, l2, _, rfl, ?_, rfl⟩⟩
    rw [ap]; unfold sizeLine; omega
  | _ => exact hd.elim
theorem xd_heap' {H : Hp} {a dx : Addr} {o u w z : HO} (ha : H a = none) (ne : dx ≠ a) : upd (del (upd (upd (upd H a o) dx u) a w) a) dx z = upd H dx z := by
  funext b
  by_cases h1 : b = dx
  · rw [h1, upd_same, upd_same]
  · rw [upd_ne h1, upd_ne h1]
    by_cases h2 : b = a
    · rw [h2, del_same, ha]
    · rw [del_ne h2, upd_ne h2, upd_ne h1, upd_ne h2]
/-- te' is what the def's text asks -/
theorem ds_raise1 {C f x : Str} {fI : Addr} {kx : Nat} {fdx : FuncData} {te' : TE} (hc : X.calm = true) (tk : Takes X W) (T : OexC X.K (He.ga X.K C)) (iC : PySem.W.findIn X.K (.ref (He.ga X.K C)) "__init__" = some (some (.ref fI))) (tI : PySem.W.typeIn X.K (.ref fI) = some (.type "function"))
    (F1 : FnOk X.prog X.w X.K X.mg X.base CX0 kx fI fdx ["self", x] (SU.spS (He.ga X.K C) f te')) (hte : ∀ (d : D) (v : V) (H : Hp) (A : AP) (a : V), fmtD d → Rp X.K H A d v → te' [some a, some v] H (fun _ H' => H' = H)) (hr : Room (kx + 1) X.A) (hb : Binds X.K fdx ["self", x] [])
    (hg : Gl X C) (hm : X.mg C = some (.ref (He.ga X.K C))) (he : PE X e (upE X.K Ts W te)) (hdb : (C == ("__debug__" : Str)) = false := by decide) (hs : starEach [e] X.env = (false, eval e X.env) :: starEach [] X.env := by rfl) (hpl : (backTo pos (starEach [] X.env)).any (·.1) = false := by rfl) :
    PS X (.Raise (some (.Call (.Name C p) [e] [] pos)) none p2) (upS X.K Ts W (dRaise1 C f te)) := by
  refine (ps_raise hc tk (pmk_oex (dvs := []) T iC tI F1 hr hb .nil pass0 hg hm (pa_cons he pa_nil hs) hdb hs hpl)).imp fun E σ H h => ?_
  obtain ⟨A, O, ρ, Xf, N, m, h, c⟩ := h
  refine ⟨A, O, ρ, Xf, _, m, h, fun d κ ρ1 v H1 A1 O1 h1 s1 t1 m1 r1 => ?_, fun x ρ' cls od H' A' O' => c.x x ρ' cls od σ H' A' O'⟩
  obtain ⟨nb, fd1, h1⟩ := h1
  have r := r1.rp nb
  refine ⟨by show 1 ≤ 1000; omega, fun a ha => ⟨a, v, rfl, upd_same, ?_, fun dx hd ne => ⟨rfl, dx, [(f, v)], upd_same, ?_, ?_, ?_⟩⟩⟩
  · exact hte d v _ (fun _ => False) _ fd1 ((r.less (A' := fun _ => False) fun _ z => z.elim).sm (Sm.new ha))
  · rw [upd_ne ne, upd_same]
  · rw [upd_ne ne] at hd
    exact hd
  · have hd : H1 dx = none := by rw [upd_ne ne] at hd; exact hd
    rw [xd_heap' ha ne]
    have s2 := Sm.new (o := .xd [(f, v)]) hd
    exact c.x _ ρ1 _ _ σ _ _ _ h1 (t1.trans (Tr.of s2) m.trk) (m1.sm s2) ⟨rfl, dx, v, rfl, upd_same, r.sm s2⟩
end
end DL

-- part DL10
set_option Elab.async false
set_option linter.all false
set_option maxRecDepth 100000
set_option maxHeartbeats 2000000
/-! try: .. except C as e: .., where C's instances have one field -/
namespace DL
open PySem PySem.Spec PyProof.Rows L2 GxR GS GA GD
def X0n : XF := fun _ _ => False
/-- em: whether what is raised is caught; the caught one is of C itself -/
def dTryAs (em : Str → Option Bool) (C : Str) (i : Nat) (tb : DS) (ts : Addr → Addr → DS) : DS := fun X N ρ => tb (fun x ρ1 => oK (em x.cls) fun b => if b = true then x.cls = C ∧ oK x.arg fun q => i < ρ1.length ∧ ∀ a dd, ts a dd X0n { nx := fun ρ2 => N.nx (ρ2.set i .no), rt := N.rt, bk := fun ρ2 => N.bk (ρ2.set i .no), ct := fun ρ2 => N.ct (ρ2.set i .no) } (ρ1.set i (.va (.xc a dd q.1 q.2))) else X x ρ1) N ρ
theorem dTryAs_ev {em : Str → Option Bool} {C : Str} {i : Nat} {tb : DS} {ts : Addr → Addr → DS} {X : XF} {N : DN} {ρ : List Sl} : dTryAs em C i tb ts X N ρ = tb (kk fun x ρ1 => oK (em x.cls) (kk fun b => iK b (x.cls = C ∧ oK x.arg (kk fun q => i < ρ1.length ∧ ∀ a dd, ts a dd X0n { nx := kk fun ρ2 => N.nx (ρ2.set i .no), rt := N.rt, bk := kk fun ρ2 => N.bk (ρ2.set i .no), ct := kk fun ρ2 => N.ct (ρ2.set i .no) } (ρ1.set i (.va (.xc a dd q.1 q.2))))) (X x ρ1))) N ρ := rfl
section
variable {X : Cx} {Ts : AP} {W : WX} {tb : DS} {ts : Addr → Addr → DS} {C x n : Str} {i : Nat} {em : Str → Option Bool} {body suite : List Stmt} {b₀ : Stmt} {np pos pos' : Pos}
theorem ds_tryAs (hs : X.stack = X.env :: X.outer) (hf : X.env.frame = some X.env.locals) (hN : X.N.Nodup) (hi : X.N[i]? = some n) (hln : X.env.kindOf n = some .local) (hc : Names X x (.ref (He.ga X.K C))) (tk : Takes X W)
    (hem : ∀ c b, em c = some b → PySem.W.exmOne X.K (.ref (He.ga X.K c)) (.ref (He.ga X.K C)) = some b)
    (hb : ∀ (W : WX) (pn : List (Addr × Obj)) (xe : Value → Shared → Prop), Takes (X.tr pn xe) W → PassesOwn (model X.prog X.w) X.A X.env xe → PSs (X.tr pn xe) body (upS X.K Ts W tb))
    (hsu : ∀ (a dd : Addr) (oe : Obj) (pn : List (Addr × Obj)), Zc (.ref (He.ga X.K C)) (some dd) oe → (∃ vs, oe.data = .fields vs) → PSs (X.suite a ((a, oe) :: pn)) (b₀ :: suite) (upS X.K Ts W (ts a dd))) :
    PS X (.Try body [.ExceptHandler (some (.Name x np)) (some n) (b₀ :: suite) pos'] [] [] pos) (upS X.K Ts W (dTryAs em C i tb ts)) := by
  have run := ps_try_as (np := np) (pos := pos) (pos' := pos') (Wout := W) (tb := fun W => upS X.K Ts W tb) (ts := fun a cls d E σ H => ∃ dd, cls = .ref (He.ga X.K C) ∧ d = some dd ∧ upS X.K Ts W (ts a dd) E σ H) hs hf hN hi hln hc tk hb fun a oe cls d pn hz hfd => by
    refine ⟨fun pins s σ H D I q => ?_⟩
    obtain ⟨dd, rfl, rfl, q⟩ := q
    exact (hsu a dd oe pn hz hfd).run pins s σ H D I q
  refine run.imp fun E σ H h => ?_
  obtain ⟨A, O, ρ, Xf, N, m, h, c⟩ := h
  refine ⟨A, O, ρ, _, N, m, h, ⟨c.nx, c.bk, c.ct, c.rt, fun y ρ1 cls od σ1 H1 A1 O1 hx t1 m1 r1 => ?_⟩⟩
  obtain ⟨b, eb, hx⟩ := hx.get
  have r0 := r1.1
  refine ⟨b, by rw [r0]; exact hem _ _ eb, fun hbt a ha => ?_, fun hbf => ?_⟩
  · rw [if_pos hbt] at hx
    obtain ⟨ec, hx⟩ := hx
    obtain ⟨q, eq, il, hx⟩ := hx.get
    obtain ⟨_, r2⟩ := r1
    rw [eq] at r2
    obtain ⟨dd, v, e1, e2, e3⟩ := r2
    have rx : Rp X.K H1 A1 (.xc a dd q.1 q.2) (.ref a) := by unfold Rp; exact ⟨rfl, v, e2, e3⟩
    obtain ⟨m2, t2⟩ := m1.setVa (i := i) rx
    have c2 := c.move (t1.trans t2 m.trk) m
    have back : ∀ {R : List Sl → Prop} {G : L2.St → Hp → Prop}, (∀ ρ' σ' H' A' O', R ρ' → Tr A1 (Om O1 ρ1 σ1 i) H1 A' O' H' → Mt X.K Ts H' A' O' ρ' σ' → G σ' H') → ∀ ρ' σ' H' A' O', R (ρ'.set i .no) → Tr A1 (Om O1 ρ1 σ1 i) H1 A' O' H' → Mt X.K Ts H' A' O' ρ' σ' → G (σ'.set i none) H' :=
      fun {R G} g ρ' σ' H' A' O' hr tr mt => by
        obtain ⟨n3, t3⟩ := mt.setNo (i := i) (x := none)
        exact g _ _ _ _ _ hr (tr.trans t3 m2.trk) n3
    refine ⟨dd, by rw [r0, ec], e1, A1, _, _, X0n, _, m2, hx a dd, ⟨back c2.nx, back c2.bk, back c2.ct, c2.rt, fun _ _ _ _ _ _ _ _ z => z.elim⟩⟩
  · rw [if_neg (by rw [hbf]; decide)] at hx
    exact c.x y ρ1 cls od σ1 H1 A1 O1 hx t1 m1 r1
end
/-! ### what a caught exception is asked -/
def xK (s : Sl) (a dd : Addr) (Q : Str → D → Prop) : Prop := match s with
  | .va (.xc a' dd' f z) => a' = a ∧ dd' = dd ∧ Q f z
  | _ => False
theorem xK_x {a a' dd dd' : Addr} {f : Str} {z : D} {Q : Str → D → Prop} : xK (.va (.xc a' dd' f z)) a dd Q = (a' = a ∧ dd' = dd ∧ Q f z) := rfl
/-- e.f -/
def dXf (a dd : Addr) (i : Nat) (f : Str) : DE := fun _ ρ Q => xK (sl ρ i) a dd fun g z => g = f ∧ Q z .sh ρ
theorem dXf_ev {a dd : Addr} {i : Nat} {f : Str} {X : XF} {ρ : List Sl} {Q : D → Kd → List Sl → Prop} : dXf a dd i f X ρ Q = xK (sl ρ i) a dd (kk fun g z => g = f ∧ Q z .sh ρ) := rfl
/-- isinstance(e, c), the answer is known -/
def dIsx (a dd : Addr) (i : Nat) (b : Bool) : DE := fun _ ρ Q => xK (sl ρ i) a dd fun _ _ => Q (.bl b) .sh ρ
theorem dIsx_ev {a dd : Addr} {i : Nat} {b : Bool} {X : XF} {ρ : List Sl} {Q : D → Kd → List Sl → Prop} : dIsx a dd i b X ρ Q = xK (sl ρ i) a dd (kk fun _ _ => Q (.bl b) .sh ρ) := rfl
theorem xK.get {ρ : List Sl} {i : Nat} {a dd : Addr} {Q : Str → D → Prop} (h : xK (sl ρ i) a dd Q) : ∃ f z, ρ[i]? = some (.va (.xc a dd f z)) ∧ Q f z := by
  unfold xK at h
  split at h
  · rename_i a' dd' f z e
    obtain ⟨rfl, rfl, q⟩ := h
    refine ⟨f, z, ?_, q⟩
    rw [sl_eq]
    by_cases hl : i < ρ.length
    · rw [if_pos hl, e]
    · have : sl ρ i = .no := by unfold sl; rw [List.getD_eq_getElem?_getD, List.getElem?_eq_none (by omega)]; rfl
      rw [this] at e
      cases e
  · exact h.elim
section
variable {X : Cx} {Ts : AP} {W : WX} {C f n : Str} {i : Nat} {a dd : Addr} {oe : Obj} {pn : List (Addr × Obj)} {p p2 pos : Pos}
theorem de_xf (T : XfC X.K (He.ga X.K C)) (hno : PySem.W.findIn X.K (.ref (He.ga X.K C)) f = some none) (hz : Zc (.ref (He.ga X.K C)) (some dd) oe) (hf : ∃ vs, oe.data = .fields vs) (hN : X.N[i]? = some n) (hv : Vis X.env.scope n) (hd : (n == ("__debug__" : Str)) = false := by decide) (hcd : (n == ("__classdict__" : Str)) = false := by decide)
    (hb : attributeBase (.Name n p) f X.env (eval (.Name n p) X.env) = eval (.Name n p) X.env := by rfl) :
    PE (X.suite a ((a, oe) :: pn)) (.Attribute (.Name n p) f pos) (upE X.K Ts W (dXf a dd i f)) := by
  refine (pe_xf (X := X) T hno hz hf (pe_var (X := X.suite a ((a, oe) :: pn)) hN hv hd hcd) hb).imp fun σ H Q h => ?_
  obtain ⟨A, O, ρ, Xf, Qd, m, h, c⟩ := h
  obtain ⟨g, z, e, rfl, q⟩ := xK.get h
  obtain ⟨v, e1, r⟩ := m.va i _ e
  have r0 := r
  unfold Rp at r0
  obtain ⟨rfl, w, r1, r2⟩ := r0
  refine ⟨_, e1, rfl, rfl, dd, _, w, rfl, r1, ?_, c.flat m q r2⟩
  simp [List.lookup]
theorem de_isx {ce : Expr} {cv : V} {cu : Value} {b : Bool} (E : ExcC X.K (He.ga X.K C)) (hz : Zc (.ref (He.ga X.K C)) (some dd) oe) (hf : ∃ vs, oe.data = .fields vs) (hN : X.N[i]? = some n) (hv : Vis X.env.scope n) (hg : Gl X "isinstance") (hm : X.mg "isinstance" = none) (hbt : bootBuiltins "isinstance" = some (.builtin "isinstance"))
    (hc : PE (X.suite a ((a, oe) :: pn)) ce (tC cv)) (hu : ∀ u, RelV cv u → u = cu) (hk : PySem.W.kitOne X.K (.ref (He.ga X.K C)) cu = some b) (hd : (n == ("__debug__" : Str)) = false := by decide) (hcd : (n == ("__classdict__" : Str)) = false := by decide)
    (hs : starEach [.Name n p, ce] X.env = (false, eval (.Name n p) X.env) :: starEach [ce] X.env := by rfl) (hs2 : starEach [ce] X.env = (false, eval ce X.env) :: starEach [] X.env := by rfl) (hpl : (backTo pos (starEach [ce] X.env)).any (·.1) = false := by rfl) :
    PE (X.suite a ((a, oe) :: pn)) (.Call (.Name "isinstance" p2) [.Name n p, ce] [] pos) (upE X.K Ts W (dIsx a dd i b)) := by
  refine (pe_callB (X := X.suite a ((a, oe) :: pn)) (SU.call_isF E hz hf) hg hm hbt (pa_cons (pe_var (X := X.suite a ((a, oe) :: pn)) hN hv hd hcd) (pa_cons hc pa_nil hs2) hs) (by decide) (by decide) hs hpl).imp fun σ H Q h => ?_
  obtain ⟨A, O, ρ, Xf, Qd, m, h, c⟩ := h
  obtain ⟨g, z, e, q⟩ := xK.get h
  obtain ⟨v, e1, r⟩ := m.va i _ e
  have r0 := r
  unfold Rp at r0
  obtain ⟨rfl, w, r1, r2⟩ := r0
  exact ⟨_, e1, ⟨_, r1⟩, cv, cu, b, rfl, hu, hk, c.flat m q (by unfold Rp; rfl)⟩
end
end DL
namespace DL
theorem xc_c {c : PySem.Str} {a : Option (PySem.Str × D)} : (Xc.mk c a).cls = c := rfl
theorem xc_a {c : PySem.Str} {a : Option (PySem.Str × D)} : (Xc.mk c a).arg = a := rfl
end DL
namespace DL
open PySem PySem.Spec PyProof.Rows L2 GxR GS GA GD
/-- a statement that is never reached -/
def dDead : DS := fun _ _ _ => False
theorem ds_dead {X : Cx} {Ts : AP} {W : WX} {st : Stmt} : PS X st (upS X.K Ts W dDead) := ⟨fun _ _ _ _ _ _ h => by obtain ⟨_, _, _, _, _, _, z, _⟩ := h; exact z.elim⟩
theorem code_ref {K : PySem.W.Frag} {x qual : Str} {params : Arguments} {body : List Stmt} {scope : Scope} {dvs : List V} {kws : List (Str × V)} {f : Addr} {fd : FuncData} (F : FunD K x qual params body scope dvs kws f fd) : ∃ c, fd.code = .ref c := by
  obtain ⟨oc, od, dV, kV, doc, pm, an, cdv, ct, osl, rfl, lk, hcd, _, _⟩ := F.ex
  show ∃ c, cdv = .ref c
  unfold PySem.W.codeIn at hcd
  split at hcd
  · exact ⟨_, rfl⟩
  · cases hcd
end DL
namespace DL
section
variable {X : XF} {ρ : List Sl} {t u : DS} {c : DT}
/-- as ifJ, where the test changes the slots -/
theorem ifJ1 (B : Bool) (ρ1 : List Sl) (I : List Sl → Prop) {D : DN} (hc : ∀ R : Bool → List Sl → Prop, R B ρ1 → c X ρ R) (h1 : ∀ k : List Sl → Prop, (∀ ρ', I ρ' → k ρ') → B = true → t X ⟨k, D.rt, D.bk, D.ct⟩ ρ1) (h2 : ∀ k : List Sl → Prop, (∀ ρ', I ρ' → k ρ') → B = false → u X ⟨k, D.rt, D.bk, D.ct⟩ ρ1)
    (hn : ∀ ρ', I ρ' → D.nx ρ') : dIfS c t u X D ρ := by
  refine hc _ ?_
  cases B with
  | true => exact h1 D.nx hn rfl
  | false => exact h2 D.nx hn rfl
end
end DL

-- part DL11
set_option Elab.async false
set_option linter.all false
set_option maxRecDepth 100000
set_option maxHeartbeats 2000000
/-! a, *b = list; texts: times, split, join; tables and tuples of the module; None among data -/
namespace DL
open PySem PySem.Spec PyProof.Rows L2 GxR GS GA GD PySem.W PySem.Calls
/-! ### a, *b = a list -/
section
variable {prog : Program} {w : World} {A : Around} {E : Value → Shared → Prop} {s : Shared}
theorem star_items {l : Addr} {its : Array Value} {Q : List Value → Shared → Prop} (hh : A.handled = none) (hl : s.heap.IsList l its) (h1 : 1 ≤ its.size) (hz : its.size ≤ sizeLine)
    (hQ : ∀ (h' : Heap) (tk : Nat), (∀ b o, s.heap.get? b = some o → h'.get? b = some o) → Q (its.toList.take 1 ++ [.ref h'.objs.size]) { s with heap := h'.push { cls := .type "list", data := .seq (its.toList.drop 1).toArray }, toks := tk }) :
    wpAny (model prog w) A (unpackItems (.ref l) 2 (some 1)) Q E s := by
  have lt : l < s.heap.objs.size := let ⟨o, ho, _⟩ := hl; Heap.lt_size ho
  have ne : l ≠ s.heap.objs.size := Nat.ne_of_lt lt
  unfold unpackItems
  refine wpAny_bind ?_
  unfold notIterableAtAll
  refine wpAny_bind (wpAny_specialOf hl.typeIs slot_list_iter.lookup (wpAny_pure ?_))
  simp only [Bool.false_eq_true, if_false]
  refine wpAny_bind (wpAny_holding (wpAny_pyIter_list hl (wpAny_bind (wpAny_holding (kun_draw ne 1 0 _ _ ⟨_, Heap.get?_push_size _ rfl, rfl, rfl⟩ (hl.push _) (by omega) fun g1 i1 b1 => ?_)))))
  have l1 : g1.IsList l its := (hl.push _).extBut b1.extBut ne
  rw [Nat.zero_add] at i1
  obtain ⟨oi, hi, _⟩ := id i1
  obtain ⟨ol, hol, _⟩ := id l1
  rw [List.drop_zero]
  have tl : (its.toList.take 1).length = 1 := by rw [List.length_take, Array.length_toList]; omega
  have dl : (its.toList.drop 1).length = its.size - 1 := by rw [List.length_drop, Array.length_toList]
  rw [if_neg (by omega : ¬ (its.toList.take 1).length < 1)]
  refine wpAny_bind (wpAny_holding (kun_collect (s := { s with heap := g1 }) (T := "list_iterator") (.inr (.inr (.inl rfl))) (Walks.list (A := A.in1) hh s.heap.objs.size l ne its) (fun _ _ z => z.1.typeIs) (k := 1) h1 ⟨i1, l1⟩ (Heap.lt_size hi) (Heap.lt_size hol) (fun g2 tk k2 => ?_) hz))
  show wpAny _ _ (if (its.toList.drop 1).length < 0 then _ else _) _ _ _
  rw [if_neg (by omega)]
  show wpAny _ _ (newList ((its.toList.drop 1).take ((its.toList.drop 1).length - 0)) >>= fun d => pure (its.toList.take 1 ++ [d] ++ (its.toList.drop 1).drop ((its.toList.drop 1).length - 0))) _ _ _
  rw [Nat.sub_zero, List.take_length, List.drop_length]
  refine wpAny_bind (wpAny_newList (wpAny_pure ?_) (by omega))
  rw [List.append_nil]
  exact hQ g2 tk fun b o e => k2 b o (Nat.ne_of_lt (Heap.lt_size e)) (b1.extBut b o (Nat.ne_of_lt (Heap.lt_size e)) (Heap.get?_push_of_some _ e))
end
section
variable {X : Cx} {Ts : AP} {W : WX} {e : Expr} {te : DE} {i j k : Nat} {x y : Str} {px py p2 pt pos : Pos}
def gStar (K : PySem.W.Frag) (i j : Nat) : TG := fun v σ H Q => ∃ a z xs, v = V.ref a ∧ SqL K H a (z :: xs) ∧ ∀ p, H p = none → Q ((σ.set i (some z)).set j (some (V.ref p))) (upd H p (.lst xs))
theorem pg_star (hc : X.calm = true) (hN : X.N.Nodup) (hi : X.N[i]? = some x) (hj : X.N[j]? = some y) (hx : Loc X.env.scope x) (hy : Loc X.env.scope y) (fx : X.fn x = true ∨ X.env.scope.names.lookup x = some .local) (fy : X.fn y = true ∨ X.env.scope.names.lookup y = some .local) :
    PG X (.Tuple [.Name x px, .Starred (.Name y py) p2] k pt) (gStar X.K i j) := by
  refine ⟨fun pins s σ H v u Q I r hw => ?_⟩
  obtain ⟨a, z, xs, rfl, hq, hw⟩ := hw
  cases r
  obtain ⟨its, rv, ⟨o, n, ho, hcl, hd, hdt⟩, hz⟩ := I.list hq
  have hl : s.heap.IsList a its.toArray := ⟨o, ho, hcl, n, hdt⟩
  have len : its.length = xs.length + 1 := by rw [← rv.length]; rfl
  rw [PyProof.Rows.assign_Tuple]
  refine wpAny_bind (wpAny_standAt ?_)
  unfold unpack
  show wpAny _ _ ((holding [Value.ref a] (unpackItems (.ref a) 2 (some 1))) >>= fun vs => assignInOrder _ vs) _ _ _
  refine wpAny_bind (wpAny_holding (star_items (I.ok.hd hc) hl (by rw [List.size_toArray]; omega) (by rw [List.size_toArray, ← rv.length]; exact hz) fun h' tk kp => ?_))
  have I1 : Inv X pins σ H { s with heap := h', toks := tk } := I.kept kp
  obtain ⟨u0, ur, rfl, r0, rr⟩ : ∃ u0 ur, its = u0 :: ur ∧ RelV z u0 ∧ Vals xs ur := by cases rv with | cons a b => exact ⟨_, _, rfl, a, b⟩
  have I2 := I1.lnew (t' := tk) rr (by have : (z :: xs).length ≤ sizeLine := hz; rw [List.length_cons] at this; omega)
  have P : PGs X [.Name x px, .Name y py] (gCons (gName i) (gCons (gName j) gNil)) := pgs_cons (pg_name hN hi hx fx) (pgs_cons (pg_name hN hj hy fy) pgs_nil)
  exact P.run pins _ σ _ [z, .ref h'.objs.size] [u0, .ref h'.objs.size] Q I2 (.cons r0 (.cons rfl .nil)) ⟨z, _, rfl, _, _, rfl, rfl, hw _ I1.fresh⟩
def dStarT (i j : Nat) (te : DE) : DS := fun X N ρ => te X ρ fun d κ ρ1 => κ ≠ .bo ∧ match d with
  | .lst (z :: xs) => N.nx ((ρ1.set i (.va z)).set j (.va (.lst xs)))
  | _ => False
def stK (d : D) (Q : D → List D → Prop) : Prop := match d with
  | .lst (z :: xs) => Q z xs
  | _ => False
theorem stK_l {z : D} {xs : List D} {Q : D → List D → Prop} : stK (.lst (z :: xs)) Q = Q z xs := rfl
theorem dStarT_ev {Xf : XF} {N : DN} {ρ : List Sl} : dStarT i j te Xf N ρ = te Xf ρ (kk fun d κ ρ1 => κ ≠ .bo ∧ stK d (kk fun z xs => N.nx ((ρ1.set i (.va z)).set j (.va (.lst xs))))) := by
  show te Xf ρ _ = te Xf ρ _
  congr 1
theorem ds_star (hc : X.calm = true) (hN : X.N.Nodup) (hi : X.N[i]? = some x) (hj : X.N[j]? = some y) (hx : Loc X.env.scope x) (hy : Loc X.env.scope y) (he : PE X e (upE X.K Ts W te)) (fx : X.fn x = true ∨ X.env.scope.names.lookup x = some .local := by first | exact .inl rfl | exact .inr rfl) (fy : X.fn y = true ∨ X.env.scope.names.lookup y = some .local := by first | exact .inl rfl | exact .inr rfl)
    (hs : swapsWithSole [.Tuple [.Name x px, .Starred (.Name y py) p2] k pt] e pos.line X.env = pure false := by rfl) (hw : swappedStores [.Tuple [.Name x px, .Starred (.Name y py) p2] k pt] e X.env = pure none := by rfl)
    (h1 : (assignEach [.Tuple [.Name x px, .Starred (.Name y py) p2] k pt] X.env).map (·.2) = [assign (.Tuple [.Name x px, .Starred (.Name y py) p2] k pt) X.env] := by rfl) :
    PS X (.Assign [.Tuple [.Name x px, .Starred (.Name y py) p2] k pt] e pos) (upS X.K Ts W (dStarT i j te)) := by
  refine (ps_asg he (pg_star hc hN hi hj hx hy fx fy) hs hw h1).imp fun E σ H h => ?_
  obtain ⟨A, O, ρ, Xf, N, m, h, c⟩ := h
  refine ⟨A, O, ρ, Xf, _, m, h, fun d κ ρ1 v H1 A1 O1 h1 s1 t1 m1 r1 => ?_, fun x ρ' cls od H' A' O' => c.x x ρ' cls od σ H' A' O'⟩
  obtain ⟨nb, h1⟩ := h1
  have r2 := r1.rp nb
  split at h1
  · rename_i z xs
    unfold Rp at r2
    obtain ⟨a, vs, rfl, g1, _, g2⟩ := r2
    obtain ⟨v0, vr, rfl, q1, q2⟩ := g2.uncons
    refine ⟨a, v0, vr, rfl, SqL.of g1, fun p hp => ?_⟩
    have nA : ¬ A1 p := fun z => m1.trk p z hp
    have sp := Sm.new (o := .lst vr) hp
    have m2 := m1.sm sp
    obtain ⟨m3, t3⟩ := m2.setVa (i := i) (q1.sm sp)
    obtain ⟨m4, t4⟩ := m3.setVa (i := j) (d := .lst xs) (v := .ref p) (by
      unfold Rp
      exact ⟨p, vr, rfl, upd_same, nA, q2.sm sp⟩)
    exact c.nx _ _ _ _ _ h1 (((t1.trans (Tr.of sp) m.trk).trans t3 m.trk).trans t4 m.trk) m4
  · exact h1.elim
end
/-! ### texts -/
/-- a text, n times -/
def tmS (z : Str) (n : Nat) : Str := ⟨(List.replicate n z.cps).foldl (· ++ ·) #[]⟩
theorem fold_len : ∀ (n : Nat) (c a : Array Nat), ((List.replicate n c).foldl (· ++ ·) a).size = a.size + n * c.size
  | 0, c, a => by simp
  | n + 1, c, a => by
    rw [List.replicate_succ, List.foldl_cons, fold_len n c (a ++ c), Array.size_append, Nat.succ_mul]
    omega
theorem tmS_len (z : Str) (n : Nat) : (tmS z n).length = n * z.length := by
  show ((List.replicate n z.cps).foldl (· ++ ·) #[]).size = _
  rw [fold_len]
  show 0 + n * z.cps.size = n * z.cps.size
  omega
def rTimes : R2 := fun v w H Q => ∃ (z : Str) (i : Int), v = V.str z ∧ w = V.int i ∧ 0 ≤ i ∧ i < 1000 ∧ z.length ≤ 1000 ∧ Q (.str (tmS z i.toNat)) H
theorem op_times {X : Cx} : OpR X (binaryOp .Mult) rTimes := by
  intro pins s σ H v w a b Q I ra rb h
  obtain ⟨z, n, rfl, rfl, h0, hn, hz, q⟩ := h
  obtain ⟨t, rfl⟩ := ra
  obtain ⟨u, rfl⟩ := rb
  have hb : z.length * n.toNat ≤ 1000000 := Nat.le_trans (Nat.mul_le_mul hz (by omega : n.toNat ≤ 1000)) (by omega)
  have fin : ∀ k, EP X pins σ Q (.str (tmS z n.toNat) s.toks) { s with toks := k } := fun k => ⟨.str (tmS z n.toNat), H, I.tok k, ⟨_, rfl⟩, q⟩
  have sz : (tmS z n.toNat).length ≤ sizeLine := by
    rw [tmS_len, Nat.mul_comm]
    unfold sizeLine
    omega
  refine PySem.P.mul_str (by rw [decide_eq_false (by omega : ¬ n < -(2 ^ 63)), decide_eq_false (by omega : ¬ n ≥ 2 ^ 63)]; rfl) (fun h1 _ => ?_) (fun h1 _ => ?_) ?_
  · have h3 : (z.length : Int) * n ≤ 1000000 := by
      have e : n = (n.toNat : Int) := by omega
      have h4 : ((z.length * n.toNat : Nat) : Int) ≤ ((1000000 : Nat) : Int) := Int.ofNat_le.mpr hb
      rw [Int.natCast_mul, ← e] at h4
      exact h4
    have : (z.length : Int) ≤ (2 ^ 63 - 1) / n := Int.le_ediv_of_mul_le (by omega) (by omega)
    omega
  · unfold Builtin.Str.tooLong
    exact decide_eq_false (by unfold sizeLine; omega)
  · by_cases h1 : n < 1
    · rw [if_pos h1]
      have e : n.toNat = 0 := by omega
      have e2 : tmS z n.toNat = Str.empty := by rw [e]; rfl
      rw [e2] at fin
      exact ⟨by decide, fin _⟩
    · rw [if_neg h1]
      by_cases h2 : (n == 1 || z.length == 0) = true
      · rw [if_pos h2]
        have e2 : tmS z n.toNat = z := by
          rcases Bool.or_eq_true _ _ |>.mp h2 with h2 | h2
          · have e : n.toNat = 1 := by have : n = 1 := by simpa using h2
                                       omega
            rw [e]
            show Str.mk (#[] ++ z.cps) = z
            rw [Array.empty_append]
          · have e : z.cps = #[] := by
              have hz0 : z.length = 0 := by simpa using h2
              have : z.cps.size = 0 := hz0
              exact Array.eq_empty_of_size_eq_zero this
            have l := tmS_len z n.toNat
            have : z.length = 0 := by simpa using h2
            rw [this, Nat.mul_zero] at l
            have e3 : (tmS z n.toNat).cps = #[] := Array.eq_empty_of_size_eq_zero l
            exact Str.ext' (e3.trans e.symm)
        refine ⟨.str z, H, I, ⟨_, rfl⟩, ?_⟩
        rw [e2] at q
        exact q
      · rw [if_neg h2]
        exact ⟨sz, fin _⟩
def gTimes : D → D → (D → Kd → Prop) → Prop
  | .str z, .int i, Q => 0 ≤ i ∧ i < 1000 ∧ z.length ≤ 1000 ∧ Q (.str (tmS z i.toNat)) .sh
  | _, _, _ => False
theorem gTimes_s {z : Str} {i : Int} {Q : D → Kd → Prop} : gTimes (.str z) (.int i) Q = (0 ≤ i ∧ i < 1000 ∧ z.length ≤ 1000 ∧ Q (.str (tmS z i.toNat)) .sh) := rfl
theorem dop_times {X : Cx} {Ts : AP} : DOp X Ts (binaryOp .Mult) gTimes := by
  refine ⟨_, op_times, fun W σ H A O ρ Xf Qd Q d e v w hd he m c q => ?_⟩
  unfold gTimes at q
  split at q
  · obtain ⟨h1, h2, h3, q⟩ := q
    exact ⟨_, _, hd.str, he.int, h1, h2, h3, c.flat m q Rp.str⟩
  · exact q.elim
/-- a text -/
def zK (d : D) (Q : Str → Prop) : Prop := match d with
  | .str a => Q a
  | _ => False
theorem zK_s {a : Str} {Q : Str → Prop} : zK (.str a) Q = Q a := rfl
theorem zK.get {d : D} {Q : Str → Prop} (h : zK d Q) : ∃ a, d = .str a ∧ Q a := by
  unfold zK at h
  split at h
  · exact ⟨_, rfl, h⟩
  · exact h.elim
/-- the texts of a list, a tuple -/
def ysK (d : D) (Q : List Str → Prop) : Prop := ∃ ys : List Str, (d = .lst (ys.map .str) ∨ d = .tup (ys.map .str)) ∧ Q ys
theorem ysK.mk (ys : List Str) {Q : List Str → Prop} (q : Q ys) : ysK (.lst (ys.map .str)) Q := ⟨ys, .inl rfl, q⟩
section
variable {X : Cx} {Ts : AP} {W : WX} {o e : Expr} {to te : DE} {apos pos : Pos}
/-- s.split(t) -/
def dSplit (to te : DE) : DE := fun X ρ Q => to X ρ fun d _ ρ1 => zK d fun a => te X ρ1 fun e _ ρ2 => zK e fun b => (b.length == 0) = false ∧ a.length + 2 ≤ sizeLine ∧ Q (.lst ((Txt.split a b).map .str)) .fr ρ2
theorem dSplit_ev {Xf : XF} {ρ : List Sl} {Q : D → Kd → List Sl → Prop} : dSplit to te Xf ρ Q = to Xf ρ (kk fun d _ ρ1 => zK d (kk fun a => te Xf ρ1 (kk fun e _ ρ2 => zK e (kk fun b => (b.length == 0) = false ∧ a.length + 2 ≤ sizeLine ∧ Q (.lst ((Txt.split a b).map .str)) .fr ρ2)))) := rfl
theorem de_split (ho : PE X o (upE X.K Ts W to)) (he : PE X e (upE X.K Ts W te)) (hs : starEach [e] X.env = [(false, eval e X.env)] := by rfl) (hbase : attributeBase o "split" X.env (eval o X.env) = eval o X.env := by rfl) (hline : (apos.endLine == pos.line) = true := by rfl) :
    PE X (.Call (.Attribute o "split" apos) [e] [] pos) (upE X.K Ts W (dSplit to te)) := by
  refine (pe_split ho he hs hbase hline).imp fun σ H Q h => ?_
  obtain ⟨A, O, ρ, Xf, Qd, m, h, c⟩ := h
  refine ⟨A, O, ρ, Xf, _, m, h, fun d κ ρ1 v H1 A1 O1 h1 s1 t1 m1 r1 => ?_, c.x⟩
  have c1 := c.move s1 t1 m
  obtain ⟨a, rfl, h1⟩ := h1.get
  refine ⟨⟨a, r1.wk.str⟩, A1, O1, ρ1, Xf, _, m1, h1, fun z κ2 ρ2 y H2 A2 O2 h2 s2 t2 m2 r2 => ?_, c1.x⟩
  obtain ⟨b, rfl, g1, g2, g3⟩ := h2.get
  exact ⟨a, b, r1.wk.str, by rw [r2.wk.str], g1, g2, fun p hp => (c1.move s2 t2 m1).fr m2 hp g3 RpL.strs⟩
/-- s.join(texts) -/
def dJoin (to te : DE) : DE := fun X ρ Q => to X ρ fun d _ ρ1 => zK d fun a => te X ρ1 fun e _ ρ2 => ysK e fun ys => (ys.map (·.length)).sum + ys.length * a.length ≤ 16777216 ∧ Q (.str (Txt.join a ys)) .sh ρ2
theorem dJoin_ev {Xf : XF} {ρ : List Sl} {Q : D → Kd → List Sl → Prop} : dJoin to te Xf ρ Q = to Xf ρ (kk fun d _ ρ1 => zK d (kk fun a => te Xf ρ1 (kk fun e _ ρ2 => ysK e (kk fun ys => (ys.map (·.length)).sum + ys.length * a.length ≤ 16777216 ∧ Q (.str (Txt.join a ys)) .sh ρ2)))) := rfl
theorem RpL.ofStrs {K : PySem.W.Frag} {H : Hp} {A : AP} : ∀ {ys : List Str} {vs : List V}, RpL K H A (ys.map .str) vs → vs = ys.map V.str
  | [], vs, h => h.unnil
  | y :: r, vs, h => by
    obtain ⟨v, t, rfl, h1, h2⟩ := h.uncons
    unfold Rp at h1
    rw [h1, RpL.ofStrs h2]
    rfl
theorem de_join (ho : PE X o (upE X.K Ts W to)) (he : PE X e (upE X.K Ts W te)) (hs : starEach [e] X.env = [(false, eval e X.env)] := by rfl) (hbase : attributeBase o "join" X.env (eval o X.env) = eval o X.env := by rfl) (hline : (apos.endLine == pos.line) = true := by rfl) :
    PE X (.Call (.Attribute o "join" apos) [e] [] pos) (upE X.K Ts W (dJoin to te)) := by
  refine (pe_m1 F.slot_str_join F.type_str_join mt_join ho he hs hbase hline).imp fun σ H Q h => ?_
  obtain ⟨A, O, ρ, Xf, Qd, m, h, c⟩ := h
  refine ⟨A, O, ρ, Xf, _, m, h, fun d κ ρ1 v H1 A1 O1 h1 s1 t1 m1 r1 => ?_, c.x⟩
  have c1 := c.move s1 t1 m
  obtain ⟨a, rfl, h1⟩ := h1.get
  refine ⟨⟨a, r1.wk.str⟩, A1, O1, ρ1, Xf, _, m1, h1, fun z κ2 ρ2 y H2 A2 O2 h2 s2 t2 m2 r2 => ?_, c1.x⟩
  obtain ⟨ys, hz, g1, g2⟩ := h2
  have c2 := c1.move s2 t2 m1
  rcases hz with rfl | rfl
  · obtain ⟨p, vs, rfl, q1, q2⟩ := r2.wk.lst
    exact ⟨a, p, ys, r1.wk.str, rfl, .inl (by rw [← RpL.ofStrs q2]; exact SqL.of q1), g1, c2.flat m2 g2 Rp.str⟩
  · obtain ⟨p, vs, rfl, q1, q2⟩ := r2.wk.tup
    exact ⟨a, p, ys, r1.wk.str, rfl, .inr (by rw [← RpL.ofStrs q2]; exact q1), g1, c2.flat m2 g2 Rp.str⟩
end
/-! ### tables and tuples of the module -/
section
variable {X : Cx} {Ts : AP} {W : WX} {e : Expr} {te : DE} {x : Str} {p pos : Pos} {a : Addr} {kvs : List (Str × Int)}
def dInTab (kvs : List (Str × Int)) (te : DE) : DE := fun X ρ Q => te X ρ fun d _ ρ1 => zK d fun z => Q (.bl (kvs.lookup z).isSome) .sh ρ1
theorem dInTab_ev {Xf : XF} {ρ : List Sl} {Q : D → Kd → List Sl → Prop} : dInTab kvs te Xf ρ Q = te Xf ρ (kk fun d _ ρ1 => zK d (kk fun z => Q (.bl (kvs.lookup z).isSome) .sh ρ1)) := rfl
theorem de_inTab (LK : KLook X.K X.w a kvs) (hg : Gl X x) (hm : X.mg x = some (.ref a)) (he : PE X e (upE X.K Ts W te)) (hd : (x == ("__debug__" : Str)) = false := by decide) (hk : behindInMarks .In (.Name x p) = false := by rfl) : PE X (.Compare e [.In] [.Name x p] pos) (upE X.K Ts W (dInTab kvs te)) := by
  refine (pe_cmpR op_inK he (pe_glob (v := .ref a) hg hm rfl hd) hk).imp fun σ H Q h => ?_
  obtain ⟨A, O, ρ, Xf, Qd, m, h, c⟩ := h
  refine ⟨A, O, ρ, Xf, _, m, h, fun d κ ρ1 v H1 A1 O1 h1 s1 t1 m1 r1 => ?_, c.x⟩
  obtain ⟨z, rfl, h1⟩ := h1.get
  exact ⟨a, z, _, r1.wk.str, rfl, (LK z).2, (c.move s1 t1 m).flat m1 h1 Rp.bl⟩
def dIxTab (kvs : List (Str × Int)) (te : DE) : DE := fun X ρ Q => te X ρ fun d _ ρ1 => zK d fun z => oK (kvs.lookup z) fun i => Q (.int i) .sh ρ1
theorem dIxTab_ev {Xf : XF} {ρ : List Sl} {Q : D → Kd → List Sl → Prop} : dIxTab kvs te Xf ρ Q = te Xf ρ (kk fun d _ ρ1 => zK d (kk fun z => oK (kvs.lookup z) (kk fun i => Q (.int i) .sh ρ1))) := rfl
theorem de_ixTab (LK : KLook X.K X.w a kvs) (hg : Gl X x) (hm : X.mg x = some (.ref a)) (he : PE X e (upE X.K Ts W te)) (hs : PlainIx e) (hd : (x == ("__debug__" : Str)) = false := by decide) : PE X (.Subscript (.Name x p) e pos) (upE X.K Ts W (dIxTab kvs te)) := by
  refine (pe_ix ix_kdict (pe_glob (v := .ref a) hg hm rfl hd) he hs).imp fun σ H Q h => ?_
  obtain ⟨A, O, ρ, Xf, Qd, m, h, c⟩ := h
  refine ⟨A, O, ρ, Xf, _, m, h, fun d κ ρ1 v H1 A1 O1 h1 s1 t1 m1 r1 => ?_, c.x⟩
  obtain ⟨z, rfl, h1⟩ := h1.get
  obtain ⟨i, ei, h1⟩ := oK.get h1
  exact ⟨a, z, .int i, rfl, r1.wk.str, (LK z).1 i ei, (c.move s1 t1 m).flat m1 h1 Rp.int⟩
theorem de_tupG {ss : List Str} (hB : ∀ H, SqT X.K H a (ss.map V.str)) (hg : Gl X x) (hm : X.mg x = some (.ref a)) (hd : (x == ("__debug__" : Str)) = false := by decide) : PE X (.Name x pos) (upE X.K Ts W (dC (.tup (ss.map .str)))) :=
  de_glob (v := .ref a) hg hm rfl (fun H A => Rp.tup (hB H) RpL.strs) hd
end
/-! ### x in data -/
def gInD (d e : D) (Q : D → Kd → Prop) : Prop := match e with
  | .lst ds => shp d = true ∧ shp (.lst ds) = true ∧ Q (.bl (ds.any fun z => eqD z d)) .sh
  | _ => False
theorem gInD_l {d : D} {ds : List D} {Q : D → Kd → Prop} : gInD d (.lst ds) Q = (shp d = true ∧ shp (.lst ds) = true ∧ Q (.bl (ds.any fun z => eqD z d)) .sh) := rfl
theorem pdL_map : ∀ ds : List D, pdL ds = ds.map pd
  | [] => by unfold pdL; rfl
  | d :: r => by unfold pdL; rw [pdL_map r]; rfl
theorem dop_inD {X : Cx} {Ts : AP} (hu : X.A.units + 65 < cLine) : DOp X Ts (compareOp .In) gInD := by
  refine ⟨_, op_inD hu, fun W σ H A O ρ Xf Qd Q d e v w hd he m c q => ?_⟩
  unfold gInD at q
  split at q
  · rename_i ds
    obtain ⟨h1, h2, q⟩ := q
    have e2 : (pdL ds).any (fun z => PyData.eqv z (pd d)) = ds.any fun z => eqD z d := by
      rw [pdL_map, List.any_map]
      rfl
    have s2 := shaped_of h2
    have d2 := he.dp (He.ba h2).1
    unfold pd at s2 d2
    refine ⟨pd d, pdL ds, hd.dp (He.ba h1).1, d2, shaped_of h1, s2, ?_⟩
    rw [e2]
    exact c.flat m q Rp.bl
  · exact q.elim
theorem units65 {k : Nat} {A : Around} (r : Room k A) : A.units + 65 < cLine := by have := r.un; omega
theorem is_tt {ds : List D} : isD "tuple" (.tup ds) = some true := by show kitB "tuple" "tuple" = _; decide +kernel
theorem is_ll {ds : List D} : isD "list" (.lst ds) = some true := by show kitB "list" "list" = _; decide +kernel
theorem is_tn : isD "tuple" .non = some false := by show kitB "NoneType" "tuple" = _; decide +kernel
theorem is_bn : isD "bool" .non = some false := by show kitB "NoneType" "bool" = _; decide +kernel
/-! ### a sign in a text; a op b op c; a text of the module -/
def gInS (d e : D) (Q : D → Kd → Prop) : Prop := zK e fun z => ∃ c : Nat, d = .str ⟨#[c]⟩ ∧ Q (.bl (decide (c ∈ z.cps.toList))) .sh
def gNinS (d e : D) (Q : D → Kd → Prop) : Prop := zK e fun z => ∃ c : Nat, d = .str ⟨#[c]⟩ ∧ Q (.bl (!decide (c ∈ z.cps.toList))) .sh
theorem inS_i {c : Nat} {P : Nat → Prop} : (∃ b : Nat, D.str ⟨#[c]⟩ = .str ⟨#[b]⟩ ∧ P b) = P c := propext ⟨fun ⟨b, e, h⟩ => by cases e; exact h, fun h => ⟨c, rfl, h⟩⟩
theorem gInS_s {c : Nat} {z : Str} {Q : D → Kd → Prop} : gInS (.str ⟨#[c]⟩) (.str z) Q = Q (.bl (decide (c ∈ z.cps.toList))) .sh := inS_i (P := fun c => Q (.bl (decide (c ∈ z.cps.toList))) .sh)
theorem gNinS_s {c : Nat} {z : Str} {Q : D → Kd → Prop} : gNinS (.str ⟨#[c]⟩) (.str z) Q = Q (.bl (!decide (c ∈ z.cps.toList))) .sh := inS_i (P := fun c => Q (.bl (!decide (c ∈ z.cps.toList))) .sh)
section
variable {X : Cx} {Ts : AP} {W : WX} {a b c : Expr} {ta tb tc : DE} {x : Str} {pos : Pos}
theorem dop_inS : DOp X Ts (compareOp .In) gInS := ⟨_, op_in_sign, fun W σ H A O ρ Xf Qd Q d e v w hd he m c q => by
  obtain ⟨z, rfl, k, rfl, q2⟩ := zK.get q
  exact ⟨k, z, hd.str, he.str, c.flat m q2 Rp.bl⟩⟩
theorem dop_ninS : DOp X Ts (compareOp .NotIn) gNinS := ⟨_, op_notIn_sign, fun W σ H A O ρ Xf Qd Q d e v w hd he m c q => by
  obtain ⟨z, rfl, k, rfl, q2⟩ := zK.get q
  exact ⟨k, z, hd.str, he.str, c.flat m q2 Rp.bl⟩⟩
def chK (z : D) (P R : Prop) (_ : Tag P := ⟨⟩) (_ : Tag R := ⟨⟩) : Prop := match z with
  | .bl true => P
  | .bl false => R
  | _ => False
theorem chK_b {k : Bool} {P R : Prop} (s : Tag P) (u : Tag R) : chK (.bl k) P R s u = iK k P R s u := by cases k <;> rfl
def dChn (g g' : D → D → (D → Kd → Prop) → Prop) (ta tb tc : DE) : DT := fun X ρ Q => ta X ρ fun d _ ρ1 => tb X ρ1 fun e _ ρ2 => g d e fun z _ => chK z (tc X ρ2 fun f _ ρ3 => g' e f fun y _ => tK y fun b => Q b ρ3) (Q false ρ2)
theorem dChn_ev {g g' : D → D → (D → Kd → Prop) → Prop} {Xf : XF} {ρ : List Sl} {Q : Bool → List Sl → Prop} : dChn g g' ta tb tc Xf ρ Q = ta Xf ρ (kk fun d _ ρ1 => tb Xf ρ1 (kk fun e _ ρ2 => g d e (kk fun z _ => chK z (tc Xf ρ2 (kk fun f _ ρ3 => g' e f (kk fun y _ => tK y (kk fun b => Q b ρ3)))) (Q false ρ2)))) := rfl
theorem dt_chain {op op' : CmpOp} {g g' : D → D → (D → Kd → Prop) → Prop} (ho : DOp X Ts (compareOp op) g) (ho' : DOp X Ts (compareOp op') g') (ha : PE X a (upE X.K Ts W ta)) (hb : PE X b (upE X.K Ts W tb)) (hc : PE X c (upE X.K Ts W tc)) (hm : lastMarks [op, op'] [b, c] = false := by with_unfolding_all rfl) :
    PT X (.Compare a [op, op'] [b, c] pos) (upT X.K Ts W (dChn g g' ta tb tc)) := by
  obtain ⟨r, h1, h2⟩ := ho
  obtain ⟨r', h1', h2'⟩ := ho'
  refine (pt_chain h1 h1' ha hb hc hm).imp fun σ H Q h => ?_
  obtain ⟨A, O, ρ, Xf, Qd, m, h, cn⟩ := h
  refine ⟨A, O, ρ, Xf, _, m, h, fun d κ ρ1 v H1 A1 O1 q1 s1 t1 m1 r1 => ?_, cn.x⟩
  have c1 := cn.move s1 t1 m
  refine ⟨A1, O1, ρ1, Xf, _, m1, q1, fun e κ2 ρ2 u H2 A2 O2 q2 s2 t2 m2 r2 => ?_, c1.x⟩
  have c2 := c1.move s2 t2 m1
  have wd := r1.wk.tr s2 t2 m1.sub
  refine h2 W σ H2 A2 O2 ρ2 Xf (fun z κ ρ3 => ρ3 = ρ2 ∧ chK z (tc Xf ρ2 fun f _ ρ3 => g' e f fun y _ => tK y fun b => Qd b ρ3) (Qd false ρ2)) _ d e v u wd r2.wk m2 ⟨fun z κ3 ρ3 w H3 A3 O3 q3 s3 t3 m3 r3 => ?_, fun x ρ' cls od H' A' O' => c2.x x ρ' cls od H' A' O'⟩ ?_
  · obtain ⟨rfl, q3⟩ := q3
    have c3 := c2.move s3 t3 m2
    unfold chK at q3
    split at q3
    · refine ⟨true, r3.bl, ?_⟩
      refine ⟨A3, O3, ρ3, Xf, _, m3, q3, fun f κ4 ρ4 y H4 A4 O4 q4 s4 t4 m4 r4 => ?_, c3.x⟩
      have c4 := c3.move s4 t4 m3
      have we := (r2.wk.tr s3 t3 m2.sub).tr s4 t4 m3.sub
      refine h2' W σ H4 A4 O4 ρ4 Xf (fun y κ ρ5 => ρ5 = ρ4 ∧ tK y fun b => Qd b ρ4) _ e f u y we r4.wk m4 ⟨fun z κ5 ρ5 w5 H5 A5 O5 q5 s5 t5 m5 r5 => ?_, fun x ρ' cls od H' A' O' => c4.x x ρ' cls od H' A' O'⟩ ?_
      · obtain ⟨rfl, q5⟩ := q5
        unfold tK at q5
        split at q5
        · exact ⟨_, r5.bl, c4.q _ _ _ _ _ q5 s5 t5 m5⟩
        · exact q5.elim
      · have e : (fun (y : D) (κ : Kd) => ρ4 = ρ4 ∧ tK y fun b => Qd b ρ4) = fun y _ => tK y fun b => Qd b ρ4 := by funext y κ; simp
        show g' _ _ (fun (y : D) (κ : Kd) => ρ4 = ρ4 ∧ tK y fun b => Qd b ρ4)
        rw [e]
        exact q4
    · exact ⟨false, r3.bl, false, rfl, c3.q _ _ _ _ _ q3 Sm.refl Tr.refl m3⟩
    · exact q3.elim
  · have e0 : (fun (z : D) (κ : Kd) => ρ2 = ρ2 ∧ chK z (tc Xf ρ2 fun f _ ρ3 => g' e f fun y _ => tK y fun b => Qd b ρ3) (Qd false ρ2)) = fun z _ => chK z (tc Xf ρ2 fun f _ ρ3 => g' e f fun y _ => tK y fun b => Qd b ρ3) (Qd false ρ2) := by funext y κ; simp
    show g _ _ (fun (z : D) (κ : Kd) => ρ2 = ρ2 ∧ chK z (tc Xf ρ2 fun f _ ρ3 => g' e f fun y _ => tK y fun b => Qd b ρ3) (Qd false ρ2))
    rw [e0]
    exact q2
/-- a text of the module -/
theorem de_strG {z : Str} (hm : ∃ t, X.mg x = some (.str z t)) (hg : Gl X x) (hd : (x == ("__debug__" : Str)) = false := by decide) : PE X (.Name x pos) (upE X.K Ts W (dC (.str z))) := by
  obtain ⟨t, hm⟩ := hm
  exact de_glob (v := .str z) hg hm ⟨t, rfl⟩ (fun H A => Rp.str) hd
end
end DL

-- part DL12
set_option Elab.async false
set_option linter.all false
set_option maxRecDepth 100000
set_option maxHeartbeats 2000000
/-! replace by written texts where a token is out; the place of a value in a list -/
namespace DL
open PySem PySem.Spec PyProof.Rows L2 GxR GS GA GD PySem.W PySem.Calls CwR
/-- e answers, and a token is out behind it -/
def PEO (X : Cx) (e : Expr) (t : TE) : Prop := ∀ (pins : List (Addr × Obj)) (s : Shared) (σ : L2.St) (H : Hp) (Q : VK), Inv X pins σ H s → t σ H Q → wpAny (model X.prog X.w) X.A (eval e X.env) (fun v s1 => 1 ≤ s1.toks ∧ EP X pins σ Q v s1) X.xe s
section
variable {X : Cx} {a b e : Expr} {es : List Expr} {ta tb te : TE} {tr : TA} {c : Str} {j : Nat} {p pos : Pos}
theorem PEO.imp {t t' : TE} (h : PEO X e t) (i : ∀ σ H Q, t' σ H Q → t σ H Q) : PEO X e t' := fun pins s σ H Q I q => h pins s σ H Q I (i σ H Q q)
theorem PET.imp {t t' : TE} (h : PET X e t) (i : ∀ σ H Q, t' σ H Q → t σ H Q) : PET X e t' := fun pins s σ H Q h0 I q => h pins s σ H Q h0 I (i σ H Q q)
theorem PAT.imp {t t' : TA} (h : PAT X es t) (i : ∀ σ H Q, t' σ H Q → t σ H Q) : PAT X es t' := fun pos pins s σ H Q h0 I q => h pos pins s σ H Q h0 I (i σ H Q q)
theorem peo_binR {op : Operator} {r : R2} (ho : OpR X (binaryOp op) r) (ha : PE X a ta) (hb : ∀ σ H Q, tb σ H Q → Q (V.str c) H) : PEO X (.BinOp a op (.Constant (.str c) j p) pos) (tOp r ta tb) := by
  intro pins s σ H Q I h
  refine wpAny_BinOp (thn (ha.run pins s σ H _ I h) fun v s1 ⟨x, H1, I1, r1, q1⟩ => Calls.Constant_str ?_)
  refine wpAny_mono (PySem.wpAny_toks (ho pins { s1 with toks := s1.toks + 1 } σ H1 x (.str c) v _ Q (I1.tok _) r1 ⟨_, rfl⟩ (hb _ _ _ q1))) (fun v s2 q => ⟨?_, q.2⟩) fun _ _ z => z.2
  have hk : s1.toks + 1 ≤ s2.toks := q.1
  omega
theorem peo_binL {op : Operator} {r : R2} (ho : OpR X (binaryOp op) r) (ha : ∀ σ H Q, ta σ H Q → Q (V.str c) H) (hb : PE X b tb) : PEO X (.BinOp (.Constant (.str c) j p) op b pos) (tOp r ta tb) := by
  intro pins s σ H Q I h
  refine wpAny_BinOp (Calls.Constant_str ?_)
  have I0 : Inv X pins σ H { s with toks := s.toks + 1 } := I.tok _
  refine wpAny_mono (PySem.wpAny_toks (hb.run pins { s with toks := s.toks + 1 } σ H _ I0 (ha _ _ _ h))) (fun u s2 q => ?_) fun _ _ z => z.2
  obtain ⟨hk, y, H2, I2, r2, q2⟩ := q
  refine wpAny_mono (PySem.wpAny_toks (ho pins s2 σ H2 (.str c) y _ u Q I2 ⟨_, rfl⟩ r2 q2)) (fun v s3 q => ⟨?_, q.2⟩) fun _ _ z => z.2
  have hk1 : s.toks + 1 ≤ s2.toks := hk
  have hk2 : s2.toks ≤ s3.toks := q.1
  omega
theorem pa_consO (he : PEO X e te) (hr : PAT X es tr) (hs : starEach (e :: es) X.env = (false, eval e X.env) :: starEach es X.env := by rfl) : PA X (e :: es) (tCons te tr) := by
  refine ⟨fun pos pins s σ H Q I h => ?_⟩
  rw [hs]
  show wpAny _ _ (spliced ((false, eval e X.env) :: backTo pos (starEach es X.env))) _ _ s
  exact Calls.spliced_cons (wpAny_mono (he pins s σ H _ I h) (fun v s1 ⟨hk, x, H1, I1, r1, q1⟩ => thn (hr pos pins s1 σ H1 _ hk I1 q1) fun us s2 ⟨xs, H2, I2, r2, q2⟩ => ⟨x :: xs, H2, I2, .cons r1 r2, q2⟩) fun _ _ z => z)
end
section
variable {X : Cx} {Ts : AP} {W : WX} {a b e o : Expr} {es : List Expr} {ta tb te to : DE} {tr : DA} {c y z : Str} {j k : Nat} {p c0 c1 apos pos : Pos}
theorem up_cons {σ : L2.St} {H : Hp} {Q : List V → Hp → Prop} (h : upA X.K Ts W (dCons te tr) σ H Q) : tCons (upE X.K Ts W te) (upA X.K Ts W tr) σ H Q := by
  obtain ⟨A, O, ρ, Xf, Qd, m, h, c⟩ := h
  refine ⟨A, O, ρ, Xf, _, m, h, fun d κ ρ1 v H1 A1 O1 h1 s1 t1 m1 r1 => ?_, c.x⟩
  have c1 := c.move s1 t1 m
  refine ⟨A1, O1, ρ1, Xf, _, m1, h1.2, fun ds ρ2 vs H2 A2 O2 h2 s2 t2 m2 r2 => ?_, c1.x⟩
  exact c1.q _ ρ2 _ H2 A2 O2 h2 s2 t2 m2 (RpL.cons ((r1.rp h1.1).tr t2 m1.sub) r2)
theorem up_str {σ : L2.St} {H : Hp} {Q : VK} (h : upE X.K Ts W (dC (.str c)) σ H Q) : Q (V.str c) H := by
  obtain ⟨A, O, ρ, Xf, Qd, m, h, c⟩ := h
  exact c.flat m h Rp.str
theorem dat_nil : PAT X [] (upA X.K Ts W dNil) := fun pos pins s σ H Q _ I h => da_nil.run pos pins s σ H Q I h
theorem dat_cons (he : PET X e (upE X.K Ts W te)) (hr : PAT X es (upA X.K Ts W tr)) (hs : starEach (e :: es) X.env = (false, eval e X.env) :: starEach es X.env := by rfl) : PAT X (e :: es) (upA X.K Ts W (dCons te tr)) :=
  PAT.imp (pat_cons he hr hs) fun _ _ _ h => up_cons h
theorem da_binR {op : Operator} {g : D → D → (D → Kd → Prop) → Prop} (ho : DOp X Ts (binaryOp op) g) (ha : PE X a (upE X.K Ts W ta)) (hr : PAT X es (upA X.K Ts W tr)) (hs : starEach (.BinOp a op (.Constant (.str c) j p) pos :: es) X.env = (false, eval (.BinOp a op (.Constant (.str c) j p) pos) X.env) :: starEach es X.env := by rfl) : PA X (.BinOp a op (.Constant (.str c) j p) pos :: es) (upA X.K Ts W (dCons (dBin g ta (dC (.str c))) tr)) := by
  obtain ⟨r, h1, h2⟩ := ho
  exact (pa_consO (PEO.imp (peo_binR (tb := upE X.K Ts W (dC (.str c))) h1 ha fun σ H Q h => up_str h) fun σ H Q h => up_bin h2 h) hr hs).imp fun _ _ _ h => up_cons h
theorem da_binL {op : Operator} {g : D → D → (D → Kd → Prop) → Prop} (ho : DOp X Ts (binaryOp op) g) (hb : PE X b (upE X.K Ts W tb)) (hr : PAT X es (upA X.K Ts W tr)) (hs : starEach (.BinOp (.Constant (.str c) j p) op b pos :: es) X.env = (false, eval (.BinOp (.Constant (.str c) j p) op b pos) X.env) :: starEach es X.env := by rfl) : PA X (.BinOp (.Constant (.str c) j p) op b pos :: es) (upA X.K Ts W (dCons (dBin g (dC (.str c)) tb) tr)) := by
  obtain ⟨r, h1, h2⟩ := ho
  exact (pa_consO (PEO.imp (peo_binL (ta := upE X.K Ts W (dC (.str c))) h1 (fun σ H Q h => up_str h) hb) fun σ H Q h => up_bin h2 h) hr hs).imp fun _ _ _ h => up_cons h
/-- o.replace of two written texts -/
def dRepl (y z : Str) (to : DE) : DE := fun X ρ Q => to X ρ fun d _ ρ1 => zK d fun x => x.length + (x.length + 1) * z.length ≤ 16777216 ∧ Q (.str (Txt.replace x y z)) .sh ρ1
theorem dRepl_ev {Xf : XF} {ρ : List Sl} {Q : D → Kd → List Sl → Prop} : dRepl y z to Xf ρ Q = to Xf ρ (kk fun d _ ρ1 => zK d (kk fun x => x.length + (x.length + 1) * z.length ≤ 16777216 ∧ Q (.str (Txt.replace x y z)) .sh ρ1)) := rfl
theorem det_repl (ho : PE X o (upE X.K Ts W to)) (hyz : (y == z) = false := by decide)
    (hst : starEach [.Constant (.str y) j c0, .Constant (.str z) k c1] X.env = [(false, eval (.Constant (.str y) j c0) X.env), (false, eval (.Constant (.str z) k c1) X.env)] := by rfl)
    (hbase : attributeBase o "replace" X.env (eval o X.env) = eval o X.env := by rfl) (hline : (apos.endLine == pos.line) = true := by rfl) :
    PET X (.Call (.Attribute o "replace" apos) [.Constant (.str y) j c0, .Constant (.str z) k c1] [] pos) (upE X.K Ts W (dRepl y z to)) := by
  refine PET.imp (pet_replC ho hyz hst hbase hline) fun σ H Q h => ?_
  obtain ⟨A, O, ρ, Xf, Qd, m, h, c⟩ := h
  refine ⟨A, O, ρ, Xf, _, m, h, fun d κ ρ1 v H1 A1 O1 h1 s1 t1 m1 r1 => ?_, c.x⟩
  obtain ⟨x, rfl, h1, h2⟩ := h1.get
  exact ⟨x, r1.wk.str, h1, (c.move s1 t1 m).flat m1 h2 Rp.str⟩
/-! ### list.index -/
def liK (d : D) (Q : List D → Prop) : Prop := match d with
  | .lst ds => Q ds
  | _ => False
theorem liK_l {ds : List D} {Q : List D → Prop} : liK (.lst ds) Q = Q ds := rfl
theorem liK.get {d : D} {Q : List D → Prop} (h : liK d Q) : ∃ ds, d = .lst ds ∧ Q ds := by
  unfold liK at h
  split at h
  · exact ⟨_, rfl, h⟩
  · exact h.elim
/-- the first place of a value -/
def idK (ds : List D) (e : D) (Q : Nat → Prop) : Prop := shp e = true ∧ shp (.lst ds) = true ∧ ∃ (j : Nat) (z : D), ds[j]? = some z ∧ eqD z e = true ∧ (∀ (m : Nat) (z' : D), m < j → ds[m]? = some z' → eqD z' e = false) ∧ Q j
theorem idK.mk {ds : List D} {e : D} {Q : Nat → Prop} {j : Nat} {z : D} (h1 : shp e = true) (h2 : shp (.lst ds) = true) (h3 : ds[j]? = some z) (h4 : eqD z e = true) (h5 : ∀ (m : Nat) (z' : D), m < j → ds[m]? = some z' → eqD z' e = false) (q : Q j) : idK ds e Q := ⟨h1, h2, j, z, h3, h4, h5, q⟩
def dIdx (to te : DE) : DE := fun X ρ Q => to X ρ fun d _ ρ1 => liK d fun ds => te X ρ1 fun e _ ρ2 => idK ds e fun j => Q (.int (j : Nat)) .sh ρ2
theorem dIdx_ev {Xf : XF} {ρ : List Sl} {Q : D → Kd → List Sl → Prop} : dIdx to te Xf ρ Q = to Xf ρ (kk fun d _ ρ1 => liK d (kk fun ds => te Xf ρ1 (kk fun e _ ρ2 => idK ds e (kk fun j => Q (.int (j : Nat)) .sh ρ2)))) := rfl
theorem pdL_get : ∀ (ds : List D) (m : Nat) (z : PyData), (pdL ds)[m]? = some z → ∃ d, ds[m]? = some d ∧ pd d = z := fun ds m z h => by
  rw [pdL_map, List.getElem?_map] at h
  cases e : ds[m]? with
  | none => rw [e] at h; cases h
  | some d => rw [e] at h; cases h; exact ⟨d, rfl, rfl⟩
theorem de_idx (hu : X.A.units + 65 < cLine) (ho : PE X o (upE X.K Ts W to)) (he : PE X e (upE X.K Ts W te)) (hs : starEach [e] X.env = (false, eval e X.env) :: starEach [] X.env := by rfl)
    (hbase : attributeBase o "index" X.env (eval o X.env) = eval o X.env := by rfl)
    (hfew : ((backTo pos (starEach [e] X.env)).all (fun x => !x.1) && (backToKw pos (keywordEach [] X.env)).all (fun x => x.1.isSome)
      && decide ([e].length + ([] : List Keyword).length + (if ([] : List Keyword).isEmpty then 0 else 1) < 30)) = true := by rfl)
    (hline : (apos.endLine == pos.line) = true := by rfl) (hplain : (backTo pos (starEach [] X.env)).any (·.1) = false := by rfl) :
    PE X (.Call (.Attribute o "index" apos) [e] [] pos) (upE X.K Ts W (dIdx to te)) := by
  refine (pe_bm F.plainAttrs_list F.slot_list_index F.type_list_index (mt_indexD hu) ho (pa_cons he pa_nil hs) hbase hfew hline hs hplain).imp fun σ H Q h => ?_
  obtain ⟨A, O, ρ, Xf, Qd, m, h, c⟩ := h
  refine ⟨A, O, ρ, Xf, _, m, h, fun d κ ρ1 v H1 A1 O1 h1 s1 t1 m1 r1 => ?_, c.x⟩
  have c1 := c.move s1 t1 m
  obtain ⟨ds, rfl, h1⟩ := h1.get
  have wk := r1.wk
  obtain ⟨l, vs, rfl, q1, q2⟩ := id wk.lst
  refine ⟨Or.inl ⟨rfl, _, SqL.of q1⟩, A1, O1, ρ1, Xf, _, m1, h1, fun z κ2 ρ2 y H2 A2 O2 h2 s2 t2 m2 r2 => ?_, c1.x⟩
  obtain ⟨g1, g2, j, z', g3, g4, g5, q⟩ := h2
  have c2 := c1.move s2 t2 m1
  have wd := (wk.tr s2 t2 m1.sub).dp (He.ba g2).1
  have we := r2.wk.dp (He.ba g1).1
  have sl := shaped_of g2
  unfold pd at wd sl
  refine ⟨l, y, pd z, pdL ds, j, pd z', rfl, rfl, wd, we, sl, shaped_of g1, ?_, g4, fun mm zz lt e2 => ?_, c2.flat m2 q Rp.int⟩
  · rw [pdL_map, List.getElem?_map, g3]
    rfl
  · obtain ⟨d2, e3, rfl⟩ := pdL_get _ _ _ e2
    exact g5 mm d2 lt e3
end
/-! ### a number among numbers -/
theorem has_two (n a b : Int) : hasD (.int n) [.int a, .int b] = (decide (n = a) || decide (n = b)) := by
  have e1 : hasD (.int n) [.int a, .int b] = (eqV (.int a) (.int n) || (eqV (.int b) (.int n) || false)) := rfl
  rw [e1, Bool.or_false]
  have e : ∀ a b : Int, eqV (.int a) (.int b) = decide (b = a) := fun a b => by
    show decide (a = b) = _
    exact decide_eq_decide.mpr eq_comm
  rw [e, e]
end DL

-- part GU
set_option Elab.async false
set_option linter.all false
set_option maxRecDepth 100000
set_option maxHeartbeats 2000000
/-! a law whose own def is walked with its caller known (no repr is under way there) -/
namespace LG
open PySem PySem.Spec PyProof.Rows L2 LamX
/-- the promise of the law's def, called by the caller -/
def RunC (P : Program) (w : World) (K : PySem.W.Frag) (mg : Str → Option Value) (base : Heap) (CX : CXT) (f : Addr) (fd : FuncData) (ps : List Str) (sp : Sp) : Prop :=
  ∀ (s : Shared) (H : Hp) (args : Args) (us : List Value) (vs : List V) (Q : VK) (E : XK), Env0 P w K mg base callerA [] s H → BindsTo s fd args (ps.zip us) → Vals vs us → sp vs H Q E →
    codeAny (model P w) callerA (.call (.ref f) args) (CR CX [] P w H s Q E) s
section
variable {P : Program} {w : World} {K : PySem.W.Frag} {mg mb : Str → Option Value} {CX : CXT} {f a : Addr} {fd : FuncData} {x : Str} {sp : Sp} {s : Shared} {us : List Value} {ns : List Int} {cs : List (Addr × Addr)}
abbrev tbO : Obj := { cls := .none, data := .fields #[] }
abbrev lsO (us : List Value) : Obj := { cls := .type "list", data := .seq us.toArray }
/-- what is tracked: the tables, the script where it is none of the module -/
theorem tracked (nT : ∀ p ∈ cs, K.lookup p.2 = none) (KX : K.In s.heap) (hT : ∀ p ∈ cs, s.heap.get? p.2 = some tbO) (ha : s.heap.get? a = some (lsO us)) (hi : IntsAre us ns) (hl : ns.length ≤ sizeLine) :
    ∃ H : Hp, (∀ p ∈ cs, H p.2 = some (.tbl #[])) ∧ (∀ b, H b = none ∨ (b ∈ cs.map (·.2) ∧ H b = some (.tbl #[])) ∨ (b = a ∧ K.lookup a = none ∧ H b = some (.frz (lsO us) (.lst (ns.map V.int))))) ∧ SqL K H a (ns.map V.int) ∧ HOk P w H s.heap := by
  have rv := vals_ints hi
  have lv := hi.length
  have anT : a ∉ cs.map (·.2) := fun z => by
    obtain ⟨p, hp, e⟩ := List.mem_map.mp z
    have q := hT p hp
    rw [e, ha] at q
    have := congrArg Obj.data (Option.some.inj q)
    cases this
  have onT : ∀ b, b ∈ cs.map (·.2) → s.heap.get? b = some tbO := fun b hb => by
    obtain ⟨p, hp, e⟩ := List.mem_map.mp hb
    rw [← e]; exact hT p hp
  by_cases hk : K.lookup a = none
  · refine ⟨fun b => if b ∈ cs.map (·.2) then some (.tbl #[]) else if b = a then some (.frz (lsO us) (.lst (ns.map V.int))) else none, fun p hp => if_pos (List.mem_map.mpr ⟨p, hp, rfl⟩), fun b => ?_, .inl (.inr ⟨lsO us, (if_neg anT).trans (if_pos rfl)⟩), fun b u e => ?_⟩
    · by_cases h1 : b ∈ cs.map (·.2)
      · exact .inr (.inl ⟨h1, if_pos h1⟩)
      · by_cases h2 : b = a
        · exact .inr (.inr ⟨h2, hk, (if_neg h1).trans (if_pos h2)⟩)
        · exact .inl ((if_neg h1).trans (if_neg h2))
    · by_cases h1 : b ∈ cs.map (·.2)
      · have e := (if_pos h1).symm.trans e
        cases e
        exact onT b h1
      · have e := (if_neg h1).symm.trans e
        by_cases h2 : b = a
        · have e := (if_pos h2).symm.trans e
          cases e
          rw [h2]
          exact ⟨ha, by rw [List.length_map]; exact hl, us, _, rv, ha⟩
        · have e := (if_neg h2).symm.trans e
          cases e
  · obtain ⟨o, ho⟩ := Option.ne_none_iff_exists'.mp hk
    have eo := KX a o ho
    rw [ha] at eo
    cases eo
    refine ⟨fun b => if b ∈ cs.map (·.2) then some (.tbl #[]) else none, fun p hp => if_pos (List.mem_map.mpr ⟨p, hp, rfl⟩), fun b => ?_, .inr ⟨_, us.toArray, _, ho, rfl, rfl, rfl, by rw [List.size_toArray, lv]; exact hl, by simpa using rv⟩, fun b u e => ?_⟩
    · by_cases h1 : b ∈ cs.map (·.2)
      · exact .inr (.inl ⟨h1, if_pos h1⟩)
      · exact .inl (if_neg h1)
    · by_cases h1 : b ∈ cs.map (·.2)
      · have e := (if_pos h1).symm.trans e
        cases e
        exact onT b h1
      · have e := (if_neg h1).symm.trans e
        cases e
/-- the caller's call -/
theorem callC (KX : K.In s.heap) (hns : s.heap.Ns mainGlobals mg) (hb : s.heap.Ns builtinsNs mb) (hbb : ∀ x : Str, x ≠ "__name__" → mb x = bootBuiltins x) (hlim : s.heap.NoLimit) (hg : s.gens = #[])
    (hT : ∀ p ∈ cs, s.heap.get? p.2 = some tbO) (nT : ∀ p ∈ cs, K.lookup p.2 = none) (C : ∀ p ∈ cs, PySem.W.CodeHd s.heap p.1 p.2)
    (hbm : ∃ (bm : Addr) (ob : Obj), mg "__builtins__" = some (.ref bm) ∧ bm ≠ builtinsNs ∧ s.heap.get? bm = some ob ∧ ob.cls = .type "module" ∧ ob.dict = some builtinsNs ∧ ob.data = .plain)
    (ha : s.heap.get? a = some (lsO us)) (hi : IntsAre us ns) (hl : ns.length ≤ sizeLine)
    (F : ∀ base : Heap, K.In base → base.Ns mainGlobals mg → (∀ p ∈ cs, LamX.TabB base mg p.1 p.2) → RunC P w K mg base CX f fd [x] sp) (hbind : ∀ (s : Shared) (u : Value), BindsTo s fd ⟨[u], []⟩ [(x, u)])
    (hsp : ∀ H : Hp, (∀ p ∈ cs, H p.2 = some (.tbl #[])) → SqL K H a (ns.map V.int) → sp [.ref a] H (fun v _ => v = .bl true) fun _ _ _ => False) (hCX : ∀ H e s', CX [] H s (fun _ _ _ => False) e s' → False) :
    codeAny (model P w) callerA (.call (.ref f) ⟨[.ref a], []⟩) (fun r s' => r = .ok (.ret (.bool true)) ∧ OldK s.heap s'.heap ∧ s'.os = s.os ∧ AllBare s'.gens) s := by
  obtain ⟨H, hH, hO, hS, hok⟩ := tracked (P := P) (w := w) nT KX hT ha hi hl
  -- what is untracked: all that is no list and no table
  have un : ∀ {b : Addr} {o : Obj}, s.heap.get? b = some o → (∀ d n, o.data ≠ .seq d n) → o.data ≠ .fields #[] → H b = none := fun {b o} e n1 n2 => by
    rcases hO b with z | ⟨z, _⟩ | ⟨z, _⟩
    · exact z
    · obtain ⟨p, hp, q⟩ := List.mem_map.mp z
      have g := hT p hp
      rw [q, e] at g
      cases g
      exact absurd rfl n2
    · rw [z, ha] at e
      cases e
      exact absurd rfl (n1 _ _)
  have ns' : ∀ {b : Addr} {m : Str → Option Value}, s.heap.Ns b m → (hidT s.heap H).Ns b m := fun {b m} ⟨o, es, ep, e, d, r⟩ =>
    ⟨o, es, ep, hidT_get e (un e (fun _ _ z => by rw [d] at z; cases z) fun z => by rw [d] at z; cases z), d, r⟩
  have kin : K.In (hidT s.heap H) := fun b o e => hidT_get (KX b o e) (by
    rcases hO b with z | ⟨z, _⟩ | ⟨z, k, _⟩
    · exact z
    · obtain ⟨p, hp, q⟩ := List.mem_map.mp z
      rw [← q, nT p hp] at e
      cases e
    · rw [z, k] at e
      cases e)
  obtain ⟨ml, l1, l2⟩ := hlim
  have hM : L2.Mod K mg (hidT s.heap H) := ⟨kin, ns' hns, ⟨mb, ns' hb, hbb⟩, ⟨ml, ns' l1, l2⟩⟩
  have e0 : Env0 P w K mg (hidT s.heap H) callerA [] s H := ⟨rfl, hM, fun b o e => of_hidT e, Nat.le_of_eq (hidT_size _ _), trivial, fun b hb => absurd (show b ∈ ([] : List Addr) from hb) List.not_mem_nil, hok, .of_eq hg⟩
  have tabs : ∀ p ∈ cs, LamX.TabB (hidT s.heap H) mg p.1 p.2 := fun p hp => by
    have tp := hT p hp
    refine ⟨?_, ?_, fun z => ?_⟩
    · obtain ⟨o, u1, fl, tf, gs, tg, iF, tx, tt, e1, r1, r2, r3, rr⟩ := C p hp
      refine ⟨o, u1, fl, tf, gs, tg, iF, tx, tt, hidT_get e1 (un e1 (fun _ _ z => by rw [r2] at z; cases z) fun z => ?_), r1, r2, r3, rr⟩
      rw [r2] at z
      cases z
      simp at r3
    · obtain ⟨bm, ob, b1, b2, b3, b4, b5, b6⟩ := hbm
      refine ⟨bm, ob, b1, b2, fun q => ?_, fun q => ?_, hidT_get b3 (un b3 (fun _ _ z => by rw [b6] at z; cases z) fun z => by rw [b6] at z; cases z), b4, b5, b6⟩
      · obtain ⟨o, es, ep, e, hd, _⟩ := hns
        rw [q, e] at b3
        cases b3
        rw [hd] at b6
        cases b6
      · rw [q, tp] at b3
        cases b3
        cases b6
    · obtain ⟨o, es, ep, e, hd, _⟩ := hns
      rw [z, tp] at e
      cases e
      cases hd
  refine codeAny_mono (F _ kin (ns' hns) tabs s H ⟨[.ref a], []⟩ [.ref a] [.ref a] _ _ e0 (hbind s (.ref a)) (.cons rfl .nil) (hsp H hH hS)) fun r s' h => ?_
  match r, h with
  | .error e, h => exact (hCX H e s' h).elim
  | .ok .next, h => exact h.elim
  | .ok .brk, h => exact h.elim
  | .ok .cont, h => exact h.elim
  | .ok (.ret u), ⟨v, H', os, bare, un', hok', r', q⟩ =>
    have q : v = .bl true := q
    subst q
    obtain rfl : u = Value.bool true := r'
    have still : ∀ b o, b ∉ cs.map (·.2) → s.heap.get? b = some o → s'.heap.get? b = some o := fun b o nb e => by
      rcases hO b with z | ⟨z, _⟩ | ⟨z, _, g⟩
      · exact un'.keep b o e z (fun z => absurd (show b ∈ ([] : List Addr) from z) List.not_mem_nil) List.not_mem_nil
      · exact absurd z nb
      · have g1 := (hok b _ g).1
        have g2 := (hok' b _ (un'.frzs b _ _ g)).1
        rw [e] at g1
        cases g1
        exact g2
    have more : ∀ b, b ∈ cs.map (·.2) → ∃ m : Array Value, s'.heap.get? b = some { cls := .none, data := .fields m } := fun b hb => by
      obtain ⟨p, hp, e⟩ := List.mem_map.mp hb
      obtain ⟨m, z⟩ := un'.tbls p.2 #[] (hH p hp)
      rw [← e]
      exact ⟨_, hok' p.2 _ z⟩
    refine ⟨rfl, ⟨fun b o e => ?_, fun b o e => ?_⟩, os, bare⟩
    · by_cases hb : b ∈ cs.map (·.2)
      · obtain ⟨m, hm⟩ := more b hb
        obtain ⟨p, hp, ep⟩ := List.mem_map.mp hb
        have tp := hT p hp
        rw [ep, e] at tp
        cases tp
        rw [← ep] at hm ⊢
        exact .inr (.inl ⟨((C p hp).tab (hT p hp)).isCodeTable, rfl, #[], m, rfl, by rw [Array.empty_append]; exact hm⟩)
      · exact .inl (still b o hb e)
    · by_cases hb : b ∈ cs.map (·.2)
      · exact ⟨_, (more b hb).choose_spec⟩
      · exact ⟨o, still b o hb e⟩
end
/-- what is known of the law at the head's heap -/
def LawAtC (l : PySem.W.OpenLaw) (w : World) (K : PySem.W.Frag) (CX : CXT) (n : Nat) (x : Str) (mg : Str → Option Value) (fa : Addr) (h : Heap) : Prop :=
  ∃ (fd : FuncData) (cs : List (Addr × Addr)) (sp : Sp), (∀ p ∈ cs, h.get? p.2 = some tbO) ∧ (∀ p ∈ cs, K.lookup p.2 = none) ∧ (∀ p ∈ cs, PySem.W.CodeHd h p.1 p.2) ∧ (∀ (s : Shared) (u : Value), BindsTo s fd ⟨[u], []⟩ [(x, u)]) ∧
    (∀ (H : Hp) (a : Addr) (ns : List Int), ns.length ≤ n → (∀ z ∈ ns, Builtin.Int.intBits z ≤ 1048576) → (∀ p ∈ cs, H p.2 = some (.tbl #[])) → SqL K H a (ns.map V.int) → sp [.ref a] H (fun v _ => v = .bl true) fun _ _ _ => False) ∧
    ∀ base : Heap, K.In base → base.Ns mainGlobals mg → (∀ p ∈ cs, LamX.TabB base mg p.1 p.2) → RunC l.prog w K mg base CX fa fd [x] sp
theorem walkC {l : PySem.W.OpenLaw} {n : Nat} {q : Program} {loose : List Str} {XP : (Str → Option Value) → Heap → Prop} {YP : World → Heap → Prop} {d : DefRec} {CX : World → CXT} {x : Str} (hn : l.most = some n) (hz : n ≤ sizeLine) (hdf : d.params.defaults = [])
    (F : ∀ (w : World) (mg : Str → Option Value) (fa : Addr) (h : Heap), YP w h → h.Ns mainGlobals mg → mg d.name = some (.ref fa) → ∃ K : PySem.W.Frag, K.In h ∧ LawAtC l w K (CX w) n x mg fa h)
    (hCX : ∀ (w : World) (H : Hp) (s : Shared) (e : Value) (s' : Shared), CX w [] H s (fun _ _ _ => False) e s' → False) : PySem.W.WalkO q loose XP YP l.row.toRowW d [] (fun f vs => PySem.call f vs) := by
  refine Att.attach_callB hn hdf fun w t0 t1 mg mb fa o pm cd doc a vs ns G Y _ _ _ hmg hob hin hlen hbit hg => ?_
  obtain ⟨K, KX, fd, cs, sp, hT, nT, C, bd, hs, hF⟩ := F w mg fa _ Y G.T.g hmg
  exact callC KX G.T.g G.T.b G.T.builtins G.T.nolimit hg hT nT C G.T.bmain hob hin (Nat.le_trans hlen hz) hF bd (fun H h1 h2 => hs H a ns hlen hbit h1 h2) fun H e s' => hCX w H t1 e s'
section
open GR GD GS
variable {P : Program} {w : World} {K : PySem.W.Frag} {mg : Str → Option Value} {base : Heap} {x qual : Str} {params : Arguments} {body : List Stmt} {scope : Scope} {dvs : List V} {kws : List (Str × V)} {f : Addr} {fd : FuncData}
/-- .. by its body, the caller known -/
theorem okG {CX : CXT} {N ps : List Str} {k : Nat} {sp : Sp} {c : Addr} (F : FunD K x qual params body scope dvs kws f fd) (hc : fd.code = .ref c) (S : FnScope N ps scope) (hr : Room (k + 1) callerA) (len : ∀ vs H Q E, sp vs H Q E → vs.length = ps.length)
    (hbody : ∀ (s : Shared) (H : Hp) (vs : List V) (Q : VK) (E : XK), Room k (callerA.deeper (envOfC qual scope s.heap.objs.size f (.ref c))) → sp vs H Q E →
      ∃ t, PSs (cxOf CX P w K mg base N qual scope f (.ref c) callerA [] s H E) body t ∧ t { nx := fun _ H' => Q .non H', rt := Q } (start N vs) H) : RunC P w K mg base CX f fd ps sp := by
  obtain ⟨oc, od, dV, kV, doc, pm, an, cdv, ct, osl, rfl, lk, hcd, _, _⟩ := F.ex
  obtain rfl : cdv = .ref c := hc
  intro s H args us vs Q E e0 hb r hsp
  have hl := len _ _ _ _ hsp
  have kept : ∀ b o, base.get? b = some o → s.heap.get? b = some o := fun b o e => (e0.bs b o e).1
  have KX := e0.mod.kin.keeps kept
  have lim := e0.mod.nolimit.keeps kept
  refine codeAny_call_function hr.depth (KX _ _ lk) rfl S.co S.gen rfl (PySem.W.codeRec_of KX hcd) (hb _ _ _ _ (wpAny_newFunctionEnv_cells S.kind (fun y hy => ?_) fun env he s1 z => ?_))
  · rcases S.par y.1 (List.of_mem_zip hy).1 with q | q
    · exact .inl q
    · exact .inr ⟨q, PySem.W.cellsFrom_some _ _ _ (.inl q)⟩
  · subst he
    refine ⟨lim.keeps z.toInCall.keep, codeAny_func ?_⟩
    obtain ⟨t, ht, hq⟩ := hbody s H vs Q E (hr.deeper _) hsp
    have I : Inv (cxOf CX P w K mg base N qual scope f (.ref c) callerA [] s H E) [] (start N vs) H s1 := inv_start S hr.hd e0 hl r z
    refine wpAny_mono (ht.run [] s1 (start N vs) H _ I hq) (fun fl s' hs => ?_) fun _ _ h => h
    match fl, hs with
    | .ret u, ⟨v, _, H', J, rv, q⟩ => exact ⟨v, H', J.os, J.bare, J.base, J.hok, rv, q⟩
    | .next, ⟨_, H', J, q⟩ => exact ⟨V.non, H', J.os, J.bare, J.base, J.hok, (rfl : RelV V.non Value.none), q⟩
    | .brk, ⟨_, _, _, q⟩ => exact q.elim
    | .cont, ⟨_, _, _, q⟩ => exact q.elim
end
end LG

-- part GV
set_option Elab.async false
set_option linter.all false
set_option maxRecDepth 100000
set_option maxHeartbeats 2000000
/-! the law's def over data, its caller known; repr of data there -/
namespace DL
open PySem PySem.Spec PyProof.Rows L2 GxR GS GA GD
theorem fnG_data {P : Program} {w : World} {K : PySem.W.Frag} {mg : Str → Option Value} {base : Heap} {f : Addr} {fd : FuncData} {ps : List Str} {n k : Nat} {φ : Ph} {Ts : AP} {xn qual : Str} {params : Arguments} {body : List Stmt} {scope : Scope} {dvs : List V} {kws : List (Str × V)} {c : Addr} {N : List Str} (F : FunD K xn qual params body scope dvs kws f fd) (hc : fd.code = .ref c) (S : FnScope N ps scope) (hn : ps.length = n) (hr : Room (k + 1) callerA)
    (hbody : ∀ (s : Shared) (H : Hp) (E : XK), Room k (callerA.deeper (envOfC qual scope s.heap.objs.size f (.ref c))) → ∃ t : DS, PSs (cxOf (L2.CX P w) P w K mg base N qual scope f (.ref c) callerA [] s H E) body (upS K Ts (fun cls d _ H => E cls d H) t) ∧
      ∀ ds Qd Xd, φ ds Qd Xd → ds.length = n → t (fun x _ => Xd x) ⟨fun _ => Qd .non, Qd, fun _ => False, fun _ => False⟩ (ds.map Sl.va ++ List.replicate (N.length - n) .no)) : LG.RunC P w K mg base (L2.CX P w) f fd ps (spD K Ts n φ) := by
  refine LG.okG F hc S hr (fun vs H Q E h => by rw [hn]; exact h.1) fun s H vs Q E hr h => ?_
  obtain ⟨t, hp, ht⟩ := hbody s H E hr
  refine ⟨_, hp, ?_⟩
  obtain ⟨hl, A0, ds, Qd, Xd, tb, trk, r, h, kq, kx⟩ := h
  have dl : ds.length = n := by rw [r.len]; exact hl
  have sl : ∀ {i : Nat} {x : Sl}, (ds.map Sl.va ++ List.replicate (N.length - n) .no)[i]? = some x → x ≠ .no → ∃ d, ds[i]? = some d ∧ x = .va d := fun {i x} e nx => by
    by_cases hi : i < ds.length
    · rw [List.getElem?_append_left (by rw [List.length_map]; exact hi), List.getElem?_map] at e
      cases q : ds[i]? with
      | none => rw [q] at e; cases e
      | some d => rw [q] at e; cases e; exact ⟨d, rfl, rfl⟩
    · rw [List.getElem?_append_right (by rw [List.length_map]; omega)] at e
      exact absurd (List.eq_of_mem_replicate (List.mem_of_getElem? e)) nx
  have m : Mt K Ts H A0 (fun _ => False) (ds.map Sl.va ++ List.replicate (N.length - n) .no) (L2.start N vs) := by
    refine ⟨tb, fun b z => z.elim, trk, ?_, fun i d e => ?_, fun i es e => ?_, fun i j es fs a e => ?_, fun b z => z.elim⟩
    · unfold L2.start
      rw [List.length_append, List.length_append, List.length_map, List.length_map, List.length_replicate, List.length_replicate, r.len, hl]
    · obtain ⟨z, e1, e2⟩ := sl e (by simp)
      cases e2
      obtain ⟨v, g1, g2⟩ := r.get' e1
      refine ⟨v, ?_, g2⟩
      unfold L2.start
      rw [List.getElem?_append_left (by rw [List.length_map]; exact (List.getElem?_eq_some_iff.mp g1).1), List.getElem?_map, g1]
      rfl
    · obtain ⟨z, e1, e2⟩ := sl e (by simp)
      cases e2
    · obtain ⟨z, e1, e2⟩ := sl e (by simp)
      cases e2
  have old : ∀ {A' O' : AP} {H' : Hp}, Tr A0 (fun _ => False) H A' O' H' → ∀ b, A0 b → A' b := fun t b z => t.old b z fun q => q
  refine ⟨A0, _, _, _, _, m, ht ds Qd Xd h dl, ⟨fun ρ' σ' H' A' O' q t m' => ?_, fun _ _ _ _ _ q => q.elim, fun _ _ _ _ _ q => q.elim, fun d v H' A' O' q t r' => ?_, fun x ρ' cls od σ' H' A' O' q t m' r' => ?_⟩⟩
  · exact kq .non .non H' A' q t.kp.sm (old t) (by unfold Rp; rfl)
  · exact kq d v H' A' q t.kp.sm (old t) r'
  · exact kx x cls od H' A' q t.kp.sm (old t) r'
/-! ### repr of a list, a tuple -/
def seqD : D → Bool
  | .lst _ => true
  | .tup _ => true
  | _ => false
mutual
theorem noDict : ∀ d : D, (pd d).hasDict = false
  | .non => by unfold pd PyData.hasDict; rfl
  | .bl _ => by unfold pd PyData.hasDict; rfl
  | .int _ => by unfold pd PyData.hasDict; rfl
  | .str _ => by unfold pd PyData.hasDict; rfl
  | .lst xs => by unfold pd PyData.hasDict; exact noDicts xs
  | .tup xs => by unfold pd PyData.hasDict; exact noDicts xs
  | .ins _ _ _ => by unfold pd PyData.hasDict; rfl
  | .dct _ _ => by unfold pd PyData.hasDict; rfl
  | .scr _ => by unfold pd PyData.hasDict; rfl
  | .xc _ _ _ _ => by unfold pd PyData.hasDict; rfl
theorem noDicts : ∀ ds : List D, PyData.hasDictAll (pdL ds) = false
  | [] => by unfold pdL PyData.hasDictAll; rfl
  | d :: r => by unfold pdL PyData.hasDictAll; rw [noDict d, noDicts r]; rfl
end
def rRepr (K : PySem.W.Frag) : List V → Hp → VK → Prop := fun vs H Q => ∃ (a : Addr) (d : PyData), vs = [.ref a] ∧ Dp K H (.ref a) d ∧ d.showable = true ∧ d.hasDict = false ∧ d.depth ≤ 64 ∧ d.shown.length ≤ sizeLine ∧ Q (.str d.shown) H
theorem call_repr {X : Cx} (hg : X.A.guards = some []) (hu : X.A.units + 66 < cLine) : CallR X (.builtin "repr") (rRepr X.K) := by
  intro pins s σ H xs us Q I rv h
  obtain ⟨a, d, rfl, hd, h1, h2, h3, h4, q⟩ := h
  cases rv with
  | cons r1 r2 =>
    cases r2
    rename_i u
    obtain rfl : u = Value.ref a := r1
    obtain ⟨as, rd⟩ := Dp.reads I d (.ref a) (.ref a) hd rfl
    exact repr_of_reads' rd h1 (fun z => by rw [h2] at z; cases z) hg (by omega) (fun _ _ e => e) (fun h' u tk k => ⟨.str d.shown, H, I.kept k, ⟨u, rfl⟩, q⟩) h4
def gRepr : List D → (D → Kd → Prop) → Prop
  | [d], Q => seqD d = true ∧ okD d = true ∧ (pd d).showable = true ∧ dpt d ≤ 60 ∧ (pd d).shown.length ≤ sizeLine ∧ Q (.str (pd d).shown) .sh
  | _, _ => False
theorem gRepr_1 {d : D} {Q : D → Kd → Prop} : gRepr [d] Q = (seqD d = true ∧ okD d = true ∧ (pd d).showable = true ∧ dpt d ≤ 60 ∧ (pd d).shown.length ≤ sizeLine ∧ Q (.str (pd d).shown) .sh) := rfl
theorem dcl_repr {X : Cx} {Ts : AP} (hg : X.A.guards = some []) (hu : X.A.units + 66 < cLine) : DCl X Ts (.builtin "repr") gRepr := by
  refine ⟨_, call_repr hg hu, fun W σ H A O ρ Xf Qd Q ds vs hw m c g => ?_⟩
  unfold gRepr at g
  split at g
  · rename_i d
    obtain ⟨h1, h2, h3, h4, h5, q⟩ := g
    obtain ⟨v, rfl, wv⟩ := hw.one
    have dp := wv.dp h2
    have hv : ∃ a, v = .ref a := by
      cases d with
      | lst xs => obtain ⟨a, vs, e, _⟩ := wv.lst; exact ⟨a, e⟩
      | tup xs => obtain ⟨a, vs, e, _⟩ := wv.tup; exact ⟨a, e⟩
      | _ => cases h1
    obtain ⟨a, rfl⟩ := hv
    have := dpt_of d
    exact ⟨a, pd d, rfl, dp, h3, noDict d, by omega, h5, c.flat m q Rp.str⟩
  · exact g.elim
theorem units66 {k : Nat} {A : Around} (r : Room k A) : A.units + 66 < cLine := by have := r.un; omega
end DL

-- part XU
set_option Elab.async false
set_option linter.all false
set_option maxRecDepth 100000
set_option maxHeartbeats 2000000
namespace K8
open PySem PySem.Spec PyProof.Rows L2 GxR GS GA GD DL
/-- the tables of the defs that hold generator expressions -/
def Tz (K : PySem.W.Frag) : AP := fun P => ∃ p ∈ tf, P = (He.cT K p).2
theorem Tz_mk {K : PySem.W.Frag} (p : Str × Option Str) (h : p ∈ tf) : Tz K (He.cT K p).2 := ⟨p, h, rfl⟩
section
variable {w : World} {K : PySem.W.Frag} {mg : Str → Option Value} {base : Heap}
theorem X_InvalidNotation (T : Tx w K mg base) : ∃ fdx, FnOk R.prog w K mg base CX0 1 (Hd.suA K suInvalidNotation) fdx ["self", "line"] (SU.spS (He.ga K "InvalidNotation") "line" (fun σ H Q => tJs [tC (.str "invalid notation in line "), tFmt (tVar 1)] Str.empty σ H fun out H1 => Q (.str out) H1)) ∧
    OexC K (He.ga K "InvalidNotation") ∧ PySem.W.findIn K (.ref (He.ga K "InvalidNotation")) "__init__" = some (some (.ref (Hd.suA K suInvalidNotation))) ∧ PySem.W.typeIn K (.ref (Hd.suA K suInvalidNotation)) = some (.type "function") ∧ Binds K fdx ["self", "line"] [] := by
  obtain ⟨cc, fdx, S, hb, bx, iC, tI, no⟩ := T.sup_InvalidNotation
  refine ⟨fdx, S.ok (k := 0) T.free_super hb no (fun A outer s H E => pe_joined (.cons pe_str (.cons (pe_fmt (pe_var rfl (.inl ?_))) .nil))) (by decide) (by decide) rfl (fun env => rfl) (fun env => ⟨_, rfl⟩), S.oex, iC, tI, bx⟩
  show fdx.scope.names.lookup _ = _
  rw [S.fsc]
  rfl
end
end K8
namespace K8
open PySem PySem.Spec PyProof.Rows L2 GxR GS GA GD DL
def em_InvalidNotation : Str → Option Bool := fun c => if c = ("InvalidNotation" : Str) then some true else none
theorem em_i : em_InvalidNotation "InvalidNotation" = some true := by unfold em_InvalidNotation; rw [if_pos rfl]
theorem hem_InvalidNotation {w : World} {K : PySem.W.Frag} {mg : Str → Option Value} {base : Heap} (T : Tx w K mg base) (c : Str) (b : Bool) (h : em_InvalidNotation c = some b) : PySem.W.exmOne K (.ref (He.ga K c)) (.ref (He.ga K "InvalidNotation")) = some b := by
  unfold em_InvalidNotation at h
  split at h
  · rename_i e
    subst e
    cases h
    exact T.exm_InvalidNotation_InvalidNotation
  · cases h
end K8

-- part DN1
set_option Elab.async false
set_option linter.all false
set_option maxRecDepth 100000
set_option maxHeartbeats 2000000
namespace DL
open PySem PySem.Spec PyProof.Rows L2 GxR GS GA GD DL
local macro_rules | `(tactic| walk_at "ev") => `(tactic| simp (dsimp := false) only [k0, k1, k2, k3, iK_true, iK_false, iK_not, sl_0, sl_s, vK_va, vK_ow, bK_va, bK_ow, dVar_ev, dVarB_ev, dC_ev, dBin_ev, tK_bl, dTst_ev, dAnd_ev, dOr_ev, dNot_ev, dAndV_ev, dOrV_ev, dNotV_ev, dIf_ev, dNext_ev, dSeq_st, kS_e, dBreak_ev, dCont_ev, dRet_ev, dRetN_ev, dIfS_ev, dSet_ev, dDrop_ev, slOf_fr, slOf_sh, gAdd_i, gAdd_s, gAdd_l, gAdd_t, num_i, gEq_i, gEq_s, gEq_b, gEq_sn, gEq_ns, gEq_in, gEq_ni, gEq_nn, gEq_is, gEq_si, gNe_i, gNe_s, gNe_b, gNe_sn, gNe_ns, gNe_in, gNe_ni, gNe_nn, gEq_l, gEq_t, gNe_l, gNe_t,
    gIsN_n, gIsN_s, gIsN_i, gIsN_l, gIsN_t, gNotN_n, gNotN_s, gNotN_i, gNotN_l, gNotN_t, gIn_l, gIn_t, gNin_l, gNin_t, flD_s, flD_i, flD_n, flD_str, flD_int, has_strs, gIx_l, gIx_t, gIx_s, DL.at0, at1, at2, at3, at4, at5, dNoPart_ev, pK_i, dPart_ev, sK_l, sK_r, sK_t, sK_s, dSl_ev, dNil_ev, dCons_ev, dConsW_ev, itsD_l, itsD_t, dStar_ev, dLst_ev, dTup_ev, dBlt_ev, gLen_l, gLen_t, gLen_r, gLen_s, gInt_i, gInt_b, gAbs_i, gMax_i, gMin_i, gTuple_l, gTuple_t, gList_l, gList_t, oW_ow, owAt_ev, dApp_ev, dStI_ev, wK_sh, wK_fr, wK_bo, wK_t, wK_r, wK_s, diVal_ev, rK_i, diRng_ev, eK_sh, eK_fr, eK_bo, diEnum_ev, dgName_ev, dgNil_ev, dgCons_ev, dgTup_ev, dAsg_ev, dFor_ev, dWhile_ev, dLc_ev, dGen_ev, dCall_ev, mK_i, dMeth_ev, fK_i, dFld_ev, nK_i, dNeg_ev, dYes_ev, oK_some, List.length_map, rng_len, Int.toNat_natCast,
    List.map_cons, List.map_nil, List.length_cons, List.length_nil, List.length_set, List.replicate_succ, List.replicate_zero, List.nil_append, List.cons_append, List.set_cons_zero, List.set_cons_succ, Nat.reduceAdd, Nat.reduceSub, ne_eq, reduceCtorEq, not_false_eq_true, not_true_eq_false, true_and, and_true, Nat.reduceLT, Nat.reduceLeDiff, Nat.zero_le, Bool.false_eq_true])
local macro_rules | `(tactic| walk_at "st") => `(tactic| simp (dsimp := false) only [k0, k1, k2, k3, iK_true, iK_false, iK_not, sl_0, sl_s, vK_va, vK_ow, bK_va, bK_ow, dVar_ev, dVarB_ev, dC_ev, dBin_ev, tK_bl, dTst_ev, dAnd_ev, dOr_ev, dNot_ev, dAndV_ev, dOrV_ev, dNotV_ev, dIf_ev, dNext_ev, dSeq_st, kS_e, dBreak_ev, dCont_ev, dRet_ev, dRetN_ev, dSet_ev, dDrop_ev, slOf_fr, slOf_sh, gAdd_i, gAdd_s, gAdd_l, gAdd_t, num_i, gEq_i, gEq_s, gEq_b, gEq_sn, gEq_ns, gEq_in, gEq_ni, gEq_nn, gEq_is, gEq_si, gNe_i, gNe_s, gNe_b, gNe_sn, gNe_ns, gNe_in, gNe_ni, gNe_nn, gEq_l, gEq_t, gNe_l, gNe_t,
    gIsN_n, gIsN_s, gIsN_i, gIsN_l, gIsN_t, gNotN_n, gNotN_s, gNotN_i, gNotN_l, gNotN_t, gIn_l, gIn_t, gNin_l, gNin_t, flD_s, flD_i, flD_n, flD_str, flD_int, has_strs, gIx_l, gIx_t, gIx_s, DL.at0, at1, at2, at3, at4, at5, dNoPart_ev, pK_i, dPart_ev, sK_l, sK_r, sK_t, sK_s, dSl_ev, dNil_ev, dCons_ev, dConsW_ev, itsD_l, itsD_t, dStar_ev, dLst_ev, dTup_ev, dBlt_ev, gLen_l, gLen_t, gLen_r, gLen_s, gInt_i, gInt_b, gAbs_i, gMax_i, gMin_i, gTuple_l, gTuple_t, gList_l, gList_t, oW_ow, owAt_ev, dApp_ev, dStI_ev, wK_sh, wK_fr, wK_bo, wK_t, wK_r, wK_s, diVal_ev, rK_i, diRng_ev, eK_sh, eK_fr, eK_bo, diEnum_ev, dgName_ev, dgNil_ev, dgCons_ev, dgTup_ev, dAsg_ev, dFor_ev, dWhile_ev, dLc_ev, dGen_ev, dCall_ev, mK_i, dMeth_ev, fK_i, dFld_ev, nK_i, dNeg_ev, dYes_ev, oK_some, List.length_map, rng_len, Int.toNat_natCast,
    List.map_cons, List.map_nil, List.length_cons, List.length_nil, List.length_set, List.replicate_succ, List.replicate_zero, List.nil_append, List.cons_append, List.set_cons_zero, List.set_cons_succ, Nat.reduceAdd, Nat.reduceSub, ne_eq, reduceCtorEq, not_false_eq_true, not_true_eq_false, true_and, and_true, Nat.reduceLT, Nat.reduceLeDiff, Nat.zero_le, Bool.false_eq_true])
def In9 (n : Int) : Prop := 0 ≤ n ∧ n < 1009
theorem in9 (i : Int) : In9 (i % 1009) := ⟨Int.emod_nonneg _ (by decide), Int.emod_lt_of_pos _ (by decide)⟩
theorem log2_small {i : Int} {b : Nat} (h0 : 0 ≤ i) (h : i < 2 ^ b) : i.natAbs.log2 ≤ b := by
  by_cases z : i.natAbs = 0
  · rw [z]; show Nat.log2 0 ≤ b; rw [Nat.log2_zero]; omega
  · have : i.natAbs < 2 ^ b := by
      have e : ((i.natAbs : Nat) : Int) = i := by omega
      have : ((i.natAbs : Nat) : Int) < ((2 ^ b : Nat) : Int) := by rw [e]; simpa using h
      exact Int.ofNat_lt.mp this
    exact Nat.le_of_lt ((Nat.log2_lt z).mpr this)
theorem log2_mono {i j : Int} (h0 : 0 ≤ i) (h : i ≤ j) : i.natAbs.log2 ≤ j.natAbs.log2 := by
  have hij : i.natAbs ≤ j.natAbs := by omega
  by_cases z : i.natAbs = 0
  · rw [z]; show Nat.log2 0 ≤ _; rw [Nat.log2_zero]; omega
  · have hz : j.natAbs ≠ 0 := by omega
    exact (Nat.le_log2 hz).mpr (Nat.le_trans ((Nat.le_log2 z).mp (Nat.le_refl _)) hij)
abbrev N_law_row : List Str := ["cell", "many", "row", "rest", "mixed", "k"]
def r_law_row : DS :=
  (dSeq (dSet 2 (dLst dNil))
  (dSeq (dSet 3 (dBlt gAbs (dConsW (dVarB 0) dNil)))
  (dSeq (dSet 4 (dBin gMod (dBlt gInt (dConsW (dBin gAdd (dBin gMul (dVarB 3) (dC (.int 48271))) (dC (.int 69621))) dNil)) (dC (.int 2147483647))))
  (dSeq (dFor (diRng (dConsW (dVarB 1) dNil)) (dgName 5) (dSeq (dSet 4 (dBin gMod (dBlt gInt (dConsW (dBin gAdd (dBin gMul (dVarB 4) (dC (.int 16807))) (dBin gMul (dC (.int 271)) (dBin gAdd (dVarB 5) (dC (.int 3))))) dNil)) (dC (.int 2147483629))))
  (dIfS (dTst (dBin gGe (dBlt gAbs (dConsW (dVarB 0) dNil)) (dBin gPow (dC (.int 10)) (dC (.int 18))))) (dSeq (dApp 2 (dBin gMod (dBlt gInt (dConsW (dVarB 3) dNil)) (dC (.int 1009))))
  (dSet 3 (dBin gDiv (dVarB 3) (dC (.int 1009))))) (dApp 2 (dBin gMod (dBlt gInt (dConsW (dBin gDiv (dVarB 4) (dC (.int 7))) dNil)) (dC (.int 1009)))))))
  (dRet (dVar 2))))))
/- theorem M_law_row : MD r_law_row 2 6 ph_law_row := fun ds Qd Xd h hl => by -/
def ph__law_row : Ph := fun ds Qd _ => ∃ (cell : Int) (m : Nat), ds = [.int cell, .int m] ∧ cell.natAbs.log2 < 4000000 ∧ m ≤ 4000 ∧ ∀ ns : List Int, ns.length = m → (∀ n ∈ ns, In9 n) → Qd (.lst (ns.map .int))
theorem M_law_row : MD r_law_row 2 6 ph__law_row := fun ds Qd Xd h hl => by
  obtain ⟨cell, m, rfl, hc, hm, q⟩ := h
  unfold r_law_row
  walk_at "ev"
  have e0 : (0 : Int) ≤ (if cell < 0 then -cell else cell) := by split <;> omega
  have en : (if cell < 0 then -cell else cell).natAbs = cell.natAbs := by split <;> omega
  generalize hr : (if cell < 0 then -cell else cell) = ab at e0 en
  have cm : ∀ r : Int, 0 ≤ r → r ≤ ab → CMulB r 48271 := fun r h0 h1 => by
    have := log2_mono h0 h1
    rw [en] at this
    show r.natAbs.log2 + (48271 : Nat).log2 < _
    have : (48271 : Nat).log2 = 15 := by decide
    omega
  refine ⟨cm ab e0 (Int.le_refl _), by decide, by omega, by omega, forK.rng (fun k ρ => ∃ (ns : List Int) (r mx : Int) (x : Sl), ρ = [.va (.int cell), .va (.int m), .ow (ns.map .int), .va (.int r), .va (.int mx), x] ∧ ns.length = k ∧ (∀ n ∈ ns, In9 n) ∧ 0 ≤ r ∧ r ≤ ab ∧ 0 ≤ mx ∧ mx < 2147483648)
    ⟨[], ab, _, _, rfl, rfl, by simp, e0, Int.le_refl _, Int.emod_nonneg _ (by decide), by
      have := Int.emod_lt_of_pos (ab * 48271 + 69621) (show (0 : Int) < 2147483647 by decide)
      omega⟩ ?_ ?_⟩
  · rintro k ρ' lt ⟨ns, r, mx, x, rfl, hl, h9, r0, r1, m0, m1⟩
    walk_at "ev"
    have c1 : CMulB mx 16807 := by
      have := log2_small (b := 31) m0 (by omega)
      show mx.natAbs.log2 + (16807 : Nat).log2 < _
      have : (16807 : Nat).log2 = 14 := by decide
      omega
    have c2 : CMulB 271 ((k : Int) + 3) := by
      have := log2_small (i := (k : Int) + 3) (b := 13) (by omega) (by show _ < (2 : Int) ^ 13; omega)
      show (271 : Nat).log2 + ((k : Int) + 3).natAbs.log2 < _
      have : (271 : Nat).log2 = 8 := by decide
      omega
    have z := Int.emod_nonneg (mx * 16807 + 271 * ((k : Int) + 3)) (show (2147483629 : Int) ≠ 0 by decide)
    have z2 := Int.emod_lt_of_pos (mx * 16807 + 271 * ((k : Int) + 3)) (show (0 : Int) < 2147483629 by decide)
    have nl : ns.length < sizeLine := by unfold sizeLine; omega
    refine ⟨c1, c2, by decide, ⟨by decide, by decide, by decide⟩, ?_⟩
    have e9 : ∀ y : Int, In9 y → ∀ n ∈ ns ++ [y], In9 n := fun y hy n hn => (List.mem_append.mp hn).elim (h9 n) fun z => by rw [List.mem_singleton.mp z]; exact hy
    refine iK_d (fun _ => ?_) fun _ => ?_
    · walk_at "ev"
      refine ⟨by decide, nl, ⟨by decide, by decide⟩, ns ++ [r % 1009], r / 1009, _, _, by rw [List.map_append]; rfl, by rw [List.length_append, hl]; rfl, e9 _ (in9 _), by omega, by omega, z, by omega⟩
    · walk_at "ev"
      refine ⟨⟨by decide, by decide⟩, by decide, nl, ns ++ [(mx * 16807 + 271 * ((k : Int) + 3)) % 2147483629 / 7 % 1009], r, _, _, by rw [List.map_append]; rfl, by rw [List.length_append, hl]; rfl, e9 _ (in9 _), r0, r1, z, by omega⟩
  · rintro ρ' ⟨ns, r, mx, x, rfl, hl, h9, _⟩
    walk_at "ev"
    exact q ns hl h9
abbrev N_law_numbers : List Str := ["script", "many", "cells", "each", "numbers", "cell", "number"]
def r_law_numbers : DS :=
  (dSeq (dSet 2 (dSl (dVarB 0) dNoPart (dPart (dC (.int 63)))))
  (dSeq (dSet 3 (dBin gAdd (dC (.int 1)) (dBin gDiv (dVarB 1) (dBlt gMax (dConsW (dC (.int 1)) (dConsW (dBlt gLen (dConsW (dVarB 2) dNil)) dNil))))))
  (dSeq (dSet 4 (dLst dNil))
  (dSeq (dFor (diVal (dVar 2)) (dgName 5) (dFor (diVal (dCall 2 ph__law_row (dCons (dVar 5) (dCons (dVar 3) dNil)))) (dgName 6) (dApp 4 (dVar 6))))
  (dSeq (dWhile (dTst (dBin gLt (dBlt gLen (dConsW (dVarB 4) dNil)) (dVarB 1))) (dApp 4 (dC (.int 0))))
  (dRet (dSl (dVarB 4) dNoPart (dPart (dVarB 1)))))))))
/- theorem M_law_numbers : MD r_law_numbers 2 7 ph_law_numbers := fun ds Qd Xd h hl => by -/
def ph__law_numbers : Ph := fun ds Qd _ => ∃ (d : D) (sc : List Int) (m : Nat), ds = [d, .int m] ∧ (d = .scr sc ∨ d = .lst (sc.map .int)) ∧ (∀ c ∈ sc, c.natAbs.log2 < 4000000) ∧ sc.length ≤ 63 ∧ m ≤ 400 ∧ ∀ ns : List Int, ns.length = m → (∀ n ∈ ns, In9 n) → Qd (.lst (ns.map .int))
theorem M_law_numbers : MD r_law_numbers 2 7 ph__law_numbers := fun ds Qd Xd h hl => by
  obtain ⟨d, sc, m, rfl, hd0, hs, hl, hm, q⟩ := h
  unfold r_law_numbers
  have sk : ∀ lo hi f, sK d lo hi f = f (.lst (cutD (sc.map .int) lo hi)) .fr := fun lo hi f => by rcases hd0 with rfl | rfl <;> rfl
  walk_at "ev"
  simp (dsimp := false) only [sk]
  walk_at "ev"
  have ec : cutD (sc.map D.int) none (some 63) = sc.map D.int := (cutD_take _ 63).trans (List.take_of_length_le (by rw [List.length_map]; exact hl))
  simp only [ec, List.length_map]
  have hd : 0 < (if (sc.length : Int) > 1 then (sc.length : Int) else 1) ∧ (if (sc.length : Int) > 1 then (sc.length : Int) else 1) < 1073741824 := by split <;> omega
  generalize (if (sc.length : Int) > 1 then (sc.length : Int) else 1) = dv at hd
  have q0 : 0 ≤ (m : Int) / dv := Int.ediv_nonneg (by omega) (by omega)
  have q1 : (m : Int) / dv ≤ m := Int.ediv_le_self _ (by omega)
  obtain ⟨e, he, hle⟩ : ∃ e : Nat, (1 : Int) + m / dv = (e : Int) ∧ e ≤ 401 := ⟨(1 + (m : Int) / dv).toNat, by omega, by omega⟩
  rw [he]
  refine ⟨hd, forK.map (fun k ρ => ∃ (ns : List Int) (x y : Sl), ρ = [.va d, .va (.int m), .va (.lst (sc.map .int)), .va (.int e), .ow (ns.map .int), x, y] ∧ ns.length ≤ k * 401 ∧ ∀ n ∈ ns, In9 n) ⟨[], _, _, rfl, by simp, by simp⟩ ?_ ?_⟩
  · rintro k c ρ' hc lt ⟨ns, x, y, rfl, nl, h9⟩
    walk_at "ev"
    refine ⟨c, e, rfl, hs c (List.mem_of_getElem? hc), by omega, fun rs rl r9 => ?_⟩
    walk_at "ev"
    refine forK.map (fun j ρ => ∃ (ns : List Int) (y : Sl), ρ = [.va d, .va (.int m), .va (.lst (sc.map .int)), .va (.int e), .ow (ns.map .int), .va (.int c), y] ∧ ns.length ≤ k * 401 + j ∧ ∀ n ∈ ns, In9 n) ⟨ns, _, rfl, by omega, h9⟩ ?_ ?_
    · rintro j u ρ' hu lj ⟨ms, z, rfl, ml, m9⟩
      walk_at "ev"
      refine ⟨by unfold sizeLine; omega, ms ++ [u], _, by rw [List.map_append]; rfl, by rw [List.length_append]; show _ + 1 ≤ _; omega, fun n hn => (List.mem_append.mp hn).elim (m9 n) fun z => by rw [List.mem_singleton.mp z]; exact r9 u (List.mem_of_getElem? hu)⟩
    · rintro ρ' ⟨ms, z, rfl, ml, m9⟩
      exact ⟨ms, _, _, rfl, by omega, m9⟩
  · rintro ρ' ⟨ns, x, y, rfl, nl, h9⟩
    walk_at "ev"
    refine whileK.mk (fun n ρ => ∃ (ns : List Int), ρ = [.va d, .va (.int m), .va (.lst (sc.map .int)), .va (.int e), .ow (ns.map .int), x, y] ∧ ns.length ≤ 63 * 401 + m ∧ (∀ n ∈ ns, In9 n) ∧ n = m - ns.length) _ ⟨ns, rfl, by
      have := Nat.mul_le_mul_right 401 hl
      omega, h9, rfl⟩ ?_
    rintro n ρ1 ⟨ns, rfl, nl, h9, rfl⟩
    walk_at "ev"
    refine iK_d (fun c => ?_) fun c => ?_
    · walk_at "ev"
      refine ⟨by unfold sizeLine; omega, m - (ns.length + 1), by omega, ns ++ [0], by rw [List.map_append]; rfl, by rw [List.length_append]; show _ + 1 ≤ _; omega, fun n hn => (List.mem_append.mp hn).elim (h9 n) fun z => by rw [List.mem_singleton.mp z]; exact ⟨by decide, by decide⟩, by rw [List.length_append]; rfl⟩
    · walk_at "ev"
      rw [cutD_take, ← List.map_take]
      exact q _ (by rw [List.length_take]; omega) fun n hn => h9 n (List.mem_of_mem_take hn)
end DL

-- part PZ
set_option Elab.async false
set_option linter.all false
set_option maxRecDepth 100000
set_option maxHeartbeats 2000000
/-! words, plain -/
namespace K8
open PySem PySem.Spec PyProof.Rows L2 GxR GS GA GD DL
def letters : Str := "abcdefghijklmnopqrstuvwxyz"
def signs : Str := "abcdefghijklmnopqrstuvwxyz0123456789"
def isName (t : Str) : Bool := (decide (1 ≤ t.length) && decide (t.length ≤ 12)) && ((t.cps.toList.head?.any fun c => decide (c ∈ letters.cps.toList)) && t.cps.toList.all fun c => decide (c ∈ signs.cps.toList))
def mkS (l : List Nat) : Str := ⟨l.toArray⟩
theorem mkS_len (l : List Nat) : (mkS l).length = l.length := by
  show l.toArray.size = _
  rw [List.size_toArray]
theorem mkS_snoc (l : List Nat) (c : Nat) : mkS l ++ ⟨#[c]⟩ = mkS (l ++ [c]) := by
  show Str.mk (l.toArray ++ [c].toArray) = Str.mk (l ++ [c]).toArray
  rw [List.append_toArray]
theorem mkS_app (l r : List Nat) : mkS l ++ mkS r = mkS (l ++ r) := by
  show Str.mk (l.toArray ++ r.toArray) = Str.mk (l ++ r).toArray
  rw [List.append_toArray]
theorem mkS_inj {l r : List Nat} (h : mkS l = mkS r) : l = r := by
  have : l.toArray = r.toArray := congrArg Str.cps h
  have := congrArg Array.toList this
  simpa using this
theorem cutS_take (l : List Nat) (p : Nat) : cutS (mkS l) none (some (p : Int)) = mkS (l.take p) := by
  unfold cutS mkS
  have e1 : HT.sIx (Str.mk l.toArray).length 0 none = 0 := rfl
  have e2 : HT.sIx (Str.mk l.toArray).length (Str.mk l.toArray).length (some (p : Int)) = min p l.length := by
    have e : (Str.mk l.toArray).length = l.length := List.size_toArray ..
    rw [e]
    show (if (p : Int) < 0 then ((p : Int) + (l.length : Int)).toNat else min (p : Int).toNat l.length) = _
    rw [if_neg (by omega)]
    rfl
  rw [e1, e2]
  show Str.mk (List.take (min p l.length - 0) (List.drop 0 l)).toArray = _
  rw [Nat.sub_zero, List.drop_zero]
  congr 2
  rw [List.take_eq_take_iff]
  omega
theorem cutS_drop (l : List Nat) (p : Nat) : cutS (mkS l) (some (p : Int)) none = mkS (l.drop p) := by
  unfold cutS mkS
  have e : (Str.mk l.toArray).length = l.length := List.size_toArray ..
  have e1 : HT.sIx (Str.mk l.toArray).length 0 (some (p : Int)) = min p l.length := by
    rw [e]
    show (if (p : Int) < 0 then ((p : Int) + (l.length : Int)).toNat else min (p : Int).toNat l.length) = _
    rw [if_neg (by omega)]
    rfl
  have e2 : HT.sIx (Str.mk l.toArray).length (Str.mk l.toArray).length none = l.length := e
  rw [e1, e2]
  show Str.mk (List.take (l.length - min p l.length) (List.drop (min p l.length) l)).toArray = _
  congr 2
  rw [List.take_of_length_le (by rw [List.length_drop]; exact Nat.le_refl _)]
  by_cases h : p ≤ l.length
  · rw [Nat.min_eq_left h]
  · rw [Nat.min_eq_right (by omega), List.drop_of_length_le (by omega), List.drop_of_length_le (by omega)]
/-- the sign at a place, as a law picks it -/
def sg (i : Int) : Nat := signs.cps.toList.getD i.toNat 0
theorem sg_at {i : Int} (h0 : 0 ≤ i) (h1 : i < 36) : signs.cps[i.toNat]? = some (sg i) := by
  have hl : signs.cps.toList.length = 36 := by decide +kernel
  unfold sg
  rw [← Array.getElem?_toList, List.getD_eq_getElem?_getD, List.getElem?_eq_getElem (by omega)]
  rfl
theorem sg_mem {i : Int} (h0 : 0 ≤ i) (h1 : i < 36) : sg i ∈ signs.cps.toList := by
  have := sg_at h0 h1
  rw [← Array.getElem?_toList] at this
  exact List.mem_of_getElem? this
theorem sg_letter {i : Int} (h0 : 0 ≤ i) (h1 : i < 26) : sg i ∈ letters.cps.toList := by
  have h : ∀ k < 26, signs.cps.toList.getD k 0 ∈ letters.cps.toList := by decide +kernel
  exact h i.toNat (by omega)
theorem sg_inj {i j : Int} (h0 : 0 ≤ i) (h1 : i < 36) (h2 : 0 ≤ j) (h3 : j < 36) (h : sg i = sg j) : i = j := by
  have key : ∀ a < 36, ∀ b < 36, signs.cps.toList.getD a 0 = signs.cps.toList.getD b 0 → a = b := by decide +kernel
  have := key i.toNat (by omega) j.toNat (by omega) h
  omega
/-- the number at a place -/
def nu (ns : List Int) (i : Nat) : Int := ns.getD i 0
theorem nu_in9 {ns : List Int} (h : ∀ n ∈ ns, DL.In9 n) (i : Nat) : DL.In9 (nu ns i) := by
  unfold nu
  rw [List.getD_eq_getElem?_getD]
  cases e : ns[i]? with
  | none => exact ⟨by decide, by decide⟩
  | some x => exact h x (List.mem_of_getElem? e)
theorem atn {ns : List Int} {i : Int} {j : Nat} (e : i = (j : Int)) (h : j < ns.length) : atI (ns.map D.int) i = some (.int (nu ns j)) := at_ix (k := j) e (by
  unfold nu
  rw [List.getD_eq_getElem?_getD, List.getElem?_eq_getElem h]
  rfl)
theorem signs_at {i : Int} (h0 : 0 ≤ i) (h1 : i < 36) : atI signs.cps.toList i = some (sg i) := by
  have e : i = ((i.toNat : Nat) : Int) := by omega
  rw [e]
  refine atI_nat ?_
  have := sg_at h0 h1
  rw [← Array.getElem?_toList] at this
  rw [this]
  rw [← e]

def dL (l : List Str) : D := .lst (l.map .str)
def dOS : Option Str → D
  | none => .non
  | some s => .str s
abbrev Act := Str × Str × Option Str
/-- an action as a tuple, as a list of three -/
def dAc : Act → D := fun z => .tup [.str z.1, .str z.2.1, dOS z.2.2]
def dAl : Act → D := fun z => .lst [.str z.1, .str z.2.1, dOS z.2.2]
def dAo : Option Act → D
  | none => .non
  | some z => dAc z
/-- an action of words -/
def actW : List Str → Option Act
  | [a, b] => if [a, b].all isName = true then some (a, b, none) else none
  | [a, b, c] => if [a, b, c].all isName = true then some (a, b, some c) else none
  | _ => none
def lineW (l : Str) : Option Act := actW (Txt.split l " ")
/-- the lines of a plan, read -/
def acts (x : Str) : List (Option Act) := (Txt.split x "\n").map lineW
theorem acts_len (x : Str) : (acts x).length ≤ x.length + 2 := by
  unfold acts
  rw [List.length_map]
  exact PyProof.Rows.split_le x "\n"
theorem dAo_some (as : List Act) : (as.map some).map dAo = as.map dAc := by
  rw [List.map_map]
  rfl
theorem all_some : ∀ {l : List (Option Act)}, l.findIdx? Option.isNone = none → ∃ as : List Act, l = as.map some
  | [], _ => ⟨[], rfl⟩
  | none :: r, h => by rw [List.findIdx?_cons] at h; cases h
  | some z :: r, h => by
    rw [List.findIdx?_cons] at h
    have h : r.findIdx? Option.isNone = none := by simpa using h
    obtain ⟨as, rfl⟩ := all_some h
    exact ⟨z :: as, rfl⟩
theorem no_none (as : List Act) : (as.map some).findIdx? Option.isNone = none := by
  rw [List.findIdx?_eq_none_iff]
  intro x hx
  obtain ⟨z, _, rfl⟩ := List.mem_map.mp hx
  rfl
/-- what a text gives -/
def Out (x : Str) (Qd : D → Prop) (Xd : Xc → Prop) : Prop := if x = ("" : Str) then Qd (.lst []) else match (acts x).findIdx? Option.isNone with
  | some j => Xd ⟨"InvalidNotation", some ("line", .int ((j : Int) + 1))⟩
  | none => Qd (.lst ((acts x).map dAo))
def dDue (x : Str) : D := if x = ("" : Str) then .tup [.lst [], .non] else match (acts x).findIdx? Option.isNone with
  | some j => .tup [.non, .int ((j : Int) + 1)]
  | none => .tup [.lst ((acts x).map dAo), .non]
/-- the words of an action -/
def acWords (z : Act) : List Str := z.1 :: z.2.1 :: (match z.2.2 with | none => [] | some c => [c])
def acLine (z : Act) : Str := Txt.join " " (acWords z)
/-- names of two, three words -/
structure Wn (z : Str) : Prop where
  len : z.length ≤ 12
  cs : ∀ c ∈ z.cps.toList, c < 128
theorem signs_small : ∀ c ∈ signs.cps.toList, c < 128 := by decide +kernel
theorem isName_wn {z : Str} (h : isName z = true) : Wn z := by
  unfold isName at h
  simp only [Bool.and_eq_true, decide_eq_true_eq, List.all_eq_true] at h
  exact ⟨h.1.2, fun c hc => signs_small c (h.2.2 c hc)⟩
theorem Wn.ok {z : Str} (h : Wn z) : PyData.strOk z = true := by
  unfold PyData.strOk
  rw [Array.all_eq_true_iff_forall_mem]
  intro c hc
  have := h.cs c (Array.mem_toList_iff.mpr hc)
  exact decide_eq_true (by omega)
theorem actW_wn {ws : List Str} {z : Act} (h : actW ws = some z) : Wn z.1 ∧ Wn z.2.1 ∧ ∀ c, z.2.2 = some c → Wn c := by
  unfold actW at h
  split at h
  · split at h
    · rename_i hh
      simp only [List.all_cons, List.all_nil, Bool.and_eq_true, Bool.and_true] at hh
      cases h
      exact ⟨isName_wn hh.1, isName_wn hh.2, fun c hc => by cases hc⟩
    · cases h
  · split at h
    · rename_i hh
      simp only [List.all_cons, List.all_nil, Bool.and_eq_true, Bool.and_true] at hh
      cases h
      exact ⟨isName_wn hh.1, isName_wn hh.2.1, fun c hc => by cases hc; exact isName_wn hh.2.2⟩
    · cases h
  · cases h
def Wa (z : Act) : Prop := Wn z.1 ∧ Wn z.2.1 ∧ ∀ c, z.2.2 = some c → Wn c
theorem okD_ac {z : Act} (h : Wa z) : okD (dAc z) = true ∧ dpt (dAc z) ≤ 2 := by
  obtain ⟨a, b, c⟩ := z
  obtain ⟨h1, h2, h3⟩ := h
  have h1 : Wn a := h1
  have h2 : Wn b := h2
  have hc : okD (dOS c) = true ∧ dpt (dOS c) = 0 := by
    cases c with
    | none => exact ⟨by decide, by decide⟩
    | some x => exact ⟨(h3 x rfl).ok, by unfold dOS dpt; rfl⟩
  constructor
  · show okD (.tup [.str a, .str b, dOS c]) = true
    unfold okD okL okL okL okL
    rw [hc.1]
    unfold okD
    rw [h1.ok, h2.ok]
    rfl
  · show dpt (.tup [.str a, .str b, dOS c]) ≤ 2
    unfold dpt dptL dptL dptL dptL
    rw [hc.2]
    unfold dpt
    decide
theorem okL_ao : ∀ {l : List (Option Act)}, (∀ z, some z ∈ l → Wa z) → okL (l.map dAo) = true ∧ dptL (l.map dAo) ≤ 3
  | [], _ => ⟨by unfold okL; rfl, by show dptL [] ≤ 3; unfold dptL; decide⟩
  | o :: r, h => by
    obtain ⟨i1, i2⟩ := okL_ao (l := r) fun z hz => h z (List.mem_cons_of_mem _ hz)
    have hj : okD (dAo o) = true ∧ dpt (dAo o) ≤ 2 := by
      cases o with
      | none => exact ⟨by decide, by decide⟩
      | some z => exact okD_ac (h z List.mem_cons_self)
    rw [List.map_cons]
    constructor
    · unfold okL; rw [i1, hj.1]; rfl
    · unfold dptL; omega
theorem acts_wa {x : Str} : ∀ z, some z ∈ acts x → Wa z := fun z hz => by
  obtain ⟨l, _, e⟩ := List.mem_map.mp hz
  exact actW_wn e
theorem shp_acts (x : Str) : shp (.lst ((acts x).map dAo)) = true := by
  obtain ⟨h1, h2⟩ := okL_ao (l := acts x) acts_wa
  unfold shp okD dpt
  rw [h1]
  exact decide_eq_true (by omega)
theorem eqD_ao (o : Option Act) : eqD (dAo o) .non = o.isNone := by
  cases o with
  | none => decide
  | some z =>
    unfold eqD
    show PyData.eqv (pd (.tup _)) (pd .non) = false
    unfold pd
    unfold PyData.eqv
    rfl
theorem any_ao (l : List (Option Act)) : ((l.map dAo).any fun z => eqD z .non) = (l.findIdx? Option.isNone).isSome := by
  rw [List.any_map, List.findIdx?_isSome]
  congr 1
  funext o
  exact eqD_ao o
end K8

-- part NA
set_option Elab.async false
set_option linter.all false
set_option maxRecDepth 100000
set_option maxHeartbeats 2000000
namespace K8
open PySem PySem.Spec PyProof.Rows L2 GxR GS GA GD DL
local macro_rules | `(tactic| walk_at "ev") => `(tactic| simp (dsimp := false) only [k0, k1, k2, k3, iK_true, iK_false, iK_not, sl_0, sl_s, vK_va, vK_ow, bK_va, bK_ow, dVar_ev, dVarB_ev, dC_ev, dBin_ev, tK_bl, dTst_ev, dAnd_ev, dOr_ev, dNot_ev, dAndV_ev, dOrV_ev, dNotV_ev, dIf_ev, dNext_ev, dSeq_st, kS_e, dBreak_ev, dCont_ev, dRet_ev, dRetN_ev, dIfS_ev, dSet_ev, dDrop_ev, slOf_fr, slOf_sh, gAdd_i, gAdd_s, gAdd_l, gAdd_t, num_i, gEq_i, gEq_s, gEq_b, gEq_sn, gEq_ns, gEq_in, gEq_ni, gEq_nn, gEq_is, gEq_si, gNe_i, gNe_s, gNe_b, gNe_sn, gNe_ns, gNe_in, gNe_ni, gNe_nn, gEq_l, gEq_t, gNe_l, gNe_t,
    gIsN_n, gIsN_s, gIsN_i, gIsN_l, gIsN_t, gNotN_n, gNotN_s, gNotN_i, gNotN_l, gNotN_t, gIn_l, gIn_t, gNin_l, gNin_t, flD_s, flD_i, flD_n, flD_str, flD_int, has_strs, gIx_l, gIx_t, gIx_s, DL.at0, at1, at2, at3, at4, at5, dNoPart_ev, pK_i, dPart_ev, sK_l, sK_r, sK_t, sK_s, dSl_ev, dNil_ev, dCons_ev, dConsW_ev, itsD_l, itsD_t, dStar_ev, dLst_ev, dTup_ev, dBlt_ev, gLen_l, gLen_t, gLen_r, gLen_s, gInt_i, gInt_b, gAbs_i, gMax_i, gMin_i, gTuple_l, gTuple_t, gList_l, gList_t, oW_ow, owAt_ev, decide_true, decide_false, Bool.not_true, Bool.not_false, gRepr_1, dStarT_ev, dRepl_ev, dIdx_ev, liK_l, has_two, stK_l, gTimes_s, zK_s, dSplit_ev, dJoin_ev, dInTab_ev, dIxTab_ev, gInD_l, gInS_s, gNinS_s, chK_b, dChn_ev, is_tt, is_ll, is_tn, is_bn, dTryAs_ev, dXf_ev, dIsx_ev, xK_x, dRaise1_ev, dIsi_ev, is_ss, is_sl, is_st, is_bb, dProp_ev, prK_i, xc_c, xc_a, dApp_ev, dStI_ev, wK_sh, wK_fr, wK_bo, wK_t, wK_r, wK_s, diVal_ev, rK_i, diRng_ev, eK_sh, eK_fr, eK_bo, diEnum_ev, dgName_ev, dgNil_ev, dgCons_ev, dgTup_ev, dAsg_ev, dFor_ev, dWhile_ev, dLc_ev, dGen_ev, dCall_ev, mK_i, dMeth_ev, fK_i, dFld_ev, nK_i, dNeg_ev, dYes_ev, oK_some, List.length_map, rng_len, Int.toNat_natCast,
    List.map_cons, List.map_nil, List.length_cons, List.length_nil, List.length_set, List.replicate_succ, List.replicate_zero, List.nil_append, List.cons_append, List.set_cons_zero, List.set_cons_succ, Nat.reduceAdd, Nat.reduceSub, ne_eq, reduceCtorEq, not_false_eq_true, not_true_eq_false, true_and, and_true, Nat.reduceLT, Nat.reduceLeDiff, Nat.zero_le, Bool.false_eq_true])
local macro_rules | `(tactic| walk_at "st") => `(tactic| simp (dsimp := false) only [k0, k1, k2, k3, iK_true, iK_false, iK_not, sl_0, sl_s, vK_va, vK_ow, bK_va, bK_ow, dVar_ev, dVarB_ev, dC_ev, dBin_ev, tK_bl, dTst_ev, dAnd_ev, dOr_ev, dNot_ev, dAndV_ev, dOrV_ev, dNotV_ev, dIf_ev, dNext_ev, dSeq_st, kS_e, dBreak_ev, dCont_ev, dRet_ev, dRetN_ev, dSet_ev, dDrop_ev, slOf_fr, slOf_sh, gAdd_i, gAdd_s, gAdd_l, gAdd_t, num_i, gEq_i, gEq_s, gEq_b, gEq_sn, gEq_ns, gEq_in, gEq_ni, gEq_nn, gEq_is, gEq_si, gNe_i, gNe_s, gNe_b, gNe_sn, gNe_ns, gNe_in, gNe_ni, gNe_nn, gEq_l, gEq_t, gNe_l, gNe_t,
    gIsN_n, gIsN_s, gIsN_i, gIsN_l, gIsN_t, gNotN_n, gNotN_s, gNotN_i, gNotN_l, gNotN_t, gIn_l, gIn_t, gNin_l, gNin_t, flD_s, flD_i, flD_n, flD_str, flD_int, has_strs, gIx_l, gIx_t, gIx_s, DL.at0, at1, at2, at3, at4, at5, dNoPart_ev, pK_i, dPart_ev, sK_l, sK_r, sK_t, sK_s, dSl_ev, dNil_ev, dCons_ev, dConsW_ev, itsD_l, itsD_t, dStar_ev, dLst_ev, dTup_ev, dBlt_ev, gLen_l, gLen_t, gLen_r, gLen_s, gInt_i, gInt_b, gAbs_i, gMax_i, gMin_i, gTuple_l, gTuple_t, gList_l, gList_t, oW_ow, owAt_ev, decide_true, decide_false, Bool.not_true, Bool.not_false, gRepr_1, dStarT_ev, dRepl_ev, dIdx_ev, liK_l, has_two, stK_l, gTimes_s, zK_s, dSplit_ev, dJoin_ev, dInTab_ev, dIxTab_ev, gInD_l, gInS_s, gNinS_s, chK_b, dChn_ev, is_tt, is_ll, is_tn, is_bn, dTryAs_ev, dXf_ev, dIsx_ev, xK_x, dRaise1_ev, dIsi_ev, is_ss, is_sl, is_st, is_bb, dProp_ev, prK_i, xc_c, xc_a, dApp_ev, dStI_ev, wK_sh, wK_fr, wK_bo, wK_t, wK_r, wK_s, diVal_ev, rK_i, diRng_ev, eK_sh, eK_fr, eK_bo, diEnum_ev, dgName_ev, dgNil_ev, dgCons_ev, dgTup_ev, dAsg_ev, dFor_ev, dWhile_ev, dLc_ev, dGen_ev, dCall_ev, mK_i, dMeth_ev, fK_i, dFld_ev, nK_i, dNeg_ev, dYes_ev, oK_some, List.length_map, rng_len, Int.toNat_natCast,
    List.map_cons, List.map_nil, List.length_cons, List.length_nil, List.length_set, List.replicate_succ, List.replicate_zero, List.nil_append, List.cons_append, List.set_cons_zero, List.set_cons_succ, Nat.reduceAdd, Nat.reduceSub, ne_eq, reduceCtorEq, not_false_eq_true, not_true_eq_false, true_and, and_true, Nat.reduceLT, Nat.reduceLeDiff, Nat.zero_le, Bool.false_eq_true])
theorem chD_map (z : Str) : chD z = z.cps.toList.map fun c => D.str ⟨#[c]⟩ := rfl
theorem inj_ch (x y : Nat) (h : D.str ⟨#[x]⟩ = D.str ⟨#[y]⟩) : x = y := by cases h; rfl
theorem head_ch {z : Str} (h : 1 ≤ z.length) : ∃ c r, z.cps.toList = c :: r := by
  cases e : z.cps.toList with
  | nil =>
    have : z.cps.size = 0 := by rw [← Array.length_toList, e]; rfl
    have h : 1 ≤ z.cps.size := h
    omega
  | cons c r => exact ⟨c, r, rfl⟩
theorem isName_eq (z : Str) : isName z = (decide (1 ≤ z.length) && decide (z.length ≤ 12) && ((z.cps.toList.head?.any fun c => decide (c ∈ letters.cps.toList)) && z.cps.toList.all fun c => decide (c ∈ signs.cps.toList))) := rfl
theorem dAc_mk (a b : Str) (c : Option Str) : dAc (a, b, c) = .tup [.str a, .str b, dOS c] := rfl
theorem dAl_mk (a b : Str) (c : Option Str) : dAl (a, b, c) = .lst [.str a, .str b, dOS c] := rfl
theorem dOS_n : dOS none = .non := rfl
theorem dOS_s (x : Str) : dOS (some x) = .str x := rfl
theorem join_len (s : Str) (ys : List Str) : (Txt.join s ys).length ≤ (ys.map (·.length)).sum + ys.length * s.length := by
  show (Builtin.Str.glued s ys).length ≤ _
  rw [size_glued]
  exact Nat.add_le_add_left (Nat.mul_le_mul_right _ (by omega)) _
theorem sum_le {B : Nat} : ∀ {ys : List Str}, (∀ y ∈ ys, y.length ≤ B) → (ys.map (·.length)).sum ≤ ys.length * B
  | [], _ => Nat.zero_le _
  | y :: r, h => by
    have := sum_le (ys := r) fun x hx => h x (List.mem_cons_of_mem _ hx)
    have h1 := h y List.mem_cons_self
    rw [List.map_cons, List.sum_cons, List.length_cons, Nat.succ_mul]
    omega
def Sh (z : Act) : Prop := z.1.length ≤ 12 ∧ z.2.1.length ≤ 12 ∧ ∀ c, z.2.2 = some c → c.length ≤ 12
theorem acLine_len {z : Act} (h : Sh z) : (acLine z).length ≤ 38 := by
  obtain ⟨a, b, c⟩ := z
  obtain ⟨h1, h2, h3⟩ := h
  have h1 : a.length ≤ 12 := h1
  have h2 : b.length ≤ 12 := h2
  unfold acLine acWords
  show (Builtin.Str.glued " " _).length ≤ _
  rw [size_glued]
  cases c with
  | none =>
    show a.length + (b.length + 0) + 1 * 1 ≤ 38
    omega
  | some x =>
    have h3 : x.length ≤ 12 := h3 x rfl
    show a.length + (b.length + (x.length + 0)) + 2 * 1 ≤ 38
    omega
abbrev Nis_name : List Str := ["text", "sign"]
def ris_name : DS :=
  (dSeq (dIfS (dOr (dNot (dChn gLe gLe (dC (.int 1)) (dBlt gLen (dConsW (dVarB 0) dNil)) (dC (.int 12)))) (dTst (dBin gNinS (dBin gIx (dVarB 0) (dC (.int 0))) (dC (.str "abcdefghijklmnopqrstuvwxyz"))))) (dRet (dC (.bl false))) dNext)
  (dRet (dGen false (diVal (dVarB 0)) 1 (dBin gInS (dVarB 1) (dC (.str "abcdefghijklmnopqrstuvwxyz0123456789"))))))
/- theorem Mis_name : MD ris_name 1 2 phis_name := fun ds Qd Xd h hl => by -/
def ph_is_name : Ph := fun ds Qd _ => ∃ z : Str, ds = [.str z] ∧ z.length ≤ sizeLine ∧ Qd (.bl (isName z))
theorem Mis_name : MD ris_name 1 2 ph_is_name := fun ds Qd Xd h hl => by
  obtain ⟨z, rfl, hz, q⟩ := h
  unfold ris_name
  walk_at "ev"
  have no : isName z = false → Qd (.bl false) := fun e => e ▸ q
  refine ⟨hz, ?_⟩
  refine iK_d (fun h1 => ?_) fun h1 => ?_
  · walk_at "ev"
    refine iK_d (fun h2 => ?_) fun h2 => ?_
    · obtain ⟨c, r, e⟩ := head_ch (z := z) (by omega)
      refine ⟨hz, oK.mk (x := c) (by rw [e]; exact DL.at0) ?_⟩
      walk_at "ev"
      have e0 : isName z = (decide (c ∈ letters.cps.toList) && z.cps.toList.all fun c => decide (c ∈ signs.cps.toList)) := by
        rw [isName_eq, decide_eq_true (by omega : 1 ≤ z.length), decide_eq_true (by omega : z.length ≤ 12), e]
        rfl
      refine iK_d (fun h3 => ?_) fun h3 => ?_
      · walk_at "ev"
        rw [chD_map]
        refine genK.map (q := fun c => decide (c ∈ signs.cps.toList)) inj_ch false (fun x hx => ?_) ?_
        · walk_at "ev"
          rfl
        · walk_at "ev"
          rw [e0, decide_eq_true (show c ∈ letters.cps.toList from h3)] at q
          exact q
      · walk_at "ev"
        refine no ?_
        rw [e0, decide_eq_false (show ¬ c ∈ letters.cps.toList from h3)]
        rfl
    · walk_at "ev"
      refine no ?_
      rw [isName_eq, decide_eq_false (by omega : ¬ z.length ≤ 12)]
      simp
  · walk_at "ev"
    refine no ?_
    rw [isName_eq, decide_eq_false (by omega : ¬ 1 ≤ z.length)]
    simp
abbrev Nplan_lines : List Str := ["actions", "lines", "name", "actor", "target", "words"]
def rplan_lines : DS :=
  (dSeq (dSet 1 (dLst dNil))
  (dSeq (dFor (diVal (dVar 0)) (dgTup 3 (dgCons (dgName 2) (dgCons (dgName 3) (dgCons (dgName 4) dgNil)))) (dSeq (dSet 5 (dIf (dTst (dBin gIsN (dVarB 4) (dC .non))) (dLst (dCons (dVar 2) (dCons (dVar 3) dNil))) (dLst (dCons (dVar 2) (dCons (dVar 3) (dCons (dVar 4) dNil))))))
  (dApp 1 (dJoin (dC (.str " ")) (dVarB 5)))))
  (dRet (dVar 1))))
/- theorem Mplan_lines : MD rplan_lines 1 6 phplan_lines := fun ds Qd Xd h hl => by -/
def ph_plan_lines : Ph := fun ds Qd _ => ∃ as : List Act, ds = [.lst (as.map dAc)] ∧ as.length ≤ 100 ∧ (∀ z ∈ as, Sh z) ∧ Qd (dL (as.map acLine))
theorem Mplan_lines : MD rplan_lines 1 6 ph_plan_lines := fun ds Qd Xd h hl => by
  obtain ⟨as, rfl, la, hs, q⟩ := h
  unfold rplan_lines
  walk_at "ev"
  refine forK.map (fun k ρ => ∃ x y z w, ρ = [.va (.lst (as.map dAc)), .ow (((as.take k).map acLine).map .str), x, y, z, w]) ⟨_, _, _, _, rfl⟩ ?_ ?_
  · rintro k ⟨a, b, c⟩ ρ' hx kl ⟨x, y, z, w, rfl⟩
    obtain ⟨h1, h2, h3⟩ := hs _ (List.mem_of_getElem? hx)
    have h1 : a.length ≤ 12 := h1
    have h2 : b.length ≤ 12 := h2
    have ltk : (as.take k).length ≤ 100 := by rw [List.length_take]; omega
    have tk : (as.take (k + 1)).map acLine = (as.take k).map acLine ++ [acLine (a, b, c)] := by
      rw [List.take_add_one, hx, List.map_append]
      rfl
    simp (dsimp := false) only [dAc_mk]
    walk_at "ev"
    cases c with
    | none =>
      simp (dsimp := false) only [dOS_n]
      walk_at "ev"
      refine ⟨by decide, ysK.mk [a, b] ?_⟩
      walk_at "ev"
      refine ⟨?_, by unfold sizeLine; omega, .va (.str a), .va (.str b), .va (dOS none), .ow [.str a, .str b], ?_⟩
      · show a.length + (b.length + 0) + 2 * 1 ≤ _
        omega
      · rw [tk, List.map_append]
        rfl
    | some e =>
      have h3 : e.length ≤ 12 := h3 e rfl
      simp (dsimp := false) only [dOS_s]
      walk_at "ev"
      refine ⟨by decide, ysK.mk [a, b, e] ?_⟩
      walk_at "ev"
      refine ⟨?_, by unfold sizeLine; omega, .va (.str a), .va (.str b), .va (dOS (some e)), .ow [.str a, .str b, .str e], ?_⟩
      · show a.length + (b.length + (e.length + 0)) + 3 * 1 ≤ _
        omega
      · rw [tk, List.map_append]
        rfl
  · rintro ρ' ⟨x, y, z, w, rfl⟩
    rw [List.take_length]
    walk_at "ev"
    exact q
abbrev Nplan_text : List Str := ["actions"]
def rplan_text : DS :=
  (dRet (dJoin (dC (.str "\n")) (dCall 1 ph_plan_lines (dCons (dVar 0) dNil))))
/- theorem Mplan_text : MD rplan_text 1 1 phplan_text := fun ds Qd Xd h hl => by -/
def ph_plan_text : Ph := fun ds Qd _ => ∃ as : List Act, ds = [.lst (as.map dAc)] ∧ as.length ≤ 100 ∧ (∀ z ∈ as, Sh z) ∧ Qd (.str (Txt.join "\n" (as.map acLine)))
theorem Mplan_text : MD rplan_text 1 1 ph_plan_text := fun ds Qd Xd h hl => by
  obtain ⟨as, rfl, la, hs, q⟩ := h
  unfold rplan_text
  walk_at "ev"
  refine ⟨as, rfl, la, hs, ?_⟩
  unfold dL
  walk_at "ev"
  refine ysK.mk _ ?_
  walk_at "ev"
  have hb : ∀ y ∈ as.map acLine, y.length ≤ 38 := fun y hy => by
    obtain ⟨z, hz, rfl⟩ := List.mem_map.mp hy
    exact acLine_len (hs z hz)
  have := sum_le hb
  rw [List.length_map] at this
  refine ⟨?_, q⟩
  show _ + _ * 1 ≤ _
  omega
abbrev Naction_of : List Str := ["words", "word"]
def raction_of : DS :=
  (dSeq (dIfS (dOr (dTst (dBin gNin (dBlt gLen (dConsW (dVarB 0) dNil)) (dTup (dCons (dC (.int 2)) (dCons (dC (.int 3)) dNil))))) (dNot (dTst (dGen false (diVal (dVarB 0)) 1 (dCall 1 ph_is_name (dCons (dVar 1) dNil)))))) (dRet (dC .non)) dNext)
  (dRet (dTup (dCons (dBin gIx (dVarB 0) (dC (.int 0))) (dCons (dBin gIx (dVarB 0) (dC (.int 1))) (dCons (dIf (dTst (dBin gEq (dBlt gLen (dConsW (dVarB 0) dNil)) (dC (.int 3)))) (dBin gIx (dVarB 0) (dC (.int 2))) (dC .non)) dNil))))))
/- theorem Maction_of : MD raction_of 1 2 phaction_of := fun ds Qd Xd h hl => by -/
def ph_action_of : Ph := fun ds Qd _ => ∃ ws : List Str, ds = [dL ws] ∧ (∀ w ∈ ws, w.length ≤ 4000) ∧ ws.length ≤ 4000 ∧ Qd (dAo (actW ws))
theorem Maction_of : MD raction_of 1 2 ph_action_of := fun ds Qd Xd h hl => by
  obtain ⟨ws, rfl, hw, hz, q⟩ := h
  unfold raction_of dL
  walk_at "ev"
  refine ⟨by decide, by decide, ?_⟩
  by_cases h2 : ws.length = 2 ∨ ws.length = 3
  case neg =>
    rw [decide_eq_false (by omega : ¬ (ws.length : Int) = 2), decide_eq_false (by omega : ¬ (ws.length : Int) = 3), show (false || false) = false from rfl]
    walk_at "ev"
    have e : actW ws = none := by
      unfold actW
      split
      · exact absurd (.inl rfl) h2
      · exact absurd (.inr rfl) h2
      · rfl
    rw [e] at q
    exact q
  have ec : (decide ((ws.length : Int) = 2) || decide ((ws.length : Int) = 3)) = true := by
    rcases h2 with h | h
    · rw [decide_eq_true (by omega : (ws.length : Int) = 2)]; rfl
    · rw [decide_eq_true (by omega : (ws.length : Int) = 3), Bool.or_true]
  rw [ec]
  walk_at "ev"
  refine genK.map (q := isName) inj_str false (fun x hx => ?_) ?_
  · walk_at "ev"
    have := hw x hx
    refine ⟨x, rfl, by unfold sizeLine; omega, ?_⟩
    walk_at "ev"
  rw [if_neg Bool.false_ne_true]
  cases hb : ws.all isName with
  | false =>
    walk_at "ev"
    have e : actW ws = none := by
      unfold actW
      split
      · rw [if_neg (by rw [hb]; simp)]
      · rw [if_neg (by rw [hb]; simp)]
      · rfl
    rw [e] at q
    exact q
  | true =>
    walk_at "ev"
    rcases h2 with h | h
    · obtain ⟨a, b, rfl⟩ : ∃ a b, ws = [a, b] := match ws, h with | [a, b], _ => ⟨a, b, rfl⟩
      have e : actW [a, b] = some (a, b, none) := if_pos hb
      rw [e] at q
      walk_at "ev"
      refine iK_F (by simp) ?_
      walk_at "ev"
      exact ⟨by decide, q⟩
    · obtain ⟨a, b, c, rfl⟩ : ∃ a b c, ws = [a, b, c] := match ws, h with | [a, b, c], _ => ⟨a, b, c, rfl⟩
      have e : actW [a, b, c] = some (a, b, some c) := if_pos hb
      rw [e] at q
      walk_at "ev"
      refine iK_T (by simp) ?_
      walk_at "ev"
      exact ⟨by decide, q⟩
abbrev Nparse_plan : List Str := ["text", "actions", "line"]
def rparse_plan : DS :=
  (dSeq (dIfS (dTst (dBin gEq (dVarB 0) (dC (.str "")))) (dRet (dLst dNil)) dNext)
  (dSeq (dSet 1 (dLc (diVal (dSplit (dVarB 0) (dC (.str "\n")))) 2 dYes (dCall 1 ph_action_of (dCons (dSplit (dVarB 2) (dC (.str " "))) dNil))))
  (dSeq (dIfS (dTst (dBin gInD (dC .non) (dVarB 1))) (dRaise1 "InvalidNotation" "line" (dBin gAdd (dIdx (dVarB 1) (dC .non)) (dC (.int 1)))) dNext)
  (dRet (dVar 1)))))
/- theorem Mparse_plan : MD rparse_plan 1 3 phparse_plan := fun ds Qd Xd h hl => by -/
def ph_parse_plan : Ph := fun ds Qd Xd => ∃ x : Str, ds = [.str x] ∧ x.length ≤ 900 ∧ Out x Qd Xd
theorem inj_dstr (x y : Str) (h : D.str x = D.str y) : x = y := D.str.inj h
theorem Mparse_plan : MD rparse_plan 1 3 ph_parse_plan := fun ds Qd Xd h hl => by
  obtain ⟨x, rfl, lx, q⟩ := h
  unfold rparse_plan
  unfold Out at q
  walk_at "ev"
  refine iK_d (fun c => ?_) fun c => ?_
  · rw [if_pos c] at q
    walk_at "ev"
    exact q
  rw [if_neg c] at q
  walk_at "ev"
  refine ⟨by decide, by unfold sizeLine; omega, ?_⟩
  have la := acts_len x
  have hp : ∀ l ∈ Txt.split x "\n", l.length ≤ 900 := fun l hl => Nat.le_trans (part_short hl) lx
  have sh := shp_acts x
  have an := any_ao (acts x)
  have ea : (Txt.split x "\n").map (fun l => dAo (lineW l)) = (acts x).map dAo := by
    unfold acts
    rw [List.map_map]
    rfl
  refine lcK.all (f := D.str) inj_dstr (fun l => dAo (lineW l)) (by have := PyProof.Rows.split_le x "\n"; unfold sizeLine; omega) (fun l hl => ?_) ?_
  · have h1 := hp l hl
    walk_at "ev"
    refine ⟨by decide, by unfold sizeLine; omega, ?_⟩
    refine ⟨_, rfl, fun w hw => by have := part_short hw; omega, by have := PyProof.Rows.split_le l " "; omega, ?_⟩
    walk_at "ev"
    rfl
  rw [ea]
  walk_at "ev"
  refine ⟨by decide, sh, ?_⟩
  rw [an]
  cases e : (acts x).findIdx? Option.isNone with
  | none =>
    rw [e] at q
    rw [show (none : Option Nat).isSome = false from rfl]
    walk_at "ev"
    exact q
  | some j =>
    rw [e] at q
    rw [show (some j).isSome = true from rfl]
    walk_at "ev"
    obtain ⟨hj, h1, h2⟩ := List.findIdx?_eq_some_iff_getElem.mp e
    have g1 : (acts x)[j]? = some none := by
      rw [List.getElem?_eq_getElem hj, Option.isNone_iff_eq_none.mp h1]
    refine idK.mk (j := j) (z := .non) (by decide) sh (by rw [List.getElem?_map, g1]; rfl) (by decide) (fun m z' lt hz => ?_) ?_
    · rw [List.getElem?_map, List.getElem?_eq_getElem (by omega)] at hz
      cases hz
      rw [eqD_ao]
      exact Bool.eq_false_iff.mpr (h2 m lt)
    · walk_at "ev"
      exact ⟨by show (0 : Int) ≤ _ ∧ _ < (1000 : Int); omega, q⟩
end K8

-- part ND
set_option Elab.async false
set_option linter.all false
set_option maxRecDepth 100000
set_option maxHeartbeats 2000000
namespace K8
open PySem PySem.Spec PyProof.Rows L2 GxR GS GA GD DL
local macro_rules | `(tactic| walk_at "ev") => `(tactic| simp (dsimp := false) only [k0, k1, k2, k3, iK_true, iK_false, iK_not, sl_0, sl_s, vK_va, vK_ow, bK_va, bK_ow, dVar_ev, dVarB_ev, dC_ev, dBin_ev, tK_bl, dTst_ev, dAnd_ev, dOr_ev, dNot_ev, dAndV_ev, dOrV_ev, dNotV_ev, dIf_ev, dNext_ev, dSeq_st, kS_e, dBreak_ev, dCont_ev, dRet_ev, dRetN_ev, dIfS_ev, dSet_ev, dDrop_ev, slOf_fr, slOf_sh, gAdd_i, gAdd_s, gAdd_l, gAdd_t, num_i, gEq_i, gEq_s, gEq_b, gEq_sn, gEq_ns, gEq_in, gEq_ni, gEq_nn, gEq_is, gEq_si, gNe_i, gNe_s, gNe_b, gNe_sn, gNe_ns, gNe_in, gNe_ni, gNe_nn, gEq_l, gEq_t, gNe_l, gNe_t,
    gIsN_n, gIsN_s, gIsN_i, gIsN_l, gIsN_t, gNotN_n, gNotN_s, gNotN_i, gNotN_l, gNotN_t, gIn_l, gIn_t, gNin_l, gNin_t, flD_s, flD_i, flD_n, flD_str, flD_int, has_strs, gIx_l, gIx_t, gIx_s, DL.at0, at1, at2, at3, at4, at5, dNoPart_ev, pK_i, dPart_ev, sK_l, sK_r, sK_t, sK_s, dSl_ev, dNil_ev, dCons_ev, dConsW_ev, itsD_l, itsD_t, dStar_ev, dLst_ev, dTup_ev, dBlt_ev, gLen_l, gLen_t, gLen_r, gLen_s, gInt_i, gInt_b, gAbs_i, gMax_i, gMin_i, gTuple_l, gTuple_t, gList_l, gList_t, oW_ow, owAt_ev, decide_true, decide_false, Bool.not_true, Bool.not_false, gRepr_1, dStarT_ev, dRepl_ev, dIdx_ev, liK_l, has_two, stK_l, gTimes_s, zK_s, dSplit_ev, dJoin_ev, dInTab_ev, dIxTab_ev, gInD_l, gInS_s, gNinS_s, chK_b, dChn_ev, is_tt, is_ll, is_tn, is_bn, dTryAs_ev, dXf_ev, dIsx_ev, xK_x, dRaise1_ev, dIsi_ev, is_ss, is_sl, is_st, is_bb, dProp_ev, prK_i, xc_c, xc_a, dApp_ev, dStI_ev, wK_sh, wK_fr, wK_bo, wK_t, wK_r, wK_s, diVal_ev, rK_i, diRng_ev, eK_sh, eK_fr, eK_bo, diEnum_ev, dgName_ev, dgNil_ev, dgCons_ev, dgTup_ev, dAsg_ev, dFor_ev, dWhile_ev, dLc_ev, dGen_ev, dCall_ev, mK_i, dMeth_ev, fK_i, dFld_ev, nK_i, dNeg_ev, dYes_ev, oK_some, List.length_map, rng_len, Int.toNat_natCast,
    List.map_cons, List.map_nil, List.length_cons, List.length_nil, List.length_set, List.replicate_succ, List.replicate_zero, List.nil_append, List.cons_append, List.set_cons_zero, List.set_cons_succ, Nat.reduceAdd, Nat.reduceSub, ne_eq, reduceCtorEq, not_false_eq_true, not_true_eq_false, true_and, and_true, Nat.reduceLT, Nat.reduceLeDiff, Nat.zero_le, Bool.false_eq_true])
local macro_rules | `(tactic| walk_at "st") => `(tactic| simp (dsimp := false) only [k0, k1, k2, k3, iK_true, iK_false, iK_not, sl_0, sl_s, vK_va, vK_ow, bK_va, bK_ow, dVar_ev, dVarB_ev, dC_ev, dBin_ev, tK_bl, dTst_ev, dAnd_ev, dOr_ev, dNot_ev, dAndV_ev, dOrV_ev, dNotV_ev, dIf_ev, dNext_ev, dSeq_st, kS_e, dBreak_ev, dCont_ev, dRet_ev, dRetN_ev, dSet_ev, dDrop_ev, slOf_fr, slOf_sh, gAdd_i, gAdd_s, gAdd_l, gAdd_t, num_i, gEq_i, gEq_s, gEq_b, gEq_sn, gEq_ns, gEq_in, gEq_ni, gEq_nn, gEq_is, gEq_si, gNe_i, gNe_s, gNe_b, gNe_sn, gNe_ns, gNe_in, gNe_ni, gNe_nn, gEq_l, gEq_t, gNe_l, gNe_t,
    gIsN_n, gIsN_s, gIsN_i, gIsN_l, gIsN_t, gNotN_n, gNotN_s, gNotN_i, gNotN_l, gNotN_t, gIn_l, gIn_t, gNin_l, gNin_t, flD_s, flD_i, flD_n, flD_str, flD_int, has_strs, gIx_l, gIx_t, gIx_s, DL.at0, at1, at2, at3, at4, at5, dNoPart_ev, pK_i, dPart_ev, sK_l, sK_r, sK_t, sK_s, dSl_ev, dNil_ev, dCons_ev, dConsW_ev, itsD_l, itsD_t, dStar_ev, dLst_ev, dTup_ev, dBlt_ev, gLen_l, gLen_t, gLen_r, gLen_s, gInt_i, gInt_b, gAbs_i, gMax_i, gMin_i, gTuple_l, gTuple_t, gList_l, gList_t, oW_ow, owAt_ev, decide_true, decide_false, Bool.not_true, Bool.not_false, gRepr_1, dStarT_ev, dRepl_ev, dIdx_ev, liK_l, has_two, stK_l, gTimes_s, zK_s, dSplit_ev, dJoin_ev, dInTab_ev, dIxTab_ev, gInD_l, gInS_s, gNinS_s, chK_b, dChn_ev, is_tt, is_ll, is_tn, is_bn, dTryAs_ev, dXf_ev, dIsx_ev, xK_x, dRaise1_ev, dIsi_ev, is_ss, is_sl, is_st, is_bb, dProp_ev, prK_i, xc_c, xc_a, dApp_ev, dStI_ev, wK_sh, wK_fr, wK_bo, wK_t, wK_r, wK_s, diVal_ev, rK_i, diRng_ev, eK_sh, eK_fr, eK_bo, diEnum_ev, dgName_ev, dgNil_ev, dgCons_ev, dgTup_ev, dAsg_ev, dFor_ev, dWhile_ev, dLc_ev, dGen_ev, dCall_ev, mK_i, dMeth_ev, fK_i, dFld_ev, nK_i, dNeg_ev, dYes_ev, oK_some, List.length_map, rng_len, Int.toNat_natCast,
    List.map_cons, List.map_nil, List.length_cons, List.length_nil, List.length_set, List.replicate_succ, List.replicate_zero, List.nil_append, List.cons_append, List.set_cons_zero, List.set_cons_succ, Nat.reduceAdd, Nat.reduceSub, ne_eq, reduceCtorEq, not_false_eq_true, not_true_eq_false, true_and, and_true, Nat.reduceLT, Nat.reduceLeDiff, Nat.zero_le, Bool.false_eq_true])
theorem all_take {α : Type} {l : List α} {p : α → Bool} {k : Nat} {x : α} (h : (l.take k).all p = true) (e : l[k]? = some x) (hx : p x = true) : (l.take (k + 1)).all p = true := by
  rw [List.take_add_one, e, List.all_append, h]
  show (true && (p x && true)) = true
  rw [hx]
  rfl
theorem all_not {α : Type} {l : List α} {p : α → Bool} {k : Nat} {x : α} (e : l[k]? = some x) (hx : p x = false) : l.all p = false := List.all_eq_false.mpr ⟨x, List.mem_of_getElem? e, by rw [hx]; simp⟩
theorem st_ix {l : List Str} {i : Int} {j : Nat} (e : i = (j : Int)) (h : j < l.length) : atI (l.map D.str) i = some (.str (l.getD j ⟨#[]⟩)) := at_ix (k := j) e (by
  rw [List.getD_eq_getElem?_getD, List.getElem?_eq_getElem h]
  rfl)
theorem getD_at {l : List Str} {j : Nat} (h : j < l.length) : l[j]? = some (l.getD j ⟨#[]⟩) := by
  rw [List.getD_eq_getElem?_getD, List.getElem?_eq_getElem h]
  rfl
theorem find_at {L : List (Option Act)} {k : Nat} {as : List Act} (h : L.take k = as.map some) (hk : L[k]? = some none) : L.findIdx? Option.isNone = some k := by
  obtain ⟨lt, hk⟩ := List.getElem?_eq_some_iff.mp hk
  refine List.findIdx?_eq_some_iff_getElem.mpr ⟨lt, by rw [hk]; rfl, fun j hj => ?_⟩
  have e : (L.take k)[j]? = some L[j] := by rw [List.getElem?_take_of_lt hj, List.getElem?_eq_getElem (by omega)]
  rw [h, List.getElem?_map] at e
  cases e2 : as[j]? with
  | none => rw [e2] at e; cases e
  | some z =>
    rw [e2] at e
    have e : some z = L[j] := Option.some.inj e
    rw [← e]
    simp
theorem actW_len {ws : List Str} (h : ¬ (ws.length = 2 ∨ ws.length = 3)) : actW ws = none := by
  unfold actW
  split
  · exact absurd (.inl rfl) h
  · exact absurd (.inr rfl) h
  · rfl
theorem actW_bad {ws : List Str} (h : ws.all isName = false) : actW ws = none := by
  unfold actW
  split
  · rw [if_neg (by rw [h]; simp)]
  · rw [if_neg (by rw [h]; simp)]
  · rfl
theorem due_bad {x : Str} {k : Nat} {as : List Act} (c : ¬ x = ("" : Str)) (h : (acts x).take k = as.map some) (hk : (acts x)[k]? = some none) : dDue x = .tup [.non, .int ((k : Int) + 1)] := by
  unfold dDue
  rw [if_neg c, find_at h hk]
theorem due_good {x : Str} {as : List Act} (c : ¬ x = ("" : Str)) (h : acts x = as.map some) : dDue x = .tup [.lst (as.map dAc), .non] := by
  unfold dDue
  rw [if_neg c, h, no_none, dAo_some]
theorem dAl_inj (y z : Act) (h : dAl y = dAl z) : y = z := by
  obtain ⟨a, b, c⟩ := y
  obtain ⟨d, e, f⟩ := z
  rw [dAl_mk, dAl_mk] at h
  injection h with h
  injection h with h1 h
  injection h with h2 h
  injection h with h3 h
  rw [D.str.inj h1, D.str.inj h2]
  cases c <;> cases f
  · rfl
  · cases h3
  · cases h3
  · rw [D.str.inj h3]
theorem three_of {ws : List Str} (h2 : ws.length = 2 ∨ ws.length = 3) (ha : ws.all isName = true) : ∃ z, actW ws = some z ∧ DL.cutD (ws.map D.str ++ [D.non]) none (some 3) = [.str z.1, .str z.2.1, dOS z.2.2] := by
  rcases h2 with h | h
  · obtain ⟨a, b, rfl⟩ : ∃ a b, ws = [a, b] := match ws, h with | [a, b], _ => ⟨a, b, rfl⟩
    exact ⟨(a, b, none), if_pos ha, rfl⟩
  · obtain ⟨a, b, c, rfl⟩ : ∃ a b c, ws = [a, b, c] := match ws, h with | [a, b, c], _ => ⟨a, b, c, rfl⟩
    exact ⟨(a, b, some c), if_pos ha, rfl⟩
abbrev N_law_is_name : List Str := ["word", "char"]
def r_law_is_name : DS :=
  (dSeq (dIfS (dOr (dTst (dBin gLt (dBlt gLen (dConsW (dVarB 0) dNil)) (dC (.int 1)))) (dOr (dTst (dBin gGt (dBlt gLen (dConsW (dVarB 0) dNil)) (dC (.int 12)))) (dTst (dBin gNinS (dBin gIx (dVarB 0) (dC (.int 0))) (dC (.str "abcdefghijklmnopqrstuvwxyz")))))) (dRet (dC (.bl false))) dNext)
  (dSeq (dFor (diVal (dVar 0)) (dgName 1) (dIfS (dTst (dBin gNinS (dVarB 1) (dC (.str "abcdefghijklmnopqrstuvwxyz0123456789")))) (dRet (dC (.bl false))) dNext))
  (dRet (dC (.bl true)))))
/- theorem M_law_is_name : MD r_law_is_name 1 2 ph_law_is_name := fun ds Qd Xd h hl => by -/
def ph__law_is_name : Ph := fun ds Qd _ => ∃ z : Str, ds = [.str z] ∧ z.length ≤ sizeLine ∧ Qd (.bl (isName z))
theorem M_law_is_name : MD r_law_is_name 1 2 ph__law_is_name := fun ds Qd Xd h hl => by
  obtain ⟨z, rfl, hz, q⟩ := h
  unfold r_law_is_name
  walk_at "ev"
  have no : isName z = false → Qd (.bl false) := fun e => e ▸ q
  refine ⟨hz, ?_⟩
  refine iK_d (fun h1 => ?_) fun h1 => ?_
  · walk_at "ev"
    refine no ?_
    rw [isName_eq, decide_eq_false (by omega : ¬ 1 ≤ z.length)]
    simp
  walk_at "ev"
  refine ⟨hz, ?_⟩
  refine iK_d (fun h2 => ?_) fun h2 => ?_
  · walk_at "ev"
    refine no ?_
    rw [isName_eq, decide_eq_false (by omega : ¬ z.length ≤ 12)]
    simp
  walk_at "ev"
  obtain ⟨c, r, e⟩ := head_ch (z := z) (by omega)
  refine ⟨hz, oK.mk (x := c) (by rw [e]; exact DL.at0) ?_⟩
  walk_at "ev"
  have e0 : isName z = (decide (c ∈ letters.cps.toList) && z.cps.toList.all fun c => decide (c ∈ signs.cps.toList)) := by
    rw [isName_eq, decide_eq_true (by omega : 1 ≤ z.length), decide_eq_true (by omega : z.length ≤ 12), e]
    rfl
  by_cases h3 : c ∈ letters.cps.toList
  case neg =>
    refine iK_F h3 ?_
    walk_at "ev"
    refine no ?_
    rw [e0, decide_eq_false (show ¬ c ∈ letters.cps.toList from h3)]
    rfl
  refine iK_T h3 ?_
  walk_at "ev"
  rw [chD_map]
  refine forK.map (fun k ρ => (∃ x, ρ = [.va (.str z), x]) ∧ (z.cps.toList.take k).all (fun c => decide (c ∈ signs.cps.toList)) = true) ⟨⟨_, rfl⟩, rfl⟩ ?_ ?_
  · rintro k x ρ' hx kl ⟨⟨y, rfl⟩, al⟩
    walk_at "ev"
    refine iK_d (fun h4 => ?_) fun h4 => ?_
    · walk_at "ev"
      exact ⟨⟨_, rfl⟩, all_take al hx (decide_eq_true h4)⟩
    · walk_at "ev"
      refine no ?_
      rw [e0, all_not hx (decide_eq_false h4)]
      simp
  · rintro ρ' ⟨⟨y, rfl⟩, al⟩
    rw [List.take_length] at al
    walk_at "ev"
    rw [e0, decide_eq_true (show c ∈ letters.cps.toList from h3), al] at q
    exact q
abbrev N_law_due : List Str := ["text", "actions", "lines", "k", "words", "word", "action"]
def r_law_due : DS :=
  (dSeq (dSet 1 (dLst dNil))
  (dSeq (dIfS (dTst (dBin gEq (dVarB 0) (dC (.str "")))) (dRet (dTup (dCons (dVar 1) (dCons (dC .non) dNil)))) dNext)
  (dSeq (dSet 2 (dSplit (dVarB 0) (dC (.str "\n"))))
  (dSeq (dFor (diRng (dConsW (dBlt gLen (dConsW (dVarB 2) dNil)) dNil)) (dgName 3) (dSeq (dSet 4 (dSplit (dBin gIx (dVarB 2) (dVarB 3)) (dC (.str " "))))
  (dSeq (dIfS (dOr (dTst (dBin gLt (dBlt gLen (dConsW (dVarB 4) dNil)) (dC (.int 2)))) (dTst (dBin gGt (dBlt gLen (dConsW (dVarB 4) dNil)) (dC (.int 3))))) (dRet (dTup (dCons (dC .non) (dCons (dBin gAdd (dVarB 3) (dC (.int 1))) dNil)))) dNext)
  (dSeq (dFor (diVal (dVar 4)) (dgName 5) (dIfS (dNot (dTst (dCall 1 ph__law_is_name (dCons (dVar 5) dNil)))) (dRet (dTup (dCons (dC .non) (dCons (dBin gAdd (dVarB 3) (dC (.int 1))) dNil)))) dNext))
  (dApp 1 (dSl (dBin gAdd (dVarB 4) (dLst (dCons (dC .non) dNil))) dNoPart (dPart (dC (.int 3)))))))))
  (dRet (dTup (dCons (dLc (diVal (dVarB 1)) 6 dYes (dBlt gTuple (dConsW (dVarB 6) dNil))) (dCons (dC .non) dNil))))))))
/- theorem M_law_due : MD r_law_due 1 7 ph_law_due := fun ds Qd Xd h hl => by -/
def ph__law_due : Ph := fun ds Qd _ => ∃ x : Str, ds = [.str x] ∧ x.length ≤ 900 ∧ Qd (dDue x)
theorem M_law_due : MD r_law_due 1 7 ph__law_due := fun ds Qd Xd h hl => by
  obtain ⟨x, rfl, lx, q⟩ := h
  unfold r_law_due
  walk_at "ev"
  refine iK_d (fun c => ?_) fun c => ?_
  · walk_at "ev"
    unfold dDue at q
    rw [if_pos c] at q
    exact ⟨by decide, q⟩
  walk_at "ev"
  have lsp := PyProof.Rows.split_le x "\n"
  refine ⟨by decide, by unfold sizeLine; omega, by omega, by omega, ?_⟩
  refine forK.rng (fun k ρ => ∃ (as : List Act) (s3 s4 s5 : Sl), ρ = [.va (.str x), .ow (as.map dAl), .ow ((Txt.split x "\n").map .str), s3, s4, s5, .no] ∧ (acts x).take k = as.map some) ⟨[], _, _, _, rfl, rfl⟩ ?_ ?_
  · rintro k ρ' lt ⟨as, s3, s4, s5, rfl, ha⟩
    walk_at "ev"
    refine oK.mk (st_ix (j := k) rfl lt) ?_
    have hl := getD_at lt
    have hm := List.mem_of_getElem? hl
    have hk : (acts x)[k]? = some (lineW ((Txt.split x "\n").getD k ⟨#[]⟩)) := by
      unfold acts
      rw [List.getElem?_map, hl]
      rfl
    have l9 := part_short hm
    generalize (Txt.split x "\n").getD k ⟨#[]⟩ = l at hk l9
    walk_at "ev"
    refine ⟨by decide, by unfold sizeLine; omega, ?_⟩
    unfold lineW at hk
    have lw := PyProof.Rows.split_le l " "
    have sw : ∀ w ∈ Txt.split l " ", w.length ≤ 900 := fun w hw => by have := part_short hw; omega
    generalize Txt.split l " " = ws at hk lw sw
    have bad : actW ws = none → Qd (.tup [.non, .int ((k : Int) + 1)]) := fun e => by
      rw [e] at hk
      rw [due_bad c ha hk] at q
      exact q
    refine iK_d (fun c1 => ?_) fun c1 => ?_
    · walk_at "ev"
      exact ⟨by decide, bad (actW_len (by omega))⟩
    walk_at "ev"
    refine iK_d (fun c2 => ?_) fun c2 => ?_
    · walk_at "ev"
      exact ⟨by decide, bad (actW_len (by omega))⟩
    walk_at "ev"
    have h2 : ws.length = 2 ∨ ws.length = 3 := by omega
    have las : as.length ≤ 1000 := by
      have := congrArg List.length ha
      rw [List.length_map, List.length_take] at this
      have h0 := acts_len x
      omega
    refine forK.map (fun j ρ => ∃ y, ρ = [.va (.str x), .ow (as.map dAl), .ow ((Txt.split x "\n").map .str), .va (.int k), .va (.lst (ws.map .str)), y, .no] ∧ (ws.take j).all isName = true) ⟨_, rfl, rfl⟩ ?_ ?_
    · rintro j w ρ' hx kl ⟨y, rfl, al⟩
      have := sw w (List.mem_of_getElem? hx)
      walk_at "ev"
      refine ⟨w, rfl, by unfold sizeLine; omega, ?_⟩
      cases hb : isName w with
      | true =>
        walk_at "ev"
        exact ⟨_, rfl, all_take al hx hb⟩
      | false =>
        walk_at "ev"
        exact ⟨by decide, bad (actW_bad (all_not hx hb))⟩
    · rintro ρ' ⟨y, rfl, al⟩
      rw [List.take_length] at al
      obtain ⟨z, e1, e2⟩ := three_of h2 al
      walk_at "ev"
      rw [e2]
      refine ⟨by decide, by unfold sizeLine; omega, by unfold sizeLine; omega, as ++ [z], .va (.int k), .va (.lst (ws.map .str)), y, ?_, ?_⟩
      · rw [List.map_append]
        rfl
      · rw [List.take_add_one, hk, e1, ha, List.map_append]
        rfl
  · rintro ρ' ⟨as, s3, s4, s5, rfl, ha⟩
    walk_at "ev"
    have la : (acts x).length = (Txt.split x "\n").length := by unfold acts; rw [List.length_map]
    rw [← la, List.take_length] at ha
    rw [due_good c ha] at q
    have lb : as.length ≤ 1000 := by
      have := congrArg List.length ha
      rw [List.length_map] at this
      omega
    refine lcK.all (f := dAl) dAl_inj dAc (by unfold sizeLine; omega) (fun z hz => ?_) ?_
    · obtain ⟨a, b, e⟩ := z
      simp (dsimp := false) only [dAl_mk]
      walk_at "ev"
      exact ⟨rfl, rfl⟩
    · walk_at "ev"
      exact ⟨by decide, q⟩
end K8

-- part NE
set_option Elab.async false
set_option linter.all false
set_option maxRecDepth 100000
set_option maxHeartbeats 2000000
namespace K8
open PySem PySem.Spec PyProof.Rows L2 GxR GS GA GD DL
local macro_rules | `(tactic| walk_at "ev") => `(tactic| simp (dsimp := false) only [k0, k1, k2, k3, iK_true, iK_false, iK_not, sl_0, sl_s, vK_va, vK_ow, bK_va, bK_ow, dVar_ev, dVarB_ev, dC_ev, dBin_ev, tK_bl, dTst_ev, dAnd_ev, dOr_ev, dNot_ev, dAndV_ev, dOrV_ev, dNotV_ev, dIf_ev, dNext_ev, dSeq_st, kS_e, dBreak_ev, dCont_ev, dRet_ev, dRetN_ev, dIfS_ev, dSet_ev, dDrop_ev, slOf_fr, slOf_sh, gAdd_i, gAdd_s, gAdd_l, gAdd_t, num_i, gEq_i, gEq_s, gEq_b, gEq_sn, gEq_ns, gEq_in, gEq_ni, gEq_nn, gEq_is, gEq_si, gNe_i, gNe_s, gNe_b, gNe_sn, gNe_ns, gNe_in, gNe_ni, gNe_nn, gEq_l, gEq_t, gNe_l, gNe_t,
    gIsN_n, gIsN_s, gIsN_i, gIsN_l, gIsN_t, gNotN_n, gNotN_s, gNotN_i, gNotN_l, gNotN_t, gIn_l, gIn_t, gNin_l, gNin_t, flD_s, flD_i, flD_n, flD_str, flD_int, has_strs, gIx_l, gIx_t, gIx_s, DL.at0, at1, at2, at3, at4, at5, dNoPart_ev, pK_i, dPart_ev, sK_l, sK_r, sK_t, sK_s, dSl_ev, dNil_ev, dCons_ev, dConsW_ev, itsD_l, itsD_t, dStar_ev, dLst_ev, dTup_ev, dBlt_ev, gLen_l, gLen_t, gLen_r, gLen_s, gInt_i, gInt_b, gAbs_i, gMax_i, gMin_i, gTuple_l, gTuple_t, gList_l, gList_t, oW_ow, owAt_ev, decide_true, decide_false, Bool.not_true, Bool.not_false, gRepr_1, dStarT_ev, dRepl_ev, dIdx_ev, liK_l, has_two, stK_l, gTimes_s, zK_s, dSplit_ev, dJoin_ev, dInTab_ev, dIxTab_ev, gInD_l, gInS_s, gNinS_s, chK_b, dChn_ev, is_tt, is_ll, is_tn, is_bn, dTryAs_ev, dXf_ev, dIsx_ev, xK_x, dRaise1_ev, dIsi_ev, is_ss, is_sl, is_st, is_bb, dProp_ev, prK_i, xc_c, xc_a, dApp_ev, dStI_ev, wK_sh, wK_fr, wK_bo, wK_t, wK_r, wK_s, diVal_ev, rK_i, diRng_ev, eK_sh, eK_fr, eK_bo, diEnum_ev, dgName_ev, dgNil_ev, dgCons_ev, dgTup_ev, dAsg_ev, dFor_ev, dWhile_ev, dLc_ev, dGen_ev, dCall_ev, mK_i, dMeth_ev, fK_i, dFld_ev, nK_i, dNeg_ev, dYes_ev, oK_some, List.length_map, rng_len, Int.toNat_natCast,
    List.map_cons, List.map_nil, List.length_cons, List.length_nil, List.length_set, List.replicate_succ, List.replicate_zero, List.nil_append, List.cons_append, List.set_cons_zero, List.set_cons_succ, Nat.reduceAdd, Nat.reduceSub, ne_eq, reduceCtorEq, not_false_eq_true, not_true_eq_false, true_and, and_true, Nat.reduceLT, Nat.reduceLeDiff, Nat.zero_le, Bool.false_eq_true])
local macro_rules | `(tactic| walk_at "st") => `(tactic| simp (dsimp := false) only [k0, k1, k2, k3, iK_true, iK_false, iK_not, sl_0, sl_s, vK_va, vK_ow, bK_va, bK_ow, dVar_ev, dVarB_ev, dC_ev, dBin_ev, tK_bl, dTst_ev, dAnd_ev, dOr_ev, dNot_ev, dAndV_ev, dOrV_ev, dNotV_ev, dIf_ev, dNext_ev, dSeq_st, kS_e, dBreak_ev, dCont_ev, dRet_ev, dRetN_ev, dSet_ev, dDrop_ev, slOf_fr, slOf_sh, gAdd_i, gAdd_s, gAdd_l, gAdd_t, num_i, gEq_i, gEq_s, gEq_b, gEq_sn, gEq_ns, gEq_in, gEq_ni, gEq_nn, gEq_is, gEq_si, gNe_i, gNe_s, gNe_b, gNe_sn, gNe_ns, gNe_in, gNe_ni, gNe_nn, gEq_l, gEq_t, gNe_l, gNe_t,
    gIsN_n, gIsN_s, gIsN_i, gIsN_l, gIsN_t, gNotN_n, gNotN_s, gNotN_i, gNotN_l, gNotN_t, gIn_l, gIn_t, gNin_l, gNin_t, flD_s, flD_i, flD_n, flD_str, flD_int, has_strs, gIx_l, gIx_t, gIx_s, DL.at0, at1, at2, at3, at4, at5, dNoPart_ev, pK_i, dPart_ev, sK_l, sK_r, sK_t, sK_s, dSl_ev, dNil_ev, dCons_ev, dConsW_ev, itsD_l, itsD_t, dStar_ev, dLst_ev, dTup_ev, dBlt_ev, gLen_l, gLen_t, gLen_r, gLen_s, gInt_i, gInt_b, gAbs_i, gMax_i, gMin_i, gTuple_l, gTuple_t, gList_l, gList_t, oW_ow, owAt_ev, decide_true, decide_false, Bool.not_true, Bool.not_false, gRepr_1, dStarT_ev, dRepl_ev, dIdx_ev, liK_l, has_two, stK_l, gTimes_s, zK_s, dSplit_ev, dJoin_ev, dInTab_ev, dIxTab_ev, gInD_l, gInS_s, gNinS_s, chK_b, dChn_ev, is_tt, is_ll, is_tn, is_bn, dTryAs_ev, dXf_ev, dIsx_ev, xK_x, dRaise1_ev, dIsi_ev, is_ss, is_sl, is_st, is_bb, dProp_ev, prK_i, xc_c, xc_a, dApp_ev, dStI_ev, wK_sh, wK_fr, wK_bo, wK_t, wK_r, wK_s, diVal_ev, rK_i, diRng_ev, eK_sh, eK_fr, eK_bo, diEnum_ev, dgName_ev, dgNil_ev, dgCons_ev, dgTup_ev, dAsg_ev, dFor_ev, dWhile_ev, dLc_ev, dGen_ev, dCall_ev, mK_i, dMeth_ev, fK_i, dFld_ev, nK_i, dNeg_ev, dYes_ev, oK_some, List.length_map, rng_len, Int.toNat_natCast,
    List.map_cons, List.map_nil, List.length_cons, List.length_nil, List.length_set, List.replicate_succ, List.replicate_zero, List.nil_append, List.cons_append, List.set_cons_zero, List.set_cons_succ, Nat.reduceAdd, Nat.reduceSub, ne_eq, reduceCtorEq, not_false_eq_true, not_true_eq_false, true_and, and_true, Nat.reduceLT, Nat.reduceLeDiff, Nat.zero_le, Bool.false_eq_true])
theorem joinL_ch : ∀ l : List Nat, TL.joinL [] (l.map fun c => [c]) = l
  | [] => rfl
  | [c] => rfl
  | c :: d :: r => by
    show [c] ++ ([] ++ TL.joinL [] ((d :: r).map fun c => [c])) = _
    rw [joinL_ch (d :: r)]
    rfl
theorem join_ch (l : List Nat) : Txt.join "" (l.map fun c => mkS [c]) = mkS l := by
  refine TL.ext_tl ?_
  rw [TL.join_eq, TL.tl_join, List.map_map]
  have e : (List.map (TL.tl ∘ fun c => mkS [c]) l) = l.map fun c => [c] := List.map_congr_left fun c _ => rfl
  have e2 : TL.tl ("" : Str) = [] := by decide +kernel
  rw [e, e2, joinL_ch]
  rfl
theorem sum_one (l : List Nat) : ((l.map fun c => mkS [c]).map (·.length)).sum = l.length := by
  induction l with
  | nil => rfl
  | cons c r ih =>
    rw [List.map_cons, List.map_cons, List.sum_cons, ih, List.length_cons]
    show 1 + _ = _
    omega
theorem m36 (x : Int) : 0 ≤ x % 36 ∧ x % 36 < 36 := ⟨Int.emod_nonneg _ (by decide), Int.emod_lt_of_pos _ (by decide)⟩
theorem m0 (x : Int) {c : Int} (h : 0 < c) : 0 ≤ x % c ∧ x % c < c := ⟨Int.emod_nonneg _ (by omega), Int.emod_lt_of_pos _ h⟩
theorem ap_len (a b : Str) : (a ++ b).length = a.length + b.length := Array.size_append
theorem sw_app (l r : List Str) : l.map D.str ++ r.map D.str = (l ++ r).map D.str := List.map_append.symm
theorem sw_one (l : List Str) (x : Str) : l.map D.str ++ [D.str x] = (l ++ [x]).map D.str := sw_app l [x]
def restL (n : Int) (c : Nat) : List Nat := (List.range c).map fun k : Nat => sg ((n + 7 * (k : Int) * (k : Int)) % 36)
theorem restL_len (n : Int) (c : Nat) : (restL n c).length = c := by unfold restL; rw [List.length_map, List.length_range]
abbrev N_law_names : List Str := ["number", "many", "letters", "size", "rest", "place", "names", "k", "own", "spot", "step"]
def r_law_names : DS :=
  (dSeq (dSet 2 (dC (.str "abcdefghijklmnopqrstuvwxyz0123456789")))
  (dSeq (dSet 3 (dBin gMod (dBlt gInt (dConsW (dVarB 0) dNil)) (dC (.int 11))))
  (dSeq (dSet 4 (dJoin (dC (.str "")) (dLc (diRng (dConsW (dVarB 3) dNil)) 7 dYes (dBin gIx (dVarB 2) (dBin gMod (dBlt gInt (dConsW (dBin gAdd (dVarB 0) (dBin gMul (dBin gMul (dC (.int 7)) (dVarB 7)) (dVarB 7))) dNil)) (dC (.int 36)))))))
  (dSeq (dSet 5 (dBin gMod (dBin gDiv (dVarB 0) (dC (.int 11))) (dBin gAdd (dVarB 3) (dC (.int 1)))))
  (dSeq (dSet 6 (dLst dNil))
  (dSeq (dFor (diRng (dConsW (dVarB 1) dNil)) (dgName 7) (dSeq (dSet 8 (dVar 4))
  (dSeq (dIfS (dTst (dBin gEq (dBin gMod (dBlt gInt (dConsW (dBin gAdd (dBin gDiv (dVarB 0) (dC (.int 121))) (dVarB 7)) dNil)) (dC (.int 3))) (dC (.int 0)))) (dSet 8 (dSl (dVarB 4) (dPart (dC (.int 1))) dNoPart)) dNext)
  (dSeq (dSet 9 (dBlt gMin (dConsW (dVarB 5) (dConsW (dBlt gLen (dConsW (dVarB 8) dNil)) dNil))))
  (dSeq (dSet 10 (dC (.int 5)))
  (dSeq (dIfS (dTst (dBin gEq (dBin gMod (dBin gDiv (dVarB 0) (dC (.int 363))) (dC (.int 2))) (dC (.int 1)))) (dSet 10 (dC (.int 31))) dNext)
  (dApp 6 (dBin gAdd (dBin gAdd (dBin gAdd (dBin gIx (dVarB 2) (dBin gMod (dBlt gInt (dConsW (dBin gAdd (dVarB 0) (dBin gMul (dC (.int 3)) (dVarB 7))) dNil)) (dC (.int 26)))) (dSl (dVarB 8) dNoPart (dPart (dVarB 9)))) (dBin gIx (dVarB 2) (dBin gMod (dBlt gInt (dConsW (dBin gAdd (dVarB 0) (dBin gMul (dVarB 10) (dVarB 7))) dNil)) (dC (.int 36))))) (dSl (dVarB 8) (dPart (dVarB 9)) dNoPart)))))))))
  (dRet (dVar 6))))))))
/- theorem M_law_names : MD r_law_names 2 11 ph_law_names := fun ds Qd Xd h hl => by -/
def ph__law_names : Ph := fun ds Qd _ => ∃ (n : Int) (m : Nat), ds = [.int n, .int m] ∧ DL.In9 n ∧ m ≤ 20 ∧ ∀ l : List Str, l.length = m → (∀ w ∈ l, w.length ≤ 12) → Qd (dL l)
theorem M_law_names : MD r_law_names 2 11 ph__law_names := fun ds Qd Xd h hl => by
  obtain ⟨n, m, rfl, hn, hm, q⟩ := h
  unfold r_law_names
  have z11 := m0 n (show (0 : Int) < 11 by decide)
  walk_at "st"
  refine ⟨by decide, by omega, by omega, ?_⟩
  have c10 : (n % 11).toNat ≤ 10 := by omega
  have ec : n % 11 = (((n % 11).toNat : Nat) : Int) := by omega
  generalize (n % 11).toNat = c at c10 ec
  refine lcK.rng (fun k => .str (mkS [sg ((n + 7 * (k : Int) * (k : Int)) % 36)])) (by unfold sizeLine; omega) (fun k lt => ?_) ?_
  · walk_at "ev"
    have h1 := log2_small (i := (k : Int)) (b := 4) (by omega) (by show _ < (2 : Int) ^ 4; omega)
    have h3 := log2_small (i := 7 * (k : Int)) (b := 7) (by omega) (by show _ < (2 : Int) ^ 7; omega)
    refine ⟨?_, ?_, by decide, by decide, oK.mk (signs_at (m36 _).1 (m36 _).2) ?_⟩
    · show (7 : Nat).log2 + _ < _
      have : (7 : Nat).log2 = 2 := by decide
      omega
    · show _ + _ < _
      omega
    · walk_at "ev"
      rfl
  have e1 : ((List.range c).map fun k : Nat => D.str (mkS [sg ((n + 7 * (k : Int) * (k : Int)) % 36)])) = ((restL n c).map fun c => mkS [c]).map D.str := by
    unfold restL
    rw [List.map_map, List.map_map]
    rfl
  have lr := restL_len n c
  walk_at "st"
  rw [e1]
  refine ysK.mk _ ?_
  refine ⟨by rw [sum_one, List.length_map]; show _ + _ * 0 ≤ _; omega, ?_⟩
  rw [join_ch]
  generalize restL n c = rl at lr
  walk_at "st"
  refine ⟨⟨by decide, by decide⟩, by omega, by omega, by omega, ?_⟩
  have zp := m0 (n / 11) (show (0 : Int) < n % 11 + 1 by omega)
  generalize n / 11 % (n % 11 + 1) = pl at zp
  refine forK.rng (fun k ρ => ∃ (ws : List Str) (s7 s8 s9 s10 : Sl), ρ = [.va (.int n), .va (.int m), .va (.str signs), .va (.int (n % 11)), .va (.str (mkS rl)), .va (.int pl), .ow (ws.map .str), s7, s8, s9, s10] ∧ ws.length = k ∧ ∀ w ∈ ws, w.length ≤ 12) ⟨[], _, _, _, _, rfl, rfl, fun w hw => by cases hw⟩ ?_ ?_
  · rintro k ρ' lt ⟨ws, s7, s8, s9, s10, rfl, lw, hw⟩
    walk_at "st"
    refine ifJ (decide ((n / 121 + (k : Int)) % 3 = 0)) (fun ρ => ∃ o : List Nat, ρ = [.va (.int n), .va (.int m), .va (.str signs), .va (.int (n % 11)), .va (.str (mkS rl)), .va (.int pl), .ow (ws.map .str), .va (.int k), .va (.str (mkS o)), s9, s10] ∧ o.length ≤ 10) (fun R r => ?_) (fun K J b => ?_) (fun K J b => ?_) ?_
    · walk_at "ev"
      exact ⟨⟨by decide, by decide⟩, by decide, r⟩
    · walk_at "ev"
      rw [show cutS (mkS rl) (some 1) none = mkS (rl.drop 1) from cutS_drop rl 1]
      exact ⟨by rw [mkS_len]; unfold sizeLine; omega, J _ ⟨rl.drop 1, rfl, by rw [List.length_drop]; omega⟩⟩
    · walk_at "ev"
      exact J _ ⟨rl, rfl, by omega⟩
    rintro ρ' ⟨o, rfl, lo⟩
    walk_at "st"
    rw [mkS_len]
    obtain ⟨p, ep⟩ : ∃ p : Nat, (if (o.length : Int) < pl then (o.length : Int) else pl) = (p : Int) := ⟨(if (o.length : Int) < pl then (o.length : Int) else pl).toNat, by split <;> omega⟩
    rw [ep]
    refine ⟨by unfold sizeLine; omega, ?_⟩
    refine ifJ (decide (n / 363 % 2 = 1)) (fun ρ => ∃ st : Int, ρ = [.va (.int n), .va (.int m), .va (.str signs), .va (.int (n % 11)), .va (.str (mkS rl)), .va (.int pl), .ow (ws.map .str), .va (.int k), .va (.str (mkS o)), .va (.int p), .va (.int st)] ∧ 0 ≤ st ∧ st ≤ 31) (fun R r => ?_) (fun K J b => ?_) (fun K J b => ?_) ?_
    · walk_at "ev"
      exact ⟨⟨by decide, by decide⟩, by decide, r⟩
    · walk_at "ev"
      exact J _ ⟨31, rfl, by omega, by omega⟩
    · walk_at "ev"
      exact J _ ⟨5, rfl, by omega, by omega⟩
    rintro ρ' ⟨st, rfl, s0, s1⟩
    have z26 := m0 (n + 3 * (k : Int)) (show (0 : Int) < 26 by decide)
    have z36 := m36 (n + st * (k : Int))
    have h1 := log2_small (i := (k : Int)) (b := 5) (by omega) (by show _ < (2 : Int) ^ 5; omega)
    have h2 := log2_small (i := st) (b := 5) s0 (by show _ < (2 : Int) ^ 5; omega)
    have l1 : ((3 : Nat).log2) = 1 := by decide
    walk_at "ev"
    refine ⟨by show (3 : Nat).log2 + _ < _; omega, by decide, by decide, oK.mk (signs_at z26.1 (by omega)) ?_⟩
    walk_at "ev"
    rw [cutS_take]
    have lt1 : (List.take p o).length = min p o.length := List.length_take ..
    have lt2 : (List.drop p o).length = o.length - p := List.length_drop ..
    refine ⟨by rw [mkS_len]; unfold sizeLine; omega, ?_, by show _ + _ < _; omega, by decide, by decide, oK.mk (signs_at z36.1 (by omega)) ?_⟩
    · rw [mkS_len]; show 1 + _ ≤ sizeLine; unfold sizeLine; omega
    walk_at "ev"
    rw [cutS_drop]
    have ea : (⟨#[sg ((n + 3 * (k : Int)) % 26)]⟩ ++ mkS (List.take p o) : Str).length = 1 + min p o.length := by rw [ap_len, mkS_len, lt1]; rfl
    have eb : (⟨#[sg ((n + 3 * (k : Int)) % 26)]⟩ ++ mkS (List.take p o) ++ ⟨#[sg ((n + st * (k : Int)) % 36)]⟩ : Str).length = 2 + min p o.length := by rw [ap_len, ea]; show _ + 1 = _; omega
    have ed : (⟨#[sg ((n + 3 * (k : Int)) % 26)]⟩ ++ mkS (List.take p o) ++ ⟨#[sg ((n + st * (k : Int)) % 36)]⟩ ++ mkS (List.drop p o) : Str).length ≤ 12 := by rw [ap_len, eb, mkS_len, lt2]; omega
    refine ⟨by rw [ea]; show _ + 1 ≤ _; unfold sizeLine; omega, by rw [mkS_len]; unfold sizeLine; omega, by rw [eb, mkS_len]; unfold sizeLine; omega, by unfold sizeLine; omega, ws ++ [_], _, _, _, _, by rw [sw_one], by rw [List.length_append, lw]; rfl, fun w hw' => ?_⟩
    rcases List.mem_append.mp hw' with h | h
    · exact hw w h
    · rw [List.mem_singleton.mp h]
      exact ed
  · rintro ρ' ⟨ws, s7, s8, s9, s10, rfl, lw, hw⟩
    walk_at "ev"
    exact q ws lw hw
abbrev N_law_turned : List Str := ["numbers", "at", "lines", "place", "line", "turned"]
def r_law_turned : DS :=
  (dSeq (dSet 3 (dBin gMod (dBlt gInt (dConsW (dBin gIx (dVarB 0) (dVarB 1)) dNil)) (dBlt gLen (dConsW (dVarB 2) dNil))))
  (dSeq (dSet 4 (dBin gIx (dVarB 2) (dVarB 3)))
  (dSeq (dSet 5 (dTup (dCons (dBin gAdd (dVarB 4) (dC (.str " x"))) (dCons (dBin gAdd (dVarB 4) (dC (.str " "))) (dCons (dBin gAdd (dC (.str " ")) (dVarB 4)) (dCons (dRepl " " "  " (dVarB 4)) (dCons (dBin gIx (dSplit (dVarB 4) (dC (.str " "))) (dC (.int 0))) (dCons (dC (.str "")) (dCons (dBin gAdd (dVarB 4) (dC (.str " A"))) (dCons (dBin gAdd (dVarB 4) (dC (.str "_"))) dNil))))))))))
  (dSeq (dSet 5 (dBin gAdd (dVarB 5) (dTup (dCons (dBin gAdd (dC (.str "1")) (dVarB 4)) (dCons (dBin gAdd (dVarB 4) (dC (.str "0000000000000"))) (dCons (dBin gAdd (dVarB 4) (dC (.str " x y"))) (dCons (dRepl "a" "A" (dVarB 4)) (dCons (dBin gAdd (dVarB 4) (dC (.str "\t"))) dNil))))))))
  (dRet (dBin gAdd (dBin gAdd (dSl (dVarB 2) dNoPart (dPart (dVarB 3))) (dLst (dCons (dBin gIx (dVarB 5) (dBin gMod (dBin gDiv (dBin gIx (dVarB 0) (dVarB 1)) (dC (.int 9))) (dC (.int 13)))) dNil))) (dSl (dVarB 2) (dPart (dBin gAdd (dVarB 3) (dC (.int 1)))) dNoPart)))))))
/- theorem M_law_turned : MD r_law_turned 3 6 ph_law_turned := fun ds Qd Xd h hl => by -/
def tot (l : List Str) : Nat := (l.map (·.length)).sum
theorem tot_app (l r : List Str) : tot (l ++ r) = tot l + tot r := by unfold tot; rw [List.map_append, List.sum_append]
theorem tot_take : ∀ (p : Nat) (l : List Str), tot (l.take p) + tot (l.drop p) = tot l := fun p l => by rw [← tot_app, List.take_append_drop]
theorem tot_cut {p : Nat} {l : List Str} {t : Str} {T B : Nat} (h : tot l ≤ T) (ht : t.length ≤ B) : tot (l.take p ++ [t] ++ l.drop (p + 1)) ≤ T + B := by
  rw [tot_app, tot_app]
  have h1 := tot_take p l
  have h2 := tot_take 1 (l.drop p)
  rw [List.drop_drop] at h2
  have h3 : tot [t] = t.length := by unfold tot; simp
  omega
def turnL (l : Str) : List Str := [l ++ " x", l ++ " ", " " ++ l, Txt.replace l " " "  ", (Txt.split l " ").getD 0 ⟨#[]⟩, "", l ++ " A", l ++ "_", "1" ++ l, l ++ "0000000000000", l ++ " x y", Txt.replace l "a" "A", l ++ "\t"]
theorem turnL_len {l t : Str} (h : t ∈ turnL l) : t.length ≤ 3 * l.length + 20 := by
  have r1 := TK.replace_len l " " "  "
  have r2 := TK.replace_len l "a" "A"
  have e1 : ("  " : Str).length = 2 := by decide +kernel
  have e2 : ("A" : Str).length = 1 := by decide +kernel
  rw [e1] at r1
  rw [e2] at r2
  have r3 := part_short (List.mem_of_getElem? (getD_at (show 0 < (Txt.split l " ").length from split_pos l " ")))
  unfold turnL at h
  simp only [List.mem_cons, List.not_mem_nil, or_false] at h
  rcases h with rfl | rfl | rfl | rfl | rfl | rfl | rfl | rfl | rfl | rfl | rfl | rfl | rfl
  · rw [ap_len]; show _ + 2 ≤ _; omega
  · rw [ap_len]; show _ + 1 ≤ _; omega
  · rw [ap_len]; show 1 + _ ≤ _; omega
  · omega
  · omega
  · show 0 ≤ _; omega
  · rw [ap_len]; show _ + 2 ≤ _; omega
  · rw [ap_len]; show _ + 1 ≤ _; omega
  · rw [ap_len]; show 1 + _ ≤ _; omega
  · rw [ap_len]; show _ + 13 ≤ _; omega
  · rw [ap_len]; show _ + 4 ≤ _; omega
  · omega
  · rw [ap_len]; show _ + 1 ≤ _; omega
def ph__law_turned : Ph := fun ds Qd _ => ∃ (ns : List Int) (a : Nat) (ls : List Str) (B T : Nat), ds = [.lst (ns.map .int), .int a, dL ls] ∧ (∀ n ∈ ns, DL.In9 n) ∧ a < ns.length ∧ ls ≠ [] ∧ ls.length ≤ 20 ∧ (∀ l ∈ ls, l.length ≤ B) ∧ tot ls ≤ T ∧ B ≤ 1000 ∧ ∀ us : List Str, us.length = ls.length → (∀ l ∈ us, l.length ≤ 3 * B + 20) → tot us ≤ T + (3 * B + 20) → Qd (dL us)
theorem M_law_turned : MD r_law_turned 3 6 ph__law_turned := fun ds Qd Xd h hl => by
  obtain ⟨ns, a, ls, B, T, rfl, h9, ha, hn, hz, hB, hT, b1, q⟩ := h
  have lp : 0 < ls.length := List.length_pos_iff.mpr hn
  have zp := m0 (nu ns a) (show (0 : Int) < (ls.length : Int) by omega)
  obtain ⟨p, ep⟩ : ∃ p : Nat, nu ns a % (ls.length : Int) = (p : Int) := ⟨(nu ns a % (ls.length : Int)).toNat, by omega⟩
  have pl : p < ls.length := by omega
  have z13 := m0 (nu ns a / 9) (show (0 : Int) < 13 by decide)
  unfold r_law_turned dL
  walk_at "ev"
  refine oK.mk (atn (j := a) rfl (by omega)) ?_
  walk_at "ev"
  rw [ep]
  refine ⟨by omega, oK.mk (st_ix (j := p) rfl pl) ?_⟩
  have hl1 := hB _ (List.mem_of_getElem? (getD_at pl))
  generalize ls.getD p ⟨#[]⟩ = l at hl1
  walk_at "ev"
  have sz : ∀ c, c ≤ 100 → l.length + c ≤ sizeLine := fun c hc => by unfold sizeLine; omega
  refine ⟨sz 2 (by decide), sz 1 (by decide), by show 1 + _ ≤ _; unfold sizeLine; omega, by show _ + _ * 2 ≤ _; omega, by decide, sz 2 (by decide), oK.mk (st_ix (j := 0) rfl (split_pos l " ")) ?_⟩
  walk_at "ev"
  refine ⟨sz 2 (by decide), sz 1 (by decide), by decide, by show 1 + _ ≤ _; unfold sizeLine; omega, sz 13 (by decide), sz 4 (by decide), by show _ + _ * 1 ≤ _; omega, sz 1 (by decide), by decide, ?_⟩
  refine ⟨by decide, oK.mk (atn (j := a) rfl ha) ?_⟩
  walk_at "ev"
  have h13 : (nu ns a / 9 % 13).toNat < (turnL l).length := by show _ < 13; omega
  refine ⟨⟨by decide, by decide⟩, by decide, oK.mk (st_ix (l := turnL l) (j := (nu ns a / 9 % 13).toNat) (by omega) h13) ?_⟩
  have ht := turnL_len (List.mem_of_getElem? (getD_at h13))
  generalize (turnL l).getD _ ⟨#[]⟩ = t at ht
  walk_at "ev"
  rw [cutD_take, show ((p : Int) + 1) = ((p + 1 : Nat) : Int) from rfl, cutD_drop, ← List.map_take, ← List.map_drop, sw_one, sw_app, List.length_map, List.length_map, List.length_map]
  have lt1 : (List.take p ls).length = min p ls.length := List.length_take ..
  have lt2 : (List.drop (p + 1) ls).length = ls.length - (p + 1) := List.length_drop ..
  have hm : (List.take p ls ++ [t]).length = p + 1 := by rw [List.length_append, lt1]; show min p ls.length + 1 = p + 1; omega
  refine ⟨by decide, by unfold sizeLine; omega, by unfold sizeLine; omega, q _ (by rw [List.length_append, hm, lt2]; omega) (fun u hu => ?_) (tot_cut hT (by omega))⟩
  rcases List.mem_append.mp hu with h | h
  · rcases List.mem_append.mp h with h | h
    · have := hB u (List.mem_of_mem_take h); omega
    · rw [List.mem_singleton.mp h]; omega
  · have := hB u (List.mem_of_mem_drop h); omega
end K8

-- part NL
set_option Elab.async false
set_option linter.all false
set_option maxRecDepth 100000
set_option maxHeartbeats 2000000
namespace K8
open PySem PySem.Spec PyProof.Rows L2 GxR GS GA GD DL
local macro_rules | `(tactic| walk_at "ev") => `(tactic| simp (dsimp := false) only [k0, k1, k2, k3, iK_true, iK_false, iK_not, sl_0, sl_s, vK_va, vK_ow, bK_va, bK_ow, dVar_ev, dVarB_ev, dC_ev, dBin_ev, tK_bl, dTst_ev, dAnd_ev, dOr_ev, dNot_ev, dAndV_ev, dOrV_ev, dNotV_ev, dIf_ev, dNext_ev, dSeq_st, kS_e, dBreak_ev, dCont_ev, dRet_ev, dRetN_ev, dIfS_ev, dSet_ev, dDrop_ev, slOf_fr, slOf_sh, gAdd_i, gAdd_s, gAdd_l, gAdd_t, num_i, gEq_i, gEq_s, gEq_b, gEq_sn, gEq_ns, gEq_in, gEq_ni, gEq_nn, gEq_is, gEq_si, gNe_i, gNe_s, gNe_b, gNe_sn, gNe_ns, gNe_in, gNe_ni, gNe_nn, gEq_l, gEq_t, gNe_l, gNe_t,
    gIsN_n, gIsN_s, gIsN_i, gIsN_l, gIsN_t, gNotN_n, gNotN_s, gNotN_i, gNotN_l, gNotN_t, gIn_l, gIn_t, gNin_l, gNin_t, flD_s, flD_i, flD_n, flD_str, flD_int, has_strs, gIx_l, gIx_t, gIx_s, DL.at0, at1, at2, at3, at4, at5, dNoPart_ev, pK_i, dPart_ev, sK_l, sK_r, sK_t, sK_s, dSl_ev, dNil_ev, dCons_ev, dConsW_ev, itsD_l, itsD_t, dStar_ev, dLst_ev, dTup_ev, dBlt_ev, gLen_l, gLen_t, gLen_r, gLen_s, gInt_i, gInt_b, gAbs_i, gMax_i, gMin_i, gTuple_l, gTuple_t, gList_l, gList_t, oW_ow, owAt_ev, decide_true, decide_false, Bool.not_true, Bool.not_false, gRepr_1, dStarT_ev, dRepl_ev, dIdx_ev, liK_l, has_two, stK_l, gTimes_s, zK_s, dSplit_ev, dJoin_ev, dInTab_ev, dIxTab_ev, gInD_l, gInS_s, gNinS_s, chK_b, dChn_ev, is_tt, is_ll, is_tn, is_bn, dTryAs_ev, dXf_ev, dIsx_ev, xK_x, dRaise1_ev, dIsi_ev, is_ss, is_sl, is_st, is_bb, dProp_ev, prK_i, xc_c, xc_a, dApp_ev, dStI_ev, wK_sh, wK_fr, wK_bo, wK_t, wK_r, wK_s, diVal_ev, rK_i, diRng_ev, eK_sh, eK_fr, eK_bo, diEnum_ev, dgName_ev, dgNil_ev, dgCons_ev, dgTup_ev, dAsg_ev, dFor_ev, dWhile_ev, dLc_ev, dGen_ev, dCall_ev, mK_i, dMeth_ev, fK_i, dFld_ev, nK_i, dNeg_ev, dYes_ev, oK_some, List.length_map, rng_len, Int.toNat_natCast,
    List.map_cons, List.map_nil, List.length_cons, List.length_nil, List.length_set, List.replicate_succ, List.replicate_zero, List.nil_append, List.cons_append, List.set_cons_zero, List.set_cons_succ, Nat.reduceAdd, Nat.reduceSub, ne_eq, reduceCtorEq, not_false_eq_true, not_true_eq_false, true_and, and_true, Nat.reduceLT, Nat.reduceLeDiff, Nat.zero_le, Bool.false_eq_true])
local macro_rules | `(tactic| walk_at "st") => `(tactic| simp (dsimp := false) only [k0, k1, k2, k3, iK_true, iK_false, iK_not, sl_0, sl_s, vK_va, vK_ow, bK_va, bK_ow, dVar_ev, dVarB_ev, dC_ev, dBin_ev, tK_bl, dTst_ev, dAnd_ev, dOr_ev, dNot_ev, dAndV_ev, dOrV_ev, dNotV_ev, dIf_ev, dNext_ev, dSeq_st, kS_e, dBreak_ev, dCont_ev, dRet_ev, dRetN_ev, dSet_ev, dDrop_ev, slOf_fr, slOf_sh, gAdd_i, gAdd_s, gAdd_l, gAdd_t, num_i, gEq_i, gEq_s, gEq_b, gEq_sn, gEq_ns, gEq_in, gEq_ni, gEq_nn, gEq_is, gEq_si, gNe_i, gNe_s, gNe_b, gNe_sn, gNe_ns, gNe_in, gNe_ni, gNe_nn, gEq_l, gEq_t, gNe_l, gNe_t,
    gIsN_n, gIsN_s, gIsN_i, gIsN_l, gIsN_t, gNotN_n, gNotN_s, gNotN_i, gNotN_l, gNotN_t, gIn_l, gIn_t, gNin_l, gNin_t, flD_s, flD_i, flD_n, flD_str, flD_int, has_strs, gIx_l, gIx_t, gIx_s, DL.at0, at1, at2, at3, at4, at5, dNoPart_ev, pK_i, dPart_ev, sK_l, sK_r, sK_t, sK_s, dSl_ev, dNil_ev, dCons_ev, dConsW_ev, itsD_l, itsD_t, dStar_ev, dLst_ev, dTup_ev, dBlt_ev, gLen_l, gLen_t, gLen_r, gLen_s, gInt_i, gInt_b, gAbs_i, gMax_i, gMin_i, gTuple_l, gTuple_t, gList_l, gList_t, oW_ow, owAt_ev, decide_true, decide_false, Bool.not_true, Bool.not_false, gRepr_1, dStarT_ev, dRepl_ev, dIdx_ev, liK_l, has_two, stK_l, gTimes_s, zK_s, dSplit_ev, dJoin_ev, dInTab_ev, dIxTab_ev, gInD_l, gInS_s, gNinS_s, chK_b, dChn_ev, is_tt, is_ll, is_tn, is_bn, dTryAs_ev, dXf_ev, dIsx_ev, xK_x, dRaise1_ev, dIsi_ev, is_ss, is_sl, is_st, is_bb, dProp_ev, prK_i, xc_c, xc_a, dApp_ev, dStI_ev, wK_sh, wK_fr, wK_bo, wK_t, wK_r, wK_s, diVal_ev, rK_i, diRng_ev, eK_sh, eK_fr, eK_bo, diEnum_ev, dgName_ev, dgNil_ev, dgCons_ev, dgTup_ev, dAsg_ev, dFor_ev, dWhile_ev, dLc_ev, dGen_ev, dCall_ev, mK_i, dMeth_ev, fK_i, dFld_ev, nK_i, dNeg_ev, dYes_ev, oK_some, List.length_map, rng_len, Int.toNat_natCast,
    List.map_cons, List.map_nil, List.length_cons, List.length_nil, List.length_set, List.replicate_succ, List.replicate_zero, List.nil_append, List.cons_append, List.set_cons_zero, List.set_cons_succ, Nat.reduceAdd, Nat.reduceSub, ne_eq, reduceCtorEq, not_false_eq_true, not_true_eq_false, true_and, and_true, Nat.reduceLT, Nat.reduceLeDiff, Nat.zero_le, Bool.false_eq_true])
/-- how long data are when they are shown -/
structure Sw (d : D) (n : Nat) : Prop where
  b : (pd d).bulk ≤ n
  l : (pd d).leavesShort 10 = true
  s : (pd d).showable = true
theorem Sw.str {x : Str} (h : Wn x) : Sw (.str x) 12 := by
  refine ⟨?_, ?_, ?_⟩
  · unfold pd PyData.bulk
    exact h.len
  · unfold pd PyData.leavesShort
    rw [List.all_eq_true]
    exact fun c hc => decide_eq_true (by have := h.cs c hc; omega)
  · unfold pd PyData.showable
    rfl
theorem Sw.non : Sw .non 0 := ⟨by unfold pd PyData.bulk; exact Nat.le_refl _, by unfold pd PyData.leavesShort; rfl, by unfold pd PyData.showable; rfl⟩
theorem Sw.more {d : D} {m n : Nat} (h : Sw d m) (e : m ≤ n) : Sw d n := ⟨Nat.le_trans h.b e, h.l, h.s⟩
structure Swl (ds : List D) (n : Nat) : Prop where
  b : PyData.bulkAll (pdL ds) ≤ n
  l : PyData.leavesShortAll 10 (pdL ds) = true
  s : PyData.showableAll (pdL ds) = true
theorem Swl.nil : Swl [] 0 := ⟨by unfold pdL PyData.bulkAll; exact Nat.le_refl _, by unfold pdL PyData.leavesShortAll; rfl, by unfold pdL PyData.showableAll; rfl⟩
theorem Swl.cons {d : D} {ds : List D} {m n : Nat} (h : Sw d m) (t : Swl ds n) : Swl (d :: ds) (m + 1 + n) := by
  refine ⟨?_, ?_, ?_⟩
  · unfold pdL PyData.bulkAll
    have := h.b
    have := t.b
    omega
  · unfold pdL PyData.leavesShortAll
    rw [h.l, t.l]
    rfl
  · unfold pdL PyData.showableAll
    rw [h.s, t.s]
    rfl
theorem Sw.lst {ds : List D} {n : Nat} (h : Swl ds n) : Sw (.lst ds) n := ⟨by unfold pd PyData.bulk; exact h.b, by unfold pd PyData.leavesShort; exact h.l, by unfold pd PyData.showable; exact h.s⟩
theorem Sw.tup {ds : List D} {n : Nat} (h : Swl ds n) : Sw (.tup ds) n := ⟨by unfold pd PyData.bulk; exact h.b, by unfold pd PyData.leavesShort; exact h.l, by unfold pd PyData.showable; exact h.s⟩
theorem Swl.more {d : List D} {m n : Nat} (h : Swl d m) (e : m ≤ n) : Swl d n := ⟨Nat.le_trans h.b e, h.l, h.s⟩
theorem Sw.fits {d : D} {n : Nat} (h : Sw d n) (hn : n ≤ 100000) : (pd d).shown.length ≤ sizeLine := by
  have := PyData.shown_le_bulk 10 (by omega) (pd d) h.l
  have := h.b
  unfold sizeLine
  omega
theorem Sw.ac {z : Act} (h : Wa z) : Sw (dAc z) 39 := by
  obtain ⟨a, b, c⟩ := z
  obtain ⟨h1, h2, h3⟩ := h
  have hp : Sw (dOS c) 12 := by
    cases c with
    | none => exact Sw.non.more (by omega)
    | some x => exact Sw.str (h3 x rfl)
  exact (Sw.tup (Swl.cons (Sw.str h1) (Swl.cons (Sw.str h2) (Swl.cons hp Swl.nil)))).more (by omega)
theorem Swl.acs : ∀ {as : List Act}, (∀ z ∈ as, Wa z) → Swl (as.map dAc) (40 * as.length)
  | [], _ => Swl.nil
  | z :: r, h => by
    rw [List.map_cons]
    exact (Swl.cons (Sw.ac (h z List.mem_cons_self)) (Swl.acs fun x hx => h x (List.mem_cons_of_mem _ hx))).more (by rw [List.length_cons]; omega)
/-- the actions of a plan may be shown -/
theorem acts_fits {x : Str} {as : List Act} (hx : x.length ≤ 900) (e : acts x = as.map some) : okD (.lst (as.map dAc)) = true ∧ (pd (.lst (as.map dAc))).showable = true ∧ dpt (.lst (as.map dAc)) ≤ 60 ∧ (pd (.lst (as.map dAc))).shown.length ≤ sizeLine := by
  have wa : ∀ z ∈ as, Wa z := fun z hz => acts_wa (x := x) z (by rw [e]; exact List.mem_map_of_mem hz)
  have la := acts_len x
  rw [e, List.length_map] at la
  have sw : Sw (.lst (as.map dAc)) 100000 := (Sw.lst (Swl.acs wa)).more (by omega)
  have sh := shp_acts x
  rw [e, dAo_some] at sh
  obtain ⟨o1, o2⟩ := He.ba sh
  exact ⟨o1, sw.s, of_decide_eq_true o2, sw.fits (Nat.le_refl _)⟩
theorem dOS_inj (a b : Option Str) (h : dOS a = dOS b) : a = b := by
  cases a <;> cases b
  · rfl
  · cases h
  · cases h
  · rw [D.str.inj h]
theorem dAc_inj (y z : Act) (h : dAc y = dAc z) : y = z := by
  obtain ⟨a, b, c⟩ := y
  obtain ⟨d, e, f⟩ := z
  rw [dAc_mk, dAc_mk] at h
  injection h with h
  injection h with h1 h
  injection h with h2 h
  injection h with h3 h
  rw [D.str.inj h1, D.str.inj h2, dOS_inj _ _ h3]
theorem words_of (a b : Str) (c : Option Str) : ([some a, some b, c].filter Option.isSome).map dOS = (acWords (a, b, c)).map D.str := by
  cases c <;> rfl
theorem acWords_len {z : Act} (h : Sh z) : ((acWords z).map (·.length)).sum + (acWords z).length * 1 ≤ 16777216 := by
  obtain ⟨a, b, c⟩ := z
  obtain ⟨h1, h2, h3⟩ := h
  have h1 : a.length ≤ 12 := h1
  have h2 : b.length ≤ 12 := h2
  cases c with
  | none =>
    show a.length + (b.length + 0) + 2 * 1 ≤ _
    omega
  | some x =>
    have h3 : x.length ≤ 12 := h3 x rfl
    show a.length + (b.length + (x.length + 0)) + 3 * 1 ≤ _
    omega
theorem tot_le {B : Nat} {ys : List Str} (h : ∀ y ∈ ys, y.length ≤ B) : tot ys ≤ ys.length * B := sum_le h
theorem nil_fits : okD (.lst []) = true ∧ (pd (.lst [])).showable = true ∧ dpt (.lst []) ≤ 60 ∧ (pd (.lst [])).shown.length ≤ sizeLine :=
  ⟨by unfold okD okL; rfl, (Sw.lst Swl.nil).s, by unfold dpt dptL; decide, (Sw.lst Swl.nil).fits (Nat.zero_le _)⟩
abbrev Nlaw : List Str := ["script", "numbers", "names", "actions", "k", "lines", "text", "e", "target", "due", "line", "actual", "action", "word"]
def rlaw : DS :=
  (dSeq (dSet 1 (dCall 2 ph__law_numbers (dCons (dVar 0) (dCons (dC (.int 40)) dNil))))
  (dSeq (dSet 2 (dCall 2 ph__law_names (dCons (dBin gIx (dVarB 1) (dC (.int 0))) (dCons (dC (.int 12)) dNil))))
  (dSeq (dSet 3 (dLst dNil))
  (dSeq (dFor (diRng (dConsW (dBin gMod (dBlt gInt (dConsW (dBin gIx (dVarB 1) (dC (.int 1))) dNil)) (dC (.int 9))) dNil)) (dgName 4) (dSeq (dSet 8 (dC .non))
  (dSeq (dIfS (dTst (dBin gGt (dBin gMod (dBlt gInt (dConsW (dBin gIx (dVarB 1) (dBin gAdd (dC (.int 2)) (dBin gMul (dC (.int 3)) (dVarB 4)))) dNil)) (dC (.int 3))) (dC (.int 0)))) (dSet 8 (dBin gIx (dVarB 2) (dBin gMod (dBin gDiv (dBin gIx (dVarB 1) (dBin gAdd (dC (.int 2)) (dBin gMul (dC (.int 3)) (dVarB 4)))) (dC (.int 3))) (dC (.int 12))))) dNext)
  (dApp 3 (dTup (dCons (dBin gIx (dVarB 2) (dBin gMod (dBlt gInt (dConsW (dBin gIx (dVarB 1) (dBin gAdd (dC (.int 3)) (dBin gMul (dC (.int 3)) (dVarB 4)))) dNil)) (dC (.int 12)))) (dCons (dBin gIx (dVarB 2) (dBin gMod (dBlt gInt (dConsW (dBin gIx (dVarB 1) (dBin gAdd (dC (.int 4)) (dBin gMul (dC (.int 3)) (dVarB 4)))) dNil)) (dC (.int 12)))) (dCons (dVar 8) dNil))))))))
  (dSeq (dSet 5 (dLc (diVal (dVarB 3)) 12 dYes (dJoin (dC (.str " ")) (dLc (diVal (dVarB 12)) 13 (dTst (dBin gNotN (dVarB 13) (dC .non))) (dVar 13)))))
  (dSeq (dIfS (dTst (dBin gNe (dCall 1 ph_plan_text (dCons (dBlt gList (dConsW (dVarB 3) dNil)) dNil)) (dJoin (dC (.str "\n")) (dVarB 5)))) (dRet (dC (.bl false))) dNext)
  (dSeq (dIfS (dAnd (dTst (dBin gEq (dBin gMod (dBlt gInt (dConsW (dBin gIx (dVarB 1) (dC (.int 36))) dNil)) (dC (.int 2))) (dC (.int 0)))) (dTst (dBin gGt (dBlt gLen (dConsW (dVarB 5) dNil)) (dC (.int 0))))) (dSet 5 (dCall 3 ph__law_turned (dCons (dVar 1) (dCons (dC (.int 37)) (dCons (dVar 5) dNil))))) dNext)
  (dSeq (dIfS (dAnd (dTst (dBin gEq (dBin gMod (dBlt gInt (dConsW (dBin gIx (dVarB 1) (dC (.int 36))) dNil)) (dC (.int 4))) (dC (.int 0)))) (dTst (dBin gGt (dBlt gLen (dConsW (dVarB 5) dNil)) (dC (.int 0))))) (dSet 5 (dCall 3 ph__law_turned (dCons (dVar 1) (dCons (dC (.int 38)) (dCons (dVar 5) dNil))))) dNext)
  (dSeq (dSet 6 (dJoin (dC (.str "\n")) (dVarB 5)))
  (dSeq (dAsg (dCall 1 ph__law_due (dCons (dVar 6) dNil)) (dgTup 2 (dgCons (dgName 9) (dgCons (dgName 10) dgNil))))
  (dSeq (dTryAs em_InvalidNotation "InvalidNotation" 7 (dSet 11 (dCall 1 ph_parse_plan (dCons (dVar 6) dNil)))
  (fun a dd => (dRet (dAndV (dBin gIsN (dVarB 9) (dC .non)) (dBin gEq (dXf a dd 7 "line") (dVarB 10))))))
  (dRet (dAndV (dBin gNotN (dVarB 9) (dC .non)) (dAndV (dIsi "list" (dVarB 11)) (dBin gEq (dBlt gRepr (dConsW (dVarB 11) dNil)) (dBlt gRepr (dConsW (dVarB 9) dNil)))))))))))))))))
/- theorem Mlaw : MD rlaw 1 14 phlaw := fun ds Qd Xd h hl => by -/
def ph_law : Ph := fun ds Qd _ => ∃ (d : D) (cs : List Int), ds = [d] ∧ (d = .scr cs ∨ d = .lst (cs.map .int)) ∧ (∀ c ∈ cs, c.natAbs.log2 < 4000000) ∧ cs.length ≤ 63 ∧ Qd (.bl true)
theorem Mlaw : MD rlaw 1 14 ph_law := fun ds Qd Xd h hl => by
  obtain ⟨d, cs, rfl, hd, hc, hz, q⟩ := h
  unfold rlaw
  walk_at "st"
  refine ⟨d, cs, 40, rfl, hd, hc, hz, by omega, fun ns hn h9 => ?_⟩
  have r9 := fun j => nu_in9 h9 j
  walk_at "st"
  refine oK.mk (atn (j := 0) rfl (by omega)) ?_
  walk_at "st"
  refine ⟨_, 12, rfl, r9 0, by omega, fun nm ln lm => ?_⟩
  unfold dL
  have z9 := m0 (nu ns 1) (show (0 : Int) < 9 by decide)
  walk_at "st"
  refine oK.mk (atn (j := 1) rfl (by omega)) ?_
  walk_at "st"
  refine ⟨by decide, by omega, by omega, ?_⟩
  have c8 : (nu ns 1 % 9).toNat ≤ 8 := by omega
  generalize (nu ns 1 % 9).toNat = c at c8
  refine forK.rng (fun k ρ => ∃ (as : List Act) (s4 s8 : Sl), ρ = [.va d, .va (.lst (ns.map .int)), .va (.lst (nm.map .str)), .ow (as.map dAc), s4, .no, .no, .no, s8, .no, .no, .no, .no, .no] ∧ as.length = k ∧ ∀ z ∈ as, Sh z) ⟨[], _, _, rfl, rfl, fun z hz => by cases hz⟩ ?_ ?_
  · rintro k ρ' lt ⟨as, s4, s8, rfl, la, hs⟩
    have mb : CMulB 3 (k : Int) := by
      have h1 := log2_small (i := (k : Int)) (b := 4) (by omega) (by show _ < (2 : Int) ^ 4; omega)
      show (3 : Nat).log2 + _ < _
      have : (3 : Nat).log2 = 1 := by decide
      omega
    walk_at "st"
    refine ifJ (decide (0 < nu ns (2 + 3 * k) % 3)) (fun ρ => ∃ o : Option Str, ρ = [.va d, .va (.lst (ns.map .int)), .va (.lst (nm.map .str)), .ow (as.map dAc), .va (.int k), .no, .no, .no, .va (dOS o), .no, .no, .no, .no, .no] ∧ ∀ c, o = some c → c.length ≤ 12) (fun R r => ?_) (fun K J b => ?_) (fun K J b => ?_) ?_
    · walk_at "ev"
      refine ⟨mb, oK.mk (atn (j := 2 + 3 * k) (by omega) (by omega)) ?_⟩
      walk_at "ev"
      exact ⟨by decide, r⟩
    · walk_at "ev"
      have z12 := m0 (nu ns (2 + 3 * k) / 3) (show (0 : Int) < 12 by decide)
      refine ⟨mb, oK.mk (atn (j := 2 + 3 * k) (by omega) (by omega)) ?_⟩
      walk_at "ev"
      have lt12 : (nu ns (2 + 3 * k) / 3 % 12).toNat < nm.length := by omega
      refine ⟨⟨by decide, by decide⟩, by decide, oK.mk (st_ix (j := (nu ns (2 + 3 * k) / 3 % 12).toNat) (by omega) lt12) ?_⟩
      have hm := lm _ (List.mem_of_getElem? (getD_at lt12))
      walk_at "ev"
      exact J _ ⟨some _, rfl, fun c hc => by cases hc; exact hm⟩
    · walk_at "ev"
      exact J _ ⟨none, rfl, fun c hc => by cases hc⟩
    rintro ρ' ⟨o, rfl, ho⟩
    have z3 := m0 (nu ns (3 + 3 * k)) (show (0 : Int) < 12 by decide)
    have z4 := m0 (nu ns (4 + 3 * k)) (show (0 : Int) < 12 by decide)
    have l3 : (nu ns (3 + 3 * k) % 12).toNat < nm.length := by omega
    have l4 : (nu ns (4 + 3 * k) % 12).toNat < nm.length := by omega
    walk_at "st"
    refine ⟨mb, oK.mk (atn (j := 3 + 3 * k) (by omega) (by omega)) ?_⟩
    walk_at "st"
    refine ⟨by decide, oK.mk (st_ix (j := (nu ns (3 + 3 * k) % 12).toNat) (by omega) l3) ?_⟩
    have h3 := lm _ (List.mem_of_getElem? (getD_at l3))
    walk_at "st"
    refine ⟨mb, oK.mk (atn (j := 4 + 3 * k) (by omega) (by omega)) ?_⟩
    walk_at "st"
    refine ⟨by decide, oK.mk (st_ix (j := (nu ns (4 + 3 * k) % 12).toNat) (by omega) l4) ?_⟩
    have h4 := lm _ (List.mem_of_getElem? (getD_at l4))
    generalize nm.getD (nu ns (3 + 3 * k) % 12).toNat ⟨#[]⟩ = a at h3
    generalize nm.getD (nu ns (4 + 3 * k) % 12).toNat ⟨#[]⟩ = b at h4
    walk_at "st"
    refine ⟨by decide, by unfold sizeLine; omega, as ++ [(a, b, o)], .va (.int k), .va (dOS o), by rw [List.map_append]; rfl, by rw [List.length_append, la]; rfl, fun z hz => ?_⟩
    rcases List.mem_append.mp hz with h | h
    · exact hs z h
    · rw [List.mem_singleton.mp h]
      exact ⟨h3, h4, ho⟩
  rintro ρ' ⟨as, s4, s8, rfl, la, hs⟩
  walk_at "st"
  refine lcK.all dAc_inj (fun z => .str (acLine z)) (by unfold sizeLine; omega) (fun z hz' => ?_) ?_
  · obtain ⟨a, b, e⟩ := z
    have hz1 := hs _ hz'
    simp (dsimp := false) only [dAc_mk]
    walk_at "ev"
    refine lcK.map (f := dOS) (xs := [some a, some b, e]) dOS_inj Option.isSome dOS (by show 3 ≤ sizeLine; decide) (fun x hx o ho => ?_) ?_
    · cases x with
      | none =>
        simp (dsimp := false) only [dOS_n]
        walk_at "ev"
        exact ho
      | some y =>
        simp (dsimp := false) only [dOS_s]
        walk_at "ev"
        exact ⟨rfl, ho⟩
    · rw [words_of]
      walk_at "ev"
      refine ysK.mk _ ⟨acWords_len hz1, ?_⟩
      walk_at "ev"
      exact ⟨rfl, rfl⟩
  have eL : as.map (fun z => D.str (acLine z)) = (as.map acLine).map D.str := by rw [List.map_map]; rfl
  rw [eL]
  have hb : ∀ y ∈ as.map acLine, y.length ≤ 38 := fun y hy => by
    obtain ⟨z, hz, rfl⟩ := List.mem_map.mp hy
    exact acLine_len (hs z hz)
  have ht := tot_le hb
  have ll : (as.map acLine).length ≤ 8 := by rw [List.length_map]; omega
  walk_at "ev"
  refine ⟨as, rfl, by omega, hs, ysK.mk _ ⟨?_, ?_⟩⟩
  · show tot _ + _ * 1 ≤ _
    omega
  walk_at "st"
  have hT : tot (as.map acLine) ≤ 304 := by omega
  generalize as.map acLine = us at hb hT ll
  clear ht eL
  refine ifJ (decide (nu ns 36 % 2 = 0 ∧ 0 < us.length)) (fun ρ => ∃ (us : List Str) (s5 : Sl), ρ = [.va d, .va (.lst (ns.map .int)), .va (.lst (nm.map .str)), .ow (as.map dAc), s4, s5, .no, .no, s8, .no, .no, .no, .no, .no] ∧ (s5 = .ow (us.map .str) ∨ s5 = .va (.lst (us.map .str))) ∧ us.length ≤ 8 ∧ (∀ y ∈ us, y.length ≤ 134) ∧ tot us ≤ 438) (fun R r => ?_) (fun K J b => ?_) (fun K J b => ?_) ?_
  · walk_at "ev"
    refine oK.mk (atn (j := 36) rfl (by omega)) ?_
    walk_at "ev"
    refine ⟨by decide, ?_⟩
    refine iK_d (fun c1 => ?_) fun c1 => ?_
    · walk_at "ev"
      rw [show decide (0 < (us.length : Int)) = decide (nu ns 36 % 2 = 0 ∧ 0 < us.length) from decide_eq_decide.mpr ⟨fun z => ⟨c1, by omega⟩, fun z => by omega⟩]
      exact r
    · rw [decide_eq_false (fun z => c1 z.1)] at r
      exact r
  · have b := of_decide_eq_true b
    have une : us ≠ [] := fun z => by rw [z] at b; exact absurd b.2 (Nat.lt_irrefl 0)
    walk_at "ev"
    refine ⟨ns, 37, us, 38, 304, rfl, h9, by omega, une, by omega, hb, hT, by omega, fun vs lv hv tv => ?_⟩
    unfold dL
    walk_at "ev"
    exact J _ ⟨vs, _, rfl, .inr rfl, by omega, hv, tv⟩
  · walk_at "ev"
    exact J _ ⟨us, _, rfl, .inl rfl, ll, fun y hy => by have := hb y hy; omega, by omega⟩
  clear hb hT ll
  clear us
  rintro ρ' ⟨us, s5, rfl, h5, ll, hb, hT⟩
  have cond : decide (0 < (us.length : Int)) = decide (0 < us.length) := decide_eq_decide.mpr ⟨fun z => by omega, fun z => by omega⟩
  walk_at "st"
  refine ifJ (decide (nu ns 36 % 4 = 0 ∧ 0 < us.length)) (fun ρ => ∃ (us : List Str) (s5 : Sl), ρ = [.va d, .va (.lst (ns.map .int)), .va (.lst (nm.map .str)), .ow (as.map dAc), s4, s5, .no, .no, s8, .no, .no, .no, .no, .no] ∧ (s5 = .ow (us.map .str) ∨ s5 = .va (.lst (us.map .str))) ∧ us.length ≤ 8 ∧ tot us ≤ 860) (fun R r => ?_) (fun K J b => ?_) (fun K J b => ?_) ?_
  · rcases h5 with rfl | rfl <;> (
      walk_at "ev"
      refine oK.mk (atn (j := 36) rfl (by omega)) ?_
      walk_at "ev"
      refine ⟨by decide, ?_⟩
      refine iK_d (fun c1 => ?_) fun c1 => ?_
      · walk_at "ev"
        rw [show decide (0 < (us.length : Int)) = decide (nu ns 36 % 4 = 0 ∧ 0 < us.length) from decide_eq_decide.mpr ⟨fun z => ⟨c1, by omega⟩, fun z => by omega⟩]
        exact r
      · rw [decide_eq_false (fun z => c1 z.1)] at r
        exact r)
  · have b := of_decide_eq_true b
    have une : us ≠ [] := fun z => by rw [z] at b; exact absurd b.2 (Nat.lt_irrefl 0)
    rcases h5 with rfl | rfl <;> (
      walk_at "ev"
      refine ⟨ns, 38, us, 134, 438, rfl, h9, by omega, une, by omega, hb, hT, by omega, fun vs lv hv tv => ?_⟩
      unfold dL
      walk_at "ev"
      exact J _ ⟨vs, _, rfl, .inr rfl, by omega, tv⟩)
  · rcases h5 with rfl | rfl
    · walk_at "ev"
      exact J _ ⟨us, _, rfl, .inl rfl, ll, by omega⟩
    · walk_at "ev"
      exact J _ ⟨us, _, rfl, .inr rfl, ll, by omega⟩
  clear cond hb hT ll h5
  clear us s5
  rintro ρ' ⟨us, s5, rfl, h5, ll, hT⟩
  have lj := join_len "\n" us
  have lj : (Txt.join "\n" us).length ≤ 900 := by
    have e : ("\n" : Str).length = 1 := by decide +kernel
    rw [e] at lj
    have : (Txt.join "\n" us).length ≤ tot us + us.length * 1 := lj
    omega
  have jb : (us.map (·.length)).sum + us.length * ("\n" : Str).length ≤ 16777216 := by
    show tot us + us.length * 1 ≤ _
    omega
  have tail : ∀ x : Str, x.length ≤ 900 → ∀ s5, dSeq (dAsg (dCall 1 ph__law_due (dCons (dVar 6) dNil)) (dgTup 2 (dgCons (dgName 9) (dgCons (dgName 10) dgNil))))
      (dSeq (dTryAs em_InvalidNotation "InvalidNotation" 7 (dSet 11 (dCall 1 ph_parse_plan (dCons (dVar 6) dNil)))
      (fun a dd => (dRet (dAndV (dBin gIsN (dVarB 9) (dC .non)) (dBin gEq (dXf a dd 7 "line") (dVarB 10))))))
      (dRet (dAndV (dBin gNotN (dVarB 9) (dC .non)) (dAndV (dIsi "list" (dVarB 11)) (dBin gEq (dBlt gRepr (dConsW (dVarB 11) dNil)) (dBlt gRepr (dConsW (dVarB 9) dNil))))))) (fun x _ => Xd x) { nx := fun _ => Qd .non, rt := Qd, bk := fun _ => False, ct := fun _ => False }
      [.va d, .va (.lst (ns.map .int)), .va (.lst (nm.map .str)), .ow (as.map dAc), s4, s5, .va (.str x), .no, s8, .no, .no, .no, .no, .no] := by
    intro x lx s5
    walk_at "ev"
    refine ⟨x, rfl, lx, ?_⟩
    by_cases c : x = ("" : Str)
    · have e : dDue x = .tup [.lst [], .non] := by unfold dDue; rw [if_pos c]
      rw [e]
      walk_at "ev"
      refine ⟨x, rfl, lx, ?_⟩
      unfold Out
      rw [if_pos c]
      walk_at "ev"
      obtain ⟨f1, f2, f3, f4⟩ := nil_fits
      exact ⟨rfl, f1, f2, f3, f4, rfl, f1, f2, f3, f4, q⟩
    · cases e1 : (acts x).findIdx? Option.isNone with
      | some j =>
        have e : dDue x = .tup [.non, .int ((j : Int) + 1)] := by unfold dDue; rw [if_neg c, e1]
        rw [e]
        walk_at "ev"
        refine ⟨x, rfl, lx, ?_⟩
        unfold Out
        rw [if_neg c, e1]
        walk_at "ev"
        rw [em_i]
        walk_at "ev"
        intro a dd
        exact q
      | none =>
        obtain ⟨bs, eb⟩ := all_some e1
        have e : dDue x = .tup [.lst (bs.map dAc), .non] := due_good c eb
        rw [e]
        walk_at "ev"
        refine ⟨x, rfl, lx, ?_⟩
        unfold Out
        rw [if_neg c, e1, eb, dAo_some]
        obtain ⟨f1, f2, f3, f4⟩ := acts_fits lx eb
        generalize bs.map dAc = tt at f1 f2 f3 f4
        walk_at "ev"
        exact ⟨rfl, f1, f2, f3, f4, rfl, f1, f2, f3, f4, q⟩
  rcases h5 with rfl | rfl
  · walk_at "st"
    refine ysK.mk _ ⟨jb, ?_⟩
    exact And.intro (fun z => by cases z) (And.intro (by show 6 < 14; decide) (tail _ lj _))
  · walk_at "st"
    refine ysK.mk _ ⟨jb, ?_⟩
    exact And.intro (fun z => by cases z) (And.intro (by show 6 < 14; decide) (tail _ lj _))
end K8

-- part DY
set_option Elab.async false
set_option linter.all false
set_option maxRecDepth 100000
set_option maxHeartbeats 2000000
namespace K8
open PySem PySem.Spec PyProof.Rows L2 GxR GS GA GD DL
section
variable {w : World} {K : PySem.W.Frag} {mg : Str → Option Value} {base : Heap}
theorem scis_name : FnScope Nis_name ["text"] (defScope sis_name) := ⟨rfl, rfl, rfl, by decide +kernel, rfl, by decide +kernel, by decide +kernel⟩
theorem Dis_name (T : Tx w K mg base) : ∃ fd, FnOk R.prog w K mg base (L2.CX R.prog w) 2 (He.ga K "is_name") fd ["text"] (spD K (Tz K) 1 ph_is_name) ∧ Binds K fd ["text"] [] ∧ PySem.W.keepIn K (.ref (He.ga K "is_name")) = true := by
  obtain ⟨fd, F⟩ := T.F_is_name
  have TB := T.tb ("is_name", none) (by simp [tf])
  have tP := Tz_mk (K := K) ("is_name", none) (by simp [tf])
  have nd := scis_name.nd
  refine ⟨fd, fn_data (k := 1) F (codeOf_at (p := ("is_name", none)) F) scis_name rfl (fun A outer s H E hr => ⟨ris_name, ?_, Mis_name⟩), F.bindsN (ps := ["text"]) fun _ _ _ _ _ _ us hl => match us, hl with | [_], _ => rfl, F.kp⟩
  exact (ds_cons (ds_if (PW.pt (dw_or (dt_not (dt_chain dop_le dop_le de_int (de_callB dcl_len (by rfl) T.free_len PySem.boot_len (da_consW (vB 0) dw_nil)) de_int)) (dw_or1 (dt_cmp dop_ninS (de_ix (vB 0) de_int (fun _ _ => rfl)) (de_strG T.str_LETTERS rfl) (by rfl))))) (ds_one (ds_ret de_bl)) ds_nil)
      (ds_one (ds_ret (de_all (own := [("sign", 1)]) (te := (dBin gInS (dVarB 1) (dC (.str "abcdefghijklmnopqrstuvwxyz0123456789")))) hr rfl nd T.free_all TB tP rfl (blkOk_by (own := [("sign", 1)]) (N := Nis_name) (sc := defScope sis_name) (by decide +kernel)) rfl (di_val (vB 0)) (fun _ _ _ _ _ _ => pg_name (i := 1) nd rfl (by first | exact Or.inl rfl | exact Or.inr rfl)) (fun _ _ _ _ _ _ => (de_cmp dop_inS (vB 1) (de_strG T.str_SIGNS rfl) (by rfl)))))))
theorem scplan_lines : FnScope Nplan_lines ["actions"] (defScope splan_lines) := ⟨rfl, rfl, rfl, by decide +kernel, rfl, by decide +kernel, by decide +kernel⟩
theorem Dplan_lines (T : Tx w K mg base) : ∃ fd, FnOk R.prog w K mg base (L2.CX R.prog w) 1 (He.ga K "plan_lines") fd ["actions"] (spD K (Tz K) 1 ph_plan_lines) ∧ Binds K fd ["actions"] [] ∧ PySem.W.keepIn K (.ref (He.ga K "plan_lines")) = true := by
  obtain ⟨fd, F⟩ := T.F_plan_lines
  have nd := scplan_lines.nd
  refine ⟨fd, fn_data (k := 0) F (codeOf_at (p := ("plan_lines", none)) F) scplan_lines rfl (fun A outer s H E hr => ⟨rplan_lines, ?_, Mplan_lines⟩), F.bindsN (ps := ["actions"]) fun _ _ _ _ _ _ us hl => match us, hl with | [_], _ => rfl, F.kp⟩
  exact (ds_cons (ds_set (i := 1) nd rfl (by first | exact Or.inl rfl | exact Or.inr rfl) (de_lst da_nil))
      (ds_cons (ds_for (passes_of rfl) rfl (di_val (vV 0)) (dg_tup rfl (dgs_cons (dg_name (i := 2) nd rfl (by first | exact Or.inl rfl | exact Or.inr rfl)) (dgs_cons (dg_name (i := 3) nd rfl (by first | exact Or.inl rfl | exact Or.inr rfl)) (dgs_cons (dg_name (i := 4) nd rfl (by first | exact Or.inl rfl | exact Or.inr rfl)) dgs_nil)))) (ds_cons (ds_set (i := 5) nd rfl (by first | exact Or.inl rfl | exact Or.inr rfl) (de_if (dt_cmp dop_isN (vB 4) de_non (nomark _)) (de_lst (da_cons (vV 2) (da_cons (vV 3) da_nil))) (de_lst (da_cons (vV 2) (da_cons (vV 3) (da_cons (vV 4) da_nil))))))
      (ds_one (ds_append (i := 1) rfl (by first | exact Or.inl rfl | exact Or.inr (Or.inl rfl) | exact Or.inr (Or.inr rfl)) (de_join de_str (vB 5))))))
      (ds_one (ds_ret (vV 1)))))
theorem scplan_text : FnScope Nplan_text ["actions"] (defScope splan_text) := ⟨rfl, rfl, rfl, by decide +kernel, rfl, by decide +kernel, by decide +kernel⟩
theorem Dplan_text (T : Tx w K mg base) : ∃ fd, FnOk R.prog w K mg base (L2.CX R.prog w) 2 (He.ga K "plan_text") fd ["actions"] (spD K (Tz K) 1 ph_plan_text) ∧ Binds K fd ["actions"] [] ∧ PySem.W.keepIn K (.ref (He.ga K "plan_text")) = true := by
  obtain ⟨fd, F⟩ := T.F_plan_text
  obtain ⟨fd_plan_lines, G_plan_lines, b_plan_lines, k_plan_lines⟩ := Dplan_lines T
  have nd := scplan_text.nd
  refine ⟨fd, fn_data (k := 1) F (codeOf_at (p := ("plan_text", none)) F) scplan_text rfl (fun A outer s H E hr => ⟨rplan_text, ?_, Mplan_text⟩), F.bindsN (ps := ["actions"]) fun _ _ _ _ _ _ us hl => match us, hl with | [_], _ => rfl, F.kp⟩
  exact (ds_one (ds_ret (de_join de_str (de_call G_plan_lines (hr.mono (by decide)) rfl T.glo_plan_lines k_plan_lines b_plan_lines (Ps.of (takes_of rfl rfl rfl rfl)) (da_cons (vV 0) da_nil)))))
theorem scaction_of : FnScope Naction_of ["words"] (defScope saction_of) := ⟨rfl, rfl, rfl, by decide +kernel, rfl, by decide +kernel, by decide +kernel⟩
theorem Daction_of (T : Tx w K mg base) : ∃ fd, FnOk R.prog w K mg base (L2.CX R.prog w) 4 (He.ga K "action_of") fd ["words"] (spD K (Tz K) 1 ph_action_of) ∧ Binds K fd ["words"] [] ∧ PySem.W.keepIn K (.ref (He.ga K "action_of")) = true := by
  obtain ⟨fd, F⟩ := T.F_action_of
  obtain ⟨fd_is_name, G_is_name, b_is_name, k_is_name⟩ := Dis_name T
  have TB := T.tb ("action_of", none) (by simp [tf])
  have tP := Tz_mk (K := K) ("action_of", none) (by simp [tf])
  have nd := scaction_of.nd
  refine ⟨fd, fn_data (k := 3) F (codeOf_at (p := ("action_of", none)) F) scaction_of rfl (fun A outer s H E hr => ⟨raction_of, ?_, Maction_of⟩), F.bindsN (ps := ["words"]) fun _ _ _ _ _ _ us hl => match us, hl with | [_], _ => rfl, F.kp⟩
  exact (ds_cons (ds_if (PW.pt (dw_or (dt_cmp dop_nin (de_callB dcl_len (by rfl) T.free_len PySem.boot_len (da_consW (vB 0) dw_nil)) (de_tup (da_cons de_int (da_cons de_int da_nil))) (by rfl)) (dw_or1 (dt_not (dt_val (de_all (own := [("word", 1)]) (te := (dCall 1 ph_is_name (dCons (dVar 1) dNil))) hr rfl nd T.free_all TB tP rfl (blkOk_by (own := [("word", 1)]) (N := Naction_of) (sc := defScope saction_of) (by decide +kernel)) rfl (di_val (vB 0)) (fun _ _ _ _ _ _ => pg_name (i := 1) nd rfl (by first | exact Or.inl rfl | exact Or.inr rfl)) (fun _ _ _ _ _ _ => (de_call G_is_name ((room_gen hr).mono (by decide)) rfl T.glo_is_name k_is_name b_is_name Ps.no (da_cons (vV 1) da_nil))))))))) (ds_one (ds_ret de_non)) ds_nil)
      (ds_one (ds_ret (de_tup (da_cons (de_ix (vB 0) de_int (fun _ _ => rfl)) (da_cons (de_ix (vB 0) de_int (fun _ _ => rfl)) (da_cons (de_if (dt_cmp (dop_eq hr.units) (de_callB dcl_len (by rfl) T.free_len PySem.boot_len (da_consW (vB 0) dw_nil)) de_int (nomark _)) (de_ix (vB 0) de_int (fun _ _ => rfl)) de_non) da_nil)))))))
theorem scparse_plan : FnScope Nparse_plan ["text"] (defScope sparse_plan) := ⟨rfl, rfl, rfl, by decide +kernel, rfl, by decide +kernel, by decide +kernel⟩
theorem Dparse_plan (T : Tx w K mg base) : ∃ fd, FnOk R.prog w K mg base (L2.CX R.prog w) 5 (He.ga K "parse_plan") fd ["text"] (spD K (Tz K) 1 ph_parse_plan) ∧ Binds K fd ["text"] [] ∧ PySem.W.keepIn K (.ref (He.ga K "parse_plan")) = true := by
  obtain ⟨fd, F⟩ := T.F_parse_plan
  obtain ⟨fd_action_of, G_action_of, b_action_of, k_action_of⟩ := Daction_of T
  obtain ⟨fdx_InvalidNotation, FX_InvalidNotation, ox_InvalidNotation, iC_InvalidNotation, tI_InvalidNotation, bx_InvalidNotation⟩ := X_InvalidNotation T
  have nd := scparse_plan.nd
  refine ⟨fd, fn_data (k := 4) F (codeOf_at (p := ("parse_plan", none)) F) scparse_plan rfl (fun A outer s H E hr => ⟨rparse_plan, ?_, Mparse_plan⟩), F.bindsN (ps := ["text"]) fun _ _ _ _ _ _ us hl => match us, hl with | [_], _ => rfl, F.kp⟩
  exact (ds_cons (ds_if (dt_cmp (dop_eq hr.units) (vB 0) de_str (nomark _)) (ds_one (ds_ret (de_lst da_nil))) ds_nil)
      (ds_cons (ds_setLc (j := 1) (own := [("line", 2)]) (tt := dYes) (te := (dCall 1 ph_action_of (dCons (dSplit (dVarB 2) (dC (.str " "))) dNil))) rfl nd rfl rfl (sw_true rfl rfl rfl (by decide +kernel)) (di_val (de_split (vB 0) de_str)) (blkOk_by (own := [("line", 2)]) (N := Nparse_plan) (sc := defScope sparse_plan) (by decide +kernel)) rfl (fun _ _ _ _ _ => pg_name (i := 2) nd rfl (by first | exact Or.inl rfl | exact Or.inr rfl)) (fun _ _ _ _ _ => dts_nil) (fun _ _ _ _ _ => (de_call G_action_of (hr.mono (by decide)) rfl T.glo_action_of k_action_of b_action_of Ps.no (da_cons (de_split (vB 2) de_str) da_nil))))
      (ds_cons (ds_if (dt_cmp (dop_inD (units65 hr)) de_non (vB 1) (by rfl)) (ds_one (ds_raise1 (C := "InvalidNotation") (f := "line") rfl (takes_of rfl rfl rfl rfl) ox_InvalidNotation iC_InvalidNotation tI_InvalidNotation FX_InvalidNotation (fun d v H A a hd r => fmt_ok (by decide +kernel) hd r a) (hr.mono (by decide)) bx_InvalidNotation rfl T.glo_InvalidNotation (de_bin dop_add (de_idx (units65 hr) (vB 1) de_non) de_int))) ds_nil)
      (ds_one (ds_ret (vV 1))))))
end
end K8

-- part DX
set_option Elab.async false
set_option linter.all false
set_option maxRecDepth 100000
set_option maxHeartbeats 2000000
namespace K8
open PySem PySem.Spec PyProof.Rows L2 GxR GS GA GD DL
section
variable {w : World} {K : PySem.W.Frag} {mg : Str → Option Value} {base : Heap}
theorem sc_law_row : FnScope N_law_row ["cell", "many"] (defScope s_law_row) := ⟨rfl, rfl, rfl, by decide +kernel, rfl, by decide +kernel, by decide +kernel⟩
theorem D_law_row (T : Tx w K mg base) : ∃ fd, FnOk R.prog w K mg base (L2.CX R.prog w) 1 (He.ga K "_law_row") fd ["cell", "many"] (spD K (Tz K) 2 ph__law_row) ∧ Binds K fd ["cell", "many"] [] ∧ PySem.W.keepIn K (.ref (He.ga K "_law_row")) = true := by
  obtain ⟨fd, F⟩ := T.F__law_row
  have nd := sc_law_row.nd
  refine ⟨fd, fn_data (k := 0) F (codeOf_at (p := ("_law_row", none)) F) sc_law_row rfl (fun A outer s H E hr => ⟨r_law_row, ?_, M_law_row⟩), F.bindsN (ps := ["cell", "many"]) fun _ _ _ _ _ _ us hl => match us, hl with | [_, _], _ => rfl, F.kp⟩
  exact (ds_cons (ds_set (i := 2) nd rfl (by first | exact Or.inl rfl | exact Or.inr rfl) (de_lst da_nil))
      (ds_cons (ds_set (i := 3) nd rfl (by first | exact Or.inl rfl | exact Or.inr rfl) (de_callB dcl_abs (by rfl) T.free_abs (by decide +kernel) (da_consW (vB 0) dw_nil)))
      (ds_cons (ds_set (i := 4) nd rfl (by first | exact Or.inl rfl | exact Or.inr rfl) (de_bin dop_mod (de_callTy dcl_int (by rfl) T.free_int (by decide +kernel) (da_consW (de_bin dop_add (de_bin dop_mul (vB 3) de_int) de_int) dw_nil)) de_int))
      (ds_cons (ds_for (passes_of rfl) rfl (di_rng rfl T.free_range (da_consW (vB 1) dw_nil)) (dg_name (i := 5) nd rfl (by first | exact Or.inl rfl | exact Or.inr rfl)) (ds_cons (ds_set (i := 4) nd rfl (by first | exact Or.inl rfl | exact Or.inr rfl) (de_bin dop_mod (de_callTy dcl_int (by rfl) T.free_int (by decide +kernel) (da_consW (de_bin dop_add (de_bin dop_mul (vB 4) de_int) (de_bin dop_mul de_int (de_bin dop_add (vB 5) de_int))) dw_nil)) de_int))
      (ds_one (ds_if (dt_cmp dop_ge (de_callB dcl_abs (by rfl) T.free_abs (by decide +kernel) (da_consW (vB 0) dw_nil)) (de_bin dop_pow de_int de_int) (nomark _)) (ds_cons (ds_append (i := 2) rfl (by first | exact Or.inl rfl | exact Or.inr (Or.inl rfl) | exact Or.inr (Or.inr rfl)) (de_bin dop_mod (de_callTy dcl_int (by rfl) T.free_int (by decide +kernel) (da_consW (vB 3) dw_nil)) de_int))
      (ds_one (ds_set (i := 3) nd rfl (by first | exact Or.inl rfl | exact Or.inr rfl) (de_bin dop_div (vB 3) de_int)))) (ds_one (ds_append (i := 2) rfl (by first | exact Or.inl rfl | exact Or.inr (Or.inl rfl) | exact Or.inr (Or.inr rfl)) (de_bin dop_mod (de_callTy dcl_int (by rfl) T.free_int (by decide +kernel) (da_consW (de_bin dop_div (vB 4) de_int) dw_nil)) de_int)))))))
      (ds_one (ds_ret (vV 2)))))))
theorem sc_law_numbers : FnScope N_law_numbers ["script", "many"] (defScope s_law_numbers) := ⟨rfl, rfl, rfl, by decide +kernel, rfl, by decide +kernel, by decide +kernel⟩
theorem D_law_numbers (T : Tx w K mg base) : ∃ fd, FnOk R.prog w K mg base (L2.CX R.prog w) 2 (He.ga K "_law_numbers") fd ["script", "many"] (spD K (Tz K) 2 ph__law_numbers) ∧ Binds K fd ["script", "many"] [] ∧ PySem.W.keepIn K (.ref (He.ga K "_law_numbers")) = true := by
  obtain ⟨fd, F⟩ := T.F__law_numbers
  obtain ⟨fd__law_row, G__law_row, b__law_row, k__law_row⟩ := D_law_row T
  have nd := sc_law_numbers.nd
  refine ⟨fd, fn_data (k := 1) F (codeOf_at (p := ("_law_numbers", none)) F) sc_law_numbers rfl (fun A outer s H E hr => ⟨r_law_numbers, ?_, M_law_numbers⟩), F.bindsN (ps := ["script", "many"]) fun _ _ _ _ _ _ us hl => match us, hl with | [_, _], _ => rfl, F.kp⟩
  exact (ds_cons (ds_set (i := 2) nd rfl (by first | exact Or.inl rfl | exact Or.inr rfl) (de_slice (vB 0) do_none (do_some de_int)))
      (ds_cons (ds_set (i := 3) nd rfl (by first | exact Or.inl rfl | exact Or.inr rfl) (de_bin dop_add de_int (de_bin dop_div (vB 1) (de_callB (dcl_max rfl) (by rfl) T.free_max (by decide +kernel) (da_consW de_int (da_consW (de_callB dcl_len (by rfl) T.free_len PySem.boot_len (da_consW (vB 2) dw_nil)) dw_nil))))))
      (ds_cons (ds_set (i := 4) nd rfl (by first | exact Or.inl rfl | exact Or.inr rfl) (de_lst da_nil))
      (ds_cons (ds_for (passes_of rfl) rfl (di_val (vV 2)) (dg_name (i := 5) nd rfl (by first | exact Or.inl rfl | exact Or.inr rfl)) (ds_one (ds_for (passes_of rfl) rfl (di_val (de_call G__law_row (hr.mono (by decide)) rfl T.glo__law_row k__law_row b__law_row (Ps.of (takes_of rfl rfl rfl rfl)) (da_cons (vV 5) (da_cons (vV 3) da_nil)))) (dg_name (i := 6) nd rfl (by first | exact Or.inl rfl | exact Or.inr rfl)) (ds_one (ds_append (i := 4) rfl (by first | exact Or.inl rfl | exact Or.inr (Or.inl rfl) | exact Or.inr (Or.inr rfl)) (vV 6))))))
      (ds_cons (ds_while (passes_of rfl) (dt_cmp dop_lt (de_callB dcl_len (by rfl) T.free_len PySem.boot_len (da_consW (vB 4) dw_nil)) (vB 1) (nomark _)) (ds_one (ds_append (i := 4) rfl (by first | exact Or.inl rfl | exact Or.inr (Or.inl rfl) | exact Or.inr (Or.inr rfl)) de_int)))
      (ds_one (ds_ret (de_slice (vB 4) do_none (do_some (vB 1))))))))))
theorem sc_law_names : FnScope N_law_names ["number", "many"] (defScope s_law_names) := ⟨rfl, rfl, rfl, by decide +kernel, rfl, by decide +kernel, by decide +kernel⟩
theorem D_law_names (T : Tx w K mg base) : ∃ fd, FnOk R.prog w K mg base (L2.CX R.prog w) 1 (He.ga K "_law_names") fd ["number", "many"] (spD K (Tz K) 2 ph__law_names) ∧ Binds K fd ["number", "many"] [] ∧ PySem.W.keepIn K (.ref (He.ga K "_law_names")) = true := by
  obtain ⟨fd, F⟩ := T.F__law_names
  have nd := sc_law_names.nd
  refine ⟨fd, fn_data (k := 0) F (codeOf_at (p := ("_law_names", none)) F) sc_law_names rfl (fun A outer s H E hr => ⟨r_law_names, ?_, M_law_names⟩), F.bindsN (ps := ["number", "many"]) fun _ _ _ _ _ _ us hl => match us, hl with | [_, _], _ => rfl, F.kp⟩
  exact (ds_cons (ds_set (i := 2) nd rfl (by first | exact Or.inl rfl | exact Or.inr rfl) de_str)
      (ds_cons (ds_set (i := 3) nd rfl (by first | exact Or.inl rfl | exact Or.inr rfl) (de_bin dop_mod (de_callTy dcl_int (by rfl) T.free_int (by decide +kernel) (da_consW (vB 0) dw_nil)) de_int))
      (ds_cons (ds_set (i := 4) nd rfl (by first | exact Or.inl rfl | exact Or.inr rfl) (de_join de_str (de_lc (own := [("k", 7)]) (tt := dYes) (te := (dBin gIx (dVarB 2) (dBin gMod (dBlt gInt (dConsW (dBin gAdd (dVarB 0) (dBin gMul (dBin gMul (dC (.int 7)) (dVarB 7)) (dVarB 7))) dNil)) (dC (.int 36))))) rfl nd (di_rng rfl T.free_range (da_consW (vB 3) dw_nil)) (blkOk_by (own := [("k", 7)]) (N := N_law_names) (sc := defScope s_law_names) (by decide +kernel)) rfl (fun _ _ _ _ _ => pg_name (i := 7) nd rfl (by first | exact Or.inl rfl | exact Or.inr rfl)) (fun _ _ _ _ _ => dts_nil) (fun _ _ _ _ _ => (de_ix (vB 2) (de_bin dop_mod (de_callTy dcl_int (by rfl) T.free_int (by decide +kernel) (da_consW (de_bin dop_add (vB 0) (de_bin dop_mul (de_bin dop_mul de_int (vB 7)) (vB 7))) dw_nil)) de_int) (fun _ _ => rfl))))))
      (ds_cons (ds_set (i := 5) nd rfl (by first | exact Or.inl rfl | exact Or.inr rfl) (de_bin dop_mod (de_bin dop_div (vB 0) de_int) (de_bin dop_add (vB 3) de_int)))
      (ds_cons (ds_set (i := 6) nd rfl (by first | exact Or.inl rfl | exact Or.inr rfl) (de_lst da_nil))
      (ds_cons (ds_for (passes_of rfl) rfl (di_rng rfl T.free_range (da_consW (vB 1) dw_nil)) (dg_name (i := 7) nd rfl (by first | exact Or.inl rfl | exact Or.inr rfl)) (ds_cons (ds_set (i := 8) nd rfl (by first | exact Or.inl rfl | exact Or.inr rfl) (vV 4))
      (ds_cons (ds_if (dt_cmp (dop_eq hr.units) (de_bin dop_mod (de_callTy dcl_int (by rfl) T.free_int (by decide +kernel) (da_consW (de_bin dop_add (de_bin dop_div (vB 0) de_int) (vB 7)) dw_nil)) de_int) de_int (nomark _)) (ds_one (ds_set (i := 8) nd rfl (by first | exact Or.inl rfl | exact Or.inr rfl) (de_slice (vB 4) (do_some de_int) do_none))) ds_nil)
      (ds_cons (ds_set (i := 9) nd rfl (by first | exact Or.inl rfl | exact Or.inr rfl) (de_callB (dcl_min rfl) (by rfl) T.free_min (by decide +kernel) (da_consW (vB 5) (da_consW (de_callB dcl_len (by rfl) T.free_len PySem.boot_len (da_consW (vB 8) dw_nil)) dw_nil))))
      (ds_cons (ds_set (i := 10) nd rfl (by first | exact Or.inl rfl | exact Or.inr rfl) de_int)
      (ds_cons (ds_if (dt_cmp (dop_eq hr.units) (de_bin dop_mod (de_bin dop_div (vB 0) de_int) de_int) de_int (nomark _)) (ds_one (ds_set (i := 10) nd rfl (by first | exact Or.inl rfl | exact Or.inr rfl) de_int)) ds_nil)
      (ds_one (ds_append (i := 6) rfl (by first | exact Or.inl rfl | exact Or.inr (Or.inl rfl) | exact Or.inr (Or.inr rfl)) (de_bin dop_add (de_bin dop_add (de_bin dop_add (de_ix (vB 2) (de_bin dop_mod (de_callTy dcl_int (by rfl) T.free_int (by decide +kernel) (da_consW (de_bin dop_add (vB 0) (de_bin dop_mul de_int (vB 7))) dw_nil)) de_int) (fun _ _ => rfl)) (de_slice (vB 8) do_none (do_some (vB 9)))) (de_ix (vB 2) (de_bin dop_mod (de_callTy dcl_int (by rfl) T.free_int (by decide +kernel) (da_consW (de_bin dop_add (vB 0) (de_bin dop_mul (vB 10) (vB 7))) dw_nil)) de_int) (fun _ _ => rfl))) (de_slice (vB 8) (do_some (vB 9)) do_none))))))))))
      (ds_one (ds_ret (vV 6)))))))))
theorem sc_law_turned : FnScope N_law_turned ["numbers", "at", "lines"] (defScope s_law_turned) := ⟨rfl, rfl, rfl, by decide +kernel, rfl, by decide +kernel, by decide +kernel⟩
theorem D_law_turned (T : Tx w K mg base) : ∃ fd, FnOk R.prog w K mg base (L2.CX R.prog w) 1 (He.ga K "_law_turned") fd ["numbers", "at", "lines"] (spD K (Tz K) 3 ph__law_turned) ∧ Binds K fd ["numbers", "at", "lines"] [] ∧ PySem.W.keepIn K (.ref (He.ga K "_law_turned")) = true := by
  obtain ⟨fd, F⟩ := T.F__law_turned
  have nd := sc_law_turned.nd
  refine ⟨fd, fn_data (k := 0) F (codeOf_at (p := ("_law_turned", none)) F) sc_law_turned rfl (fun A outer s H E hr => ⟨r_law_turned, ?_, M_law_turned⟩), F.bindsN (ps := ["numbers", "at", "lines"]) fun _ _ _ _ _ _ us hl => match us, hl with | [_, _, _], _ => rfl, F.kp⟩
  exact (ds_cons (ds_set (i := 3) nd rfl (by first | exact Or.inl rfl | exact Or.inr rfl) (de_bin dop_mod (de_callTy dcl_int (by rfl) T.free_int (by decide +kernel) (da_consW (de_ix (vB 0) (vB 1) (fun _ _ => rfl)) dw_nil)) (de_callB dcl_len (by rfl) T.free_len PySem.boot_len (da_consW (vB 2) dw_nil))))
      (ds_cons (ds_set (i := 4) nd rfl (by first | exact Or.inl rfl | exact Or.inr rfl) (de_ix (vB 2) (vB 3) (fun _ _ => rfl)))
      (ds_cons (ds_set (i := 5) nd rfl (by first | exact Or.inl rfl | exact Or.inr rfl) (de_tup (da_binR dop_add (vB 4) (dat_cons (CwR.PET.of (de_bin dop_add (vB 4) de_str)) (dat_cons (CwR.PET.of (de_bin dop_add de_str (vB 4))) (dat_cons (det_repl (vB 4)) (dat_cons (CwR.PET.of (de_ix (de_split (vB 4) de_str) de_int (fun _ _ => rfl))) (dat_cons (CwR.PET.of de_str) (dat_cons (CwR.PET.of (de_bin dop_add (vB 4) de_str)) (dat_cons (CwR.PET.of (de_bin dop_add (vB 4) de_str)) dat_nil))))))))))
      (ds_cons (ds_set (i := 5) nd rfl (by first | exact Or.inl rfl | exact Or.inr rfl) (de_bin dop_add (vB 5) (de_tup (da_binL dop_add (vB 4) (dat_cons (CwR.PET.of (de_bin dop_add (vB 4) de_str)) (dat_cons (CwR.PET.of (de_bin dop_add (vB 4) de_str)) (dat_cons (det_repl (vB 4)) (dat_cons (CwR.PET.of (de_bin dop_add (vB 4) de_str)) dat_nil))))))))
      (ds_one (ds_ret (de_bin dop_add (de_bin dop_add (de_slice (vB 2) do_none (do_some (vB 3))) (de_lst (da_cons (de_ix (vB 5) (de_bin dop_mod (de_bin dop_div (de_ix (vB 0) (vB 1) (fun _ _ => rfl)) de_int) de_int) (fun _ _ => rfl)) da_nil))) (de_slice (vB 2) (do_some (de_bin dop_add (vB 3) de_int)) do_none))))))))
theorem sc_law_is_name : FnScope N_law_is_name ["word"] (defScope s_law_is_name) := ⟨rfl, rfl, rfl, by decide +kernel, rfl, by decide +kernel, by decide +kernel⟩
theorem D_law_is_name (T : Tx w K mg base) : ∃ fd, FnOk R.prog w K mg base (L2.CX R.prog w) 1 (He.ga K "_law_is_name") fd ["word"] (spD K (Tz K) 1 ph__law_is_name) ∧ Binds K fd ["word"] [] ∧ PySem.W.keepIn K (.ref (He.ga K "_law_is_name")) = true := by
  obtain ⟨fd, F⟩ := T.F__law_is_name
  have nd := sc_law_is_name.nd
  refine ⟨fd, fn_data (k := 0) F (codeOf_at (p := ("_law_is_name", none)) F) sc_law_is_name rfl (fun A outer s H E hr => ⟨r_law_is_name, ?_, M_law_is_name⟩), F.bindsN (ps := ["word"]) fun _ _ _ _ _ _ us hl => match us, hl with | [_], _ => rfl, F.kp⟩
  exact (ds_cons (ds_if (PW.pt (dw_or (dt_cmp dop_lt (de_callB dcl_len (by rfl) T.free_len PySem.boot_len (da_consW (vB 0) dw_nil)) de_int (nomark _)) (dw_or (dt_cmp dop_gt (de_callB dcl_len (by rfl) T.free_len PySem.boot_len (da_consW (vB 0) dw_nil)) de_int (nomark _)) (dw_or1 (dt_cmp dop_ninS (de_ix (vB 0) de_int (fun _ _ => rfl)) de_str (by rfl)))))) (ds_one (ds_ret de_bl)) ds_nil)
      (ds_cons (ds_for (passes_of rfl) rfl (di_val (vV 0)) (dg_name (i := 1) nd rfl (by first | exact Or.inl rfl | exact Or.inr rfl)) (ds_one (ds_if (dt_cmp dop_ninS (vB 1) de_str (by rfl)) (ds_one (ds_ret de_bl)) ds_nil)))
      (ds_one (ds_ret de_bl))))
theorem sc_law_due : FnScope N_law_due ["text"] (defScope s_law_due) := ⟨rfl, rfl, rfl, by decide +kernel, rfl, by decide +kernel, by decide +kernel⟩
theorem D_law_due (T : Tx w K mg base) : ∃ fd, FnOk R.prog w K mg base (L2.CX R.prog w) 2 (He.ga K "_law_due") fd ["text"] (spD K (Tz K) 1 ph__law_due) ∧ Binds K fd ["text"] [] ∧ PySem.W.keepIn K (.ref (He.ga K "_law_due")) = true := by
  obtain ⟨fd, F⟩ := T.F__law_due
  obtain ⟨fd__law_is_name, G__law_is_name, b__law_is_name, k__law_is_name⟩ := D_law_is_name T
  have nd := sc_law_due.nd
  refine ⟨fd, fn_data (k := 1) F (codeOf_at (p := ("_law_due", none)) F) sc_law_due rfl (fun A outer s H E hr => ⟨r_law_due, ?_, M_law_due⟩), F.bindsN (ps := ["text"]) fun _ _ _ _ _ _ us hl => match us, hl with | [_], _ => rfl, F.kp⟩
  exact (ds_cons (ds_set (i := 1) nd rfl (by first | exact Or.inl rfl | exact Or.inr rfl) (de_lst da_nil))
      (ds_cons (ds_if (dt_cmp (dop_eq hr.units) (vB 0) de_str (nomark _)) (ds_one (ds_ret (de_tup (da_cons (vV 1) (da_cons de_non da_nil))))) ds_nil)
      (ds_cons (ds_set (i := 2) nd rfl (by first | exact Or.inl rfl | exact Or.inr rfl) (de_split (vB 0) de_str))
      (ds_cons (ds_for (passes_of rfl) rfl (di_rng rfl T.free_range (da_consW (de_callB dcl_len (by rfl) T.free_len PySem.boot_len (da_consW (vB 2) dw_nil)) dw_nil)) (dg_name (i := 3) nd rfl (by first | exact Or.inl rfl | exact Or.inr rfl)) (ds_cons (ds_set (i := 4) nd rfl (by first | exact Or.inl rfl | exact Or.inr rfl) (de_split (de_ix (vB 2) (vB 3) (fun _ _ => rfl)) de_str))
      (ds_cons (ds_if (PW.pt (dw_or (dt_cmp dop_lt (de_callB dcl_len (by rfl) T.free_len PySem.boot_len (da_consW (vB 4) dw_nil)) de_int (nomark _)) (dw_or1 (dt_cmp dop_gt (de_callB dcl_len (by rfl) T.free_len PySem.boot_len (da_consW (vB 4) dw_nil)) de_int (nomark _))))) (ds_one (ds_ret (de_tup (da_cons de_non (da_cons (de_bin dop_add (vB 3) de_int) da_nil))))) ds_nil)
      (ds_cons (ds_for (passes_of rfl) rfl (di_val (vV 4)) (dg_name (i := 5) nd rfl (by first | exact Or.inl rfl | exact Or.inr rfl)) (ds_one (ds_if (dt_not (dt_val (de_call G__law_is_name (hr.mono (by decide)) rfl T.glo__law_is_name k__law_is_name b__law_is_name (Ps.of (takes_of rfl rfl rfl rfl)) (da_cons (vV 5) da_nil)))) (ds_one (ds_ret (de_tup (da_cons de_non (da_cons (de_bin dop_add (vB 3) de_int) da_nil))))) ds_nil)))
      (ds_one (ds_append (i := 1) rfl (by first | exact Or.inl rfl | exact Or.inr (Or.inl rfl) | exact Or.inr (Or.inr rfl)) (de_slice (de_bin dop_add (vB 4) (de_lst (da_cons de_non da_nil))) do_none (do_some de_int))))))))
      (ds_one (ds_ret (de_tup (da_cons (de_lc (own := [("action", 6)]) (tt := dYes) (te := (dBlt gTuple (dConsW (dVarB 6) dNil))) rfl nd (di_val (vB 1)) (blkOk_by (own := [("action", 6)]) (N := N_law_due) (sc := defScope s_law_due) (by decide +kernel)) rfl (fun _ _ _ _ _ => pg_name (i := 6) nd rfl (by first | exact Or.inl rfl | exact Or.inr rfl)) (fun _ _ _ _ _ => dts_nil) (fun _ _ _ _ _ => (de_callTy dcl_tuple (by rfl) T.free_tuple (by decide +kernel) (da_consW (vB 6) dw_nil)))) (da_cons de_non da_nil)))))))))
end
end K8

-- part DZ
set_option Elab.async false
set_option linter.all false
set_option maxRecDepth 100000
set_option maxHeartbeats 2000000
namespace K8
open PySem PySem.Spec PyProof.Rows L2 GxR GS GA GD DL
section
variable {w : World} {K : PySem.W.Frag} {mg : Str → Option Value} {base : Heap}
theorem sclaw : FnScope Nlaw ["script"] (defScope slaw) := ⟨rfl, rfl, rfl, by decide +kernel, rfl, by decide +kernel, by decide +kernel⟩
theorem Dlaw (T : Tx w K mg base) {fd : FuncData} (F : FunD K "law" "law" (defArgs slaw) (defBody slaw) (defScope slaw) [] [] (He.fAd K ("law", none)) fd) : LG.RunC R.prog w K mg base (L2.CX R.prog w) (He.ga K "law") fd ["script"] (spD K (Tz K) 1 ph_law) := by
  obtain ⟨fd__law_numbers, G__law_numbers, b__law_numbers, k__law_numbers⟩ := D_law_numbers T
  obtain ⟨fd__law_names, G__law_names, b__law_names, k__law_names⟩ := D_law_names T
  obtain ⟨fd_plan_text, G_plan_text, b_plan_text, k_plan_text⟩ := Dplan_text T
  obtain ⟨fd__law_turned, G__law_turned, b__law_turned, k__law_turned⟩ := D_law_turned T
  obtain ⟨fd__law_due, G__law_due, b__law_due, k__law_due⟩ := D_law_due T
  obtain ⟨fd_parse_plan, G_parse_plan, b_parse_plan, k_parse_plan⟩ := Dparse_plan T
  obtain ⟨_, _, _, _, _, _, _, no_InvalidNotation⟩ := T.sup_InvalidNotation
  have nd := sclaw.nd
  refine fnG_data (k := 5) F (codeOf_at (p := ("law", none)) F) sclaw rfl ⟨rfl, by decide, by decide⟩ fun s H E hr => ⟨rlaw, ?_, Mlaw⟩
  exact (ds_cons (ds_set (i := 1) nd rfl (by first | exact Or.inl rfl | exact Or.inr rfl) (de_call G__law_numbers (hr.mono (by decide)) rfl T.glo__law_numbers k__law_numbers b__law_numbers (Ps.of (takes_of rfl rfl rfl rfl)) (da_cons (vV 0) (da_cons de_int da_nil))))
      (ds_cons (ds_set (i := 2) nd rfl (by first | exact Or.inl rfl | exact Or.inr rfl) (de_call G__law_names (hr.mono (by decide)) rfl T.glo__law_names k__law_names b__law_names (Ps.of (takes_of rfl rfl rfl rfl)) (da_cons (de_ix (vB 1) de_int (fun _ _ => rfl)) (da_cons de_int da_nil))))
      (ds_cons (ds_set (i := 3) nd rfl (by first | exact Or.inl rfl | exact Or.inr rfl) (de_lst da_nil))
      (ds_cons (ds_for (passes_of rfl) rfl (di_rng rfl T.free_range (da_consW (de_bin dop_mod (de_callTy dcl_int (by rfl) T.free_int (by decide +kernel) (da_consW (de_ix (vB 1) de_int (fun _ _ => rfl)) dw_nil)) de_int) dw_nil)) (dg_name (i := 4) nd rfl (by first | exact Or.inl rfl | exact Or.inr rfl)) (ds_cons (ds_set (i := 8) nd rfl (by first | exact Or.inl rfl | exact Or.inr rfl) de_non)
      (ds_cons (ds_if (dt_cmp dop_gt (de_bin dop_mod (de_callTy dcl_int (by rfl) T.free_int (by decide +kernel) (da_consW (de_ix (vB 1) (de_bin dop_add de_int (de_bin dop_mul de_int (vB 4))) (fun _ _ => rfl)) dw_nil)) de_int) de_int (nomark _)) (ds_one (ds_set (i := 8) nd rfl (by first | exact Or.inl rfl | exact Or.inr rfl) (de_ix (vB 2) (de_bin dop_mod (de_bin dop_div (de_ix (vB 1) (de_bin dop_add de_int (de_bin dop_mul de_int (vB 4))) (fun _ _ => rfl)) de_int) de_int) (fun _ _ => rfl)))) ds_nil)
      (ds_one (ds_append (i := 3) rfl (by first | exact Or.inl rfl | exact Or.inr (Or.inl rfl) | exact Or.inr (Or.inr rfl)) (de_tup (da_cons (de_ix (vB 2) (de_bin dop_mod (de_callTy dcl_int (by rfl) T.free_int (by decide +kernel) (da_consW (de_ix (vB 1) (de_bin dop_add de_int (de_bin dop_mul de_int (vB 4))) (fun _ _ => rfl)) dw_nil)) de_int) (fun _ _ => rfl)) (da_cons (de_ix (vB 2) (de_bin dop_mod (de_callTy dcl_int (by rfl) T.free_int (by decide +kernel) (da_consW (de_ix (vB 1) (de_bin dop_add de_int (de_bin dop_mul de_int (vB 4))) (fun _ _ => rfl)) dw_nil)) de_int) (fun _ _ => rfl)) (da_cons (vV 8) da_nil)))))))))
      (ds_cons (ds_setLc (j := 5) (own := [("action", 12)]) (tt := dYes) (te := (dJoin (dC (.str " ")) (dLc (diVal (dVarB 12)) 13 (dTst (dBin gNotN (dVarB 13) (dC .non))) (dVar 13)))) rfl nd rfl rfl (sw_true rfl rfl rfl (by decide +kernel)) (di_val (vB 3)) (blkOk_by (own := [("action", 12)]) (N := Nlaw) (sc := defScope slaw) (by decide +kernel)) rfl (fun _ _ _ _ _ => pg_name (i := 12) nd rfl (by first | exact Or.inl rfl | exact Or.inr rfl)) (fun _ _ _ _ _ => dts_nil) (fun _ _ _ _ _ => (de_join de_str (de_lc (own := [("word", 13)]) (tt := (dTst (dBin gNotN (dVarB 13) (dC .non)))) (te := (dVar 13)) rfl nd (di_val (vB 12)) (blkOk_by (own := [("word", 13)]) (N := Nlaw) (sc := ({ kind := .function, names := [(".0", .local), ("action", .local)], isGenerator := false, isCoroutine := false } : Scope)) (by decide +kernel)) rfl (fun _ _ _ _ _ => pg_name (i := 13) nd rfl (by first | exact Or.inl rfl | exact Or.inr rfl)) (fun _ _ _ _ _ => dts_one (dt_cmp dop_notN (vB 13) de_non (nomark _))) (fun _ _ _ _ _ => (vV 13))))))
      (ds_cons (ds_if (dt_cmp (dop_ne hr.units) (de_call G_plan_text (hr.mono (by decide)) rfl T.glo_plan_text k_plan_text b_plan_text (Ps.of (takes_of rfl rfl rfl rfl)) (da_cons (de_callTy dcl_list (by rfl) T.free_list (by decide +kernel) (da_consW (vB 3) dw_nil)) da_nil)) (de_join de_str (vB 5)) (nomark _)) (ds_one (ds_ret de_bl)) ds_nil)
      (ds_cons (ds_if (PW.pt (dw_and (dt_cmp (dop_eq hr.units) (de_bin dop_mod (de_callTy dcl_int (by rfl) T.free_int (by decide +kernel) (da_consW (de_ix (vB 1) de_int (fun _ _ => rfl)) dw_nil)) de_int) de_int (nomark _)) (dw_and1 (dt_cmp dop_gt (de_callB dcl_len (by rfl) T.free_len PySem.boot_len (da_consW (vB 5) dw_nil)) de_int (nomark _))))) (ds_one (ds_set (i := 5) nd rfl (by first | exact Or.inl rfl | exact Or.inr rfl) (de_call G__law_turned (hr.mono (by decide)) rfl T.glo__law_turned k__law_turned b__law_turned (Ps.of (takes_of rfl rfl rfl rfl)) (da_cons (vV 1) (da_cons de_int (da_cons (vV 5) da_nil)))))) ds_nil)
      (ds_cons (ds_if (PW.pt (dw_and (dt_cmp (dop_eq hr.units) (de_bin dop_mod (de_callTy dcl_int (by rfl) T.free_int (by decide +kernel) (da_consW (de_ix (vB 1) de_int (fun _ _ => rfl)) dw_nil)) de_int) de_int (nomark _)) (dw_and1 (dt_cmp dop_gt (de_callB dcl_len (by rfl) T.free_len PySem.boot_len (da_consW (vB 5) dw_nil)) de_int (nomark _))))) (ds_one (ds_set (i := 5) nd rfl (by first | exact Or.inl rfl | exact Or.inr rfl) (de_call G__law_turned (hr.mono (by decide)) rfl T.glo__law_turned k__law_turned b__law_turned (Ps.of (takes_of rfl rfl rfl rfl)) (da_cons (vV 1) (da_cons de_int (da_cons (vV 5) da_nil)))))) ds_nil)
      (ds_cons (ds_set (i := 6) nd rfl (by first | exact Or.inl rfl | exact Or.inr rfl) (de_join de_str (vB 5)))
      (ds_cons (ds_asg (de_call G__law_due (hr.mono (by decide)) rfl T.glo__law_due k__law_due b__law_due (Ps.of (takes_of rfl rfl rfl rfl)) (da_cons (vV 6) da_nil)) (dg_tup rfl (dgs_cons (dg_name (i := 9) nd rfl (by first | exact Or.inl rfl | exact Or.inr rfl)) (dgs_cons (dg_name (i := 10) nd rfl (by first | exact Or.inl rfl | exact Or.inr rfl)) dgs_nil))))
      (ds_cons (ds_tryAs (C := "InvalidNotation") (i := 7) rfl rfl nd rfl rfl ⟨rfl, by decide, .inl T.glo_InvalidNotation⟩ (takes_of rfl rfl rfl rfl) (hem_InvalidNotation T)
      (fun W pn xe tk _ => (ds_one (ds_set (i := 11) nd rfl (by first | exact Or.inl rfl | exact Or.inr rfl) (de_call G_parse_plan (hr.mono (by decide)) rfl T.glo_parse_plan k_parse_plan b_parse_plan (Ps.of tk) (da_cons (vV 6) da_nil)))))
      (fun a dd oe pn hz hf => (ds_one (ds_ret (de_and (de_cmp dop_isN (vB 9) de_non (nomark _)) (de_one (de_cmp (dop_eq hr.units) (de_xf (C := "InvalidNotation") (f := "line") T.xc_InvalidNotation.1 no_InvalidNotation hz hf rfl (by first | exact Or.inl rfl | exact Or.inr (Or.inl rfl) | exact Or.inr (Or.inr rfl))) (vB 10) (nomark _))))))))
      (ds_one (ds_ret (de_and (de_cmp dop_notN (vB 9) de_non (nomark _)) (de_and (de_isi (T := "list") rfl T.free_isinstance (by decide +kernel) rfl T.free_list rfl (vB 11)) (de_one (de_cmp (dop_eq hr.units) (de_callB (dcl_repr rfl (units66 hr)) (by rfl) T.free_repr (by decide +kernel) (da_consW (vB 11) dw_nil)) (de_callB (dcl_repr rfl (units66 hr)) (by rfl) T.free_repr (by decide +kernel) (da_consW (vB 9) dw_nil)) (nomark _))))))))))))))))))
end
end K8

-- part EZ
set_option Elab.async false
set_option linter.all false
set_option maxRecDepth 100000
set_option maxHeartbeats 2000000
namespace K8
open PySem PySem.Spec PyProof.Rows L2 GxR GS GA GD DL
theorem bits_log {z : Int} (h : Builtin.Int.intBits z ≤ 1048576) : z.natAbs.log2 < 4000000 := by
  unfold Builtin.Int.intBits at h
  split at h
  · rename_i e
    have e : z = 0 := by simpa using e
    rw [e]
    decide
  · omega
theorem facts {w : World} {K : PySem.W.Frag} {h : Heap} {mg : Str → Option Value} {f : Addr} (X : K.In h) (G : h.Ns mainGlobals mg) (hfa : mg ("law" : Str) = some (.ref f)) (c : Hd.SaysS R.prog fa fn tbs tf (fun K => exq K && exk K) prs sus w h K) :
    LG.LawAtC PySem.Challenge.rw_whoevermay_k49_texts_of_plans w K (L2.CX R.prog w) 63 "script" mg f h := by
  have e := hfa.symm.trans (He.glo_ok X G (c.p.x.t.d.fact 11 (f := .glo "law") rfl))
  cases e
  have cs : ∀ q : Addr × Addr, q ∈ tf.map (He.cT K) → ∃ p ∈ tf, He.cT K p = q := fun q hq => List.mem_map.mp hq
  obtain ⟨fd0, F0⟩ := c.p.x.t.d.def_ 11 (d := dlaw) rfl
  have mk : ∀ base : Heap, K.In base → base.Ns mainGlobals mg → (∀ p ∈ tf.map (He.cT K), LamX.TabB base mg p.1 p.2) → Tx w K mg base := fun base _ _ tb =>
    ⟨⟨h, X, G, c.weak⟩, fun p hp => ⟨(tb _ (List.mem_map_of_mem hp)).code, (tb _ (List.mem_map_of_mem hp)).bm, (tb _ (List.mem_map_of_mem hp)).gP⟩, ⟨h, c⟩⟩
  refine ⟨fd0, tf.map (He.cT K), spD K (Tz K) 1 ph_law, fun q hq => ?_, fun q hq => ?_, fun q hq => ?_, fun s u => (FunD.bindsA (ps := ["script"]) F0 fun _ _ _ _ _ _ us hl => match us, hl with | [_], _ => rfl) s [u] rfl, fun H a ns hl hb ht hS => ?_, fun base hB hN tb => ?_⟩
  · obtain ⟨p, hp, rfl⟩ := cs q hq
    exact c.p.x.empty p hp
  · obtain ⟨p, hp, rfl⟩ := cs q hq
    exact c.p.x.out p hp
  · obtain ⟨p, hp, rfl⟩ := cs q hq
    exact PySem.W.codeHd_of_K X (c.p.x.hd p hp)
  · have go : ∀ d : D, (d = .scr ns ∨ d = .lst (ns.map .int)) → Rp K H (fun _ => False) d (.ref a) → spD K (Tz K) 1 ph_law [.ref a] H (fun v _ => v = .bl true) fun _ _ _ => False := fun d hd r =>
      ⟨rfl, fun _ => False, [d], fun d => d = .bl true, fun _ => False, fun P ⟨p, hp, e⟩ => by rw [e]; exact ⟨#[], ht _ (List.mem_map_of_mem hp), trivial⟩, fun _ z => z.elim, RpL.cons r RpL.nil, ⟨d, ns, rfl, hd, fun z hz => bits_log (hb z hz), hl, rfl⟩, fun d v H' A' e _ _ r => by subst e; unfold Rp at r; exact r, fun _ _ _ _ _ z => z.elim⟩
    rcases hS with (e | ⟨o, e⟩) | hk
    · exact go _ (.inr rfl) (by unfold Rp; exact ⟨a, _, rfl, e, fun z => z, RpL.ints⟩)
    · exact go _ (.inl rfl) (by unfold Rp; exact ⟨a, rfl, .inl ⟨o, e⟩⟩)
    · exact go _ (.inl rfl) (by unfold Rp; exact ⟨a, rfl, .inr (.inr hk)⟩)
  · exact Dlaw (mk base hB hN tb) F0
end K8
open PySem PySem.W PySem.Calls PyProof.Rows
theorem PySem.Challenge.cw_whoevermay_k49_texts_of_plans_holds : PySem.Challenge.rw_whoevermay_k49_texts_of_plans.Holds := by
  w_on; o_law
  refine HandSHeadRun.head_any (r := OpenLaw.row PySem.Challenge.rw_whoevermay_k49_texts_of_plans) (q := view (OpenLaw.row PySem.Challenge.rw_whoevermay_k49_texts_of_plans).prog [19]) (H := K8.hk) (ob := K8.ob) (M := K8.steps) (loose := K8.loose) (d := HandSHeadRun.topDef (OpenLaw.row PySem.Challenge.rw_whoevermay_k49_texts_of_plans).prog 19) (kwd := []) K8.ob_eq
    (by kernel_rfl) (fun s => by kernel_rfl) K8.run (by kernel_rfl) (by kernel_rfl) (by kernel_rfl) (by rfl) (by first | assumption | decide +kernel) (by decide +kernel) ⟨rfl, rfl, rfl, rfl, rfl, by decide +kernel⟩ ?hw ?hc
  case hw => w_witness2
  case hc =>
    refine LG.walkC (l := PySem.Challenge.rw_whoevermay_k49_texts_of_plans) (n := 63) (x := "script") (CX := fun w => L2.CX K8.R.prog w) rfl (by decide) (by kernel_rfl) ?F (fun _ _ _ _ _ h => by obtain ⟨a, B, H1, cls, d, h1, h2, h3, h4, h5, h6, h7, z⟩ := h; exact z)
    intro w mg fa h Y G hmg0
    obtain ⟨K, KX, c⟩ := Y
    have hmg : mg ("law" : PySem.Str) = some (.ref fa) := by
      have e : (HandSHeadRun.topDef (OpenLaw.row PySem.Challenge.rw_whoevermay_k49_texts_of_plans).prog 19).name = ("law" : PySem.Str) := by kernel_rfl
      rw [← e]
      exact hmg0
    exact ⟨K, KX, K8.facts KX G hmg c⟩

