import PyProof.Rows.All
import Wide.All
import OpenK.AllK
import Wide.FinOn
import PySem.Challenge.RW_whoevermay_k03_charters_edited
import HandS.AnyAll
import HandS.GenList
import HandS.ForMost
import HandS.Strs
import HandS.NoneIn
import HandS.More
import HandS.Star
import HandS.TupAny
import HandS.WrittenGet
import HandS.HeadHook4
import HandS.HeadWalk
import HandS.Property
import HandS.Head0
import HandS.Head1
import HandS.Head2
import HandS.HeadEnd
import HandS.MakeKwOnly
import HandS.Walk
import HandS.ExcInit
import HandS.ExcSuper
import KE.KSuperObj
import KE.KFromBytes
import HandS.FStr
import HandS.ExcIs
import HandS.ExcField
import HandS.ExcOwn
import HandS.IsInst
import HandS.Text
import HandS.Deep
import KE.KUnpackStar
import HandS.ReplaceLit
import HandS.TryOnly
import PyProof.ReprRoads
import KE.GoesRaise
import KE.KStateDown
import HandS.Words
import HandS.DeepEq
-- part GenAll
set_option Elab.async false
set_option linter.all false
set_option maxRecDepth 100000
set_option maxHeartbeats 2000000
/-! all, any of a generator expression over anything that a for walks, the element any expression that raises nothing -/
namespace GA
open PySem PySem.Spec PyProof.Rows L2 GenW GxR

theorem over_gen {A : Around} {elt : Expr} {gs : List Comprehension} {sc : Scope} {pos : Pos} {it acc : Value} {env : Env} :
    A.over (.compLoop (.GeneratorExp elt gs sc pos) 0 it acc env) [] = A.deeper env := by
  first
    | rfl
    | (obtain ⟨hd, d, fr, gs, u⟩ := A; simp [Around.over, Around.deeper, marksOver, frameCount, unitsOf, envsOf, guardsOf, pushEnvs, pushGuards, Code.envs, Code.env?, Code.isFrame, Code.guards, Code.isGuard, Code.weight, Code.frames, Code.isCreation, Code.isCaller, Code.cUnits])
theorem over_gen0 {A : Around} {elt : Expr} {gs : List Comprehension} {sc : Scope} {pos : Pos} {it acc : Value} {env : Env} :
    A.over (.compStart (.GeneratorExp elt gs sc pos) 0 it acc env) [] = A.deeper env := by
  first
    | rfl
    | (obtain ⟨hd, d, fr, gs, u⟩ := A; simp [Around.over, Around.deeper, marksOver, frameCount, unitsOf, envsOf, guardsOf, pushEnvs, pushGuards, Code.envs, Code.env?, Code.isFrame, Code.guards, Code.isGuard, Code.weight, Code.frames, Code.isCreation, Code.isCaller, Code.cUnits])

/-- the context of a generator expression's frame, consumed by all or any; the iterator's objects at fp -/
abbrev gcx (X : Cx) (s : Shared) (H : Hp) (scope : Scope) (cl : List (Str × Addr)) (C : Addr) (code : Value) (fp : List Addr) : Cx :=
  { X with A := X.A.in1.in1.deeper (genEnv scope cl C code builtinsNs X.env), s_0 := s, H_0 := H, env := genEnv scope cl C code builtinsNs X.env, outer := X.stack, stack := genEnv scope cl C code builtinsNs X.env :: X.stack, ex := fp, fn := fun _ => false, calm := true, pn := [], xe := fun _ _ => False }

theorem room_gen {k : Nat} {X : Cx} {s : Shared} {H : Hp} {scope : Scope} {cl : List (Str × Addr)} {C : Addr} {code : Value} {fp : List Addr} (r : Room (k + 1) X.A) : Room k (gcx X s H scope cl C code fp).A :=
  ⟨r.hd, by have := r.dp; show X.A.depth + 1 + 3 * k + 5 < _; omega, by have := r.un; show X.A.units + 1 + 1 + 3 + 16 * k + 200 < _; omega⟩

section
variable {X : Cx} {pins : List (Addr × Obj)} {σ : L2.St} {H : Hp} {s : Shared}

theorem gen_start {scope : Scope} {own : List (Str × Nat)} {fp : List Addr} {code : Value} {h' : Heap} {it : Value} {go : Obj} {G : Array GenState} {tk : Nat} (hc : X.calm = true) (I : Inv X pins σ H s) (ok : BlkOk X.N X.env.scope scope own) (hN : X.N.Nodup)
    (hfp : ∀ b ∈ fp, FpOk X pins H b ∧ b < s.heap.objs.size) (hncell : ∀ y ∈ scope.names, y.2 ≠ .cell)
    (hn : h'.Ns s.heap.objs.size (fun y => if y = (".0" : Str) then some it else none)) (hs : Heap.SameBut s.heap.objs.size (s.heap.push { cls := .type "frame", data := .dict #[] }) h')
    (hG : AllBare G) (hgo : ∀ v, go.data ≠ .cell v) (hgp : (h'.push go).get? h'.objs.size = some go) (h0 : scope.names.lookup (".0" : Str) = some .local) :
    Inv (gcx X s H scope (cloFrom X.env.cells scope.names []) s.heap.objs.size code fp) [(h'.objs.size, go)] (wipe σ (own.map (·.2))) H { s with gens := G, toks := tk, heap := h'.push go } := by
  have hfree : ∀ y ∈ scope.names, y.2 = .free → ∃ c, X.env.cells.lookup y.1 = some c := fun y hy e => by
    rcases ok.free y hy e with k | k
    · exact I.ok.has _ (.inl k)
    · exact I.ok.has _ (.inr k)
  have hsz : h'.objs.size = s.heap.objs.size + 1 := by rw [hs.1, Heap.size_push]
  have kp0 : ∀ b o, s.heap.get? b = some o → h'.get? b = some o := fun b o e => hs.extBut b o (Nat.ne_of_lt (Heap.lt_size e)) (Heap.get?_push_of_some _ e)
  have kp : ∀ b o, s.heap.get? b = some o → (h'.push go).get? b = some o := fun b o e => Heap.get?_push_of_some _ (kp0 b o e)
  have cm : ∀ {y c}, (y, c) ∈ cloFrom X.env.cells scope.names [] → X.env.cells.lookup y = some c ∧ c < s.heap.objs.size := fun {y c} hm => by
    rcases cloFrom_mem hm with hm | ⟨h1, rfl⟩
    · cases hm
    · obtain ⟨c, hc⟩ := hfree _ h1 rfl
      rw [hc]
      obtain ⟨w, z⟩ := I.cell _ _ hc
      exact ⟨rfl, z.lt⟩
  have look : ∀ {y}, scope.names.lookup y = some .free → ∃ c, (cloFrom X.env.cells scope.names []).lookup y = some c ∧ X.env.cells.lookup y = some c := fun {y} hl => by
    have hy : (y, NameKind.free) ∈ scope.names := PySem.mem_of_lookup hl
    obtain ⟨c', e'⟩ := mem_lookup (cloFrom_has (cells := X.env.cells) (acc := []) hy)
    exact ⟨c', e', (cm (PySem.mem_of_lookup e')).1⟩
  have okB : (gcx X s H scope (cloFrom X.env.cells scope.names []) s.heap.objs.size code fp).Ok := by
    refine ⟨I.ok.mod, ok.kind, I.ok.glob, rfl, Nat.le_refl _, fun y z c e1 e2 => ?_, fun y hy => ?_, fun y c z e => ?_, fun _ => I.ok.hd hc, Around.frames_deeper I.ok.frames, .inr ⟨rfl, rfl⟩, fun b hb => ⟨?_, fun y c e z => ?_⟩, I.bs, Nat.le_trans I.ok.bsz I.sz, fun b o e hb => ?_, fun b hb z => ?_, I.stack, I.stkFree⟩
    · exact I.ok.inj y z c (cm (PySem.mem_of_lookup e1)).1 (cm (PySem.mem_of_lookup e2)).1
    · have hy : scope.names.lookup y = some .cell ∨ scope.names.lookup y = some .free := hy
      rcases hy with hy | hy
      · exact absurd rfl (hncell _ (PySem.mem_of_lookup hy))
      · obtain ⟨c, h1, _⟩ := look hy
        exact ⟨c, h1⟩
    · exact absurd (show false = true from z) Bool.false_ne_true
    · exact Nat.ne_of_lt (hfp b hb).2
    · exact (hfp b hb).1.2.2.2.2.1 y c (cm (PySem.mem_of_lookup e)).1 z
    · rcases (hfp b hb).1.2.2.2.1 with z | z
      · exact I.ok.noex b o e z
      · exact absurd (Nat.lt_of_lt_of_le (Heap.lt_size e) (Nat.le_trans I.ok.bsz z)) (Nat.lt_irrefl _)
    · rcases List.mem_cons.mp (I.stkSub b z) with z | z
      · exact (hfp b hb).1.2.1 z
      · exact (hfp b hb).1.2.2.1 z
  have fr : ∀ b, s.heap.objs.size ≤ b → H b = none := fun b hb => I.hok.fresh hb
  refine ⟨okB, rfl, hG, Un.kept kp, ⟨_, hn.push _, fun i y av e1 e2 e3 => ?_⟩, fun y c e => ?_, fr _ (Nat.le_refl _), fun y c e => ?_, fun p hp => ?_, I.hok.kept kp, by rw [wipe_length]; exact I.len⟩
  · obtain ⟨e2, hne⟩ := wipe_some e2
    have hfr : scope.names.lookup y = some .free := by
      have no : ∀ k, (y, k) ∈ scope.names → ¬ (k = .local ∨ k = .cell) := fun k hm hh => by
        rcases ok.own _ hm hh with e' | e'
        · obtain ⟨p, hp, hpy⟩ := List.mem_map.mp e'
          have e3 := ok.ix p hp
          have : p.1 = y := hpy
          rw [this] at e3
          exact hne (List.mem_map.mpr ⟨p, hp, nodup_ix hN e3 e1⟩)
        · exact e' (List.mem_of_getElem? e1)
      have e3 : Vis scope y := e3
      rcases e3 with e3 | e3 | e3
      · exact absurd (.inl rfl) (no _ (PySem.mem_of_lookup e3))
      · exact absurd (.inr rfl) (no _ (PySem.mem_of_lookup e3))
      · exact e3
    obtain ⟨m, hn, hl⟩ := I.loc
    have hvis : Vis X.env.scope y := (ok.free _ (PySem.mem_of_lookup hfr) rfl).elim (fun k => .inr (.inl k)) (fun k => .inr (.inr k))
    obtain ⟨w, r, q⟩ := hl i y av e1 e2 hvis
    refine ⟨w, r, .inr ⟨.inr hfr, ?_⟩⟩
    obtain ⟨c, h1, h2⟩ := look hfr
    rcases q with ⟨k, _⟩ | ⟨_, c', e', z⟩
    · have k : X.env.scope.names.lookup y = some .local := k
      rcases ok.free _ (PySem.mem_of_lookup hfr) rfl with k' | k' <;> rw [show X.env.scope.names.lookup y = _ from k'] at k <;> cases k
    · rw [h2] at e'; cases e'
      exact ⟨c, h1, z.keeps kp⟩
  · obtain ⟨w, z⟩ := I.cell y c (cm (PySem.mem_of_lookup e)).1
    exact ⟨w, z.keeps kp⟩
  · exact I.freeC y c (cm (PySem.mem_of_lookup e)).1
  · have hp : p ∈ ([] : List (Addr × Obj)) ++ [(h'.objs.size, go)] := hp
    rw [List.nil_append, List.mem_singleton] at hp
    subst hp
    refine ⟨hgp, fr _ (by show s.heap.objs.size ≤ h'.objs.size; omega), ?_, fun z => ?_, hgo⟩
    · show h'.objs.size ≠ s.heap.objs.size; omega
    · rcases List.mem_cons.mp (I.stkSub _ z) with z | z
      · have := I.lt; rw [← z] at this; show False; have h2 : h'.objs.size < s.heap.objs.size := this; omega
      · exact I.nofs (show s.heap.objs.size ≤ h'.objs.size by omega) z

/-- what the consumer may do between two items -/
structure Slept0 (s s' : Shared) : Prop where
  os : s'.os = s.os
  bare : AllBare s'.gens
  keep : ∀ b o, s.heap.get? b = some o → s'.heap.get? b = some o
theorem Slept0.inv {Y : Cx} {pins : List (Addr × Obj)} {σ : L2.St} {H : Hp} {s s' : Shared} (z : Slept0 s s') (I : Inv Y pins σ H s) : Inv Y pins σ H s' :=
  I.call' (ch := []) z.os (Un.kept z.keep) (I.hok.kept z.keep) z.bare fun b hb => absurd hb (by simp)

/-- the reading: d is the truth that ends the walk (all: False, any: True) -/
@[irreducible] def tGen (d : Bool) (P : Addr) (wi : TI) (g : TG) (te : TE) (vs : List Nat) : TE := fun σ H Q => wi σ H fun J H1 => TabG H1 P ∧ ∀ H2, Tabbed P H1 H2 →
  ∃ W : Nat → Nat → Hp → Prop, (∃ m, W 0 m H2) ∧ ∀ i m H, W i m H →
    (J.stop i H ∧ Q (.bl (!d)) H) ∨ (J.go i H ∧ ∃ Nx : Hp → Prop, (∀ H', Nx H' → ∃ m', m' < m ∧ W (i + 1) m' H') ∧
      ∀ x H', J.yld i H x H' → g x (wipe σ vs) H' fun σ2 H3 => wipe σ2 vs = wipe σ vs ∧ te σ2 H3 fun y H4 => ∃ b, y = .bl b ∧ (b = d → Q (.bl d) H4) ∧ (b ≠ d → Nx H4))
end

/-- an item is handed out -/
def gY (Y : Cx) (pn : List (Addr × Obj)) (σw : L2.St) (d : Bool) (Q : VK) : Protocol := fun _ _ v s kap =>
  ∃ b H', v = .bool b ∧ Inv Y pn σw H' s ∧ (b = d → Q (.bl d) H') ∧ (b ≠ d → ∀ s'', Slept0 s s'' → kap (.send .none) s'')
def gP (Y : Cx) (pn : List (Addr × Obj)) (σw : L2.St) (d : Bool) (Q : VK) : Nat → Shared → Shared → Prop := fun _ _ s => ∃ H', Inv Y pn σw H' s ∧ Q (.bl (!d)) H'
def gR (Y : Cx) (pn : List (Addr × Obj)) (σw : L2.St) (d : Bool) (Q : VK) : GenEnd := fun n s₀ r s => r = .ok .next ∧ gP Y pn σw d Q n s₀ s

section
variable {Y : Cx} {A : Around} {elt tg iter : Expr} {scope : Scope} {pos : Pos} {it : Addr} {fp : List Addr} {tn : Nat → Heap → Prop} {J : It} {pn : List (Addr × Obj)} {σ : L2.St} {vs : List Nat} {d : Bool} {Q : VK} {g : TG} {te : TE} {W : Nat → Nat → Hp → Prop}
theorem seg_loop (hA : Y.A = A.deeper Y.env) (hcalm : Y.calm = true) (hco : Y.env.scope.isCoroutine = false) (hxe : Y.xe = fun _ _ => False)
    (T : Turn Y.prog Y.w Y.K tg J fp it tn) (hex : Y.ex = fp) (hpn : ∀ b ∈ fp, ∀ p ∈ Y.pn ++ pn, p.1 ≠ b) (pg : PG Y tg g) (pe : PE Y elt te)
    (turn : ∀ i m H, W i m H → (J.stop i H ∧ Q (.bl (!d)) H) ∨ (J.go i H ∧ ∃ Nx : Hp → Prop, (∀ H', Nx H' → ∃ m', m' < m ∧ W (i + 1) m' H') ∧
      ∀ x H', J.yld i H x H' → g x (wipe σ vs) H' fun σ2 H3 => wipe σ2 vs = wipe σ vs ∧ te σ2 H3 fun y H4 => ∃ b, y = .bl b ∧ (b = d → Q (.bl d) H4) ∧ (b ≠ d → Nx H4))) :
    ∀ (n m i : Nat) (s₀ s : Shared) (H : Hp), m < n → W i m H → Inv Y pn (wipe σ vs) H s → tn i s.heap → (∀ b ∈ fp, H b = none) →
      Seg (model Y.prog Y.w) A (gR Y pn (wipe σ vs) d Q) (gY Y pn (wipe σ vs) d Q) n s₀ (.compLoop (.GeneratorExp elt [⟨tg, iter, [], 0⟩] scope pos) 0 (.ref it) .none Y.env)
        ((model Y.prog Y.w).den (.compLoop (.GeneratorExp elt [⟨tg, iter, [], 0⟩] scope pos) 0 (.ref it) .none Y.env)) [] s := by
  have eA : A.over (.compLoop (.GeneratorExp elt [⟨tg, iter, [], 0⟩] scope pos) 0 (.ref it) .none Y.env) [] = Y.A := by rw [over_gen, hA]
  have stat : ∀ {σ' : L2.St} {H' : Hp} {s' : Shared}, Inv Y pn σ' H' s' → (∀ b ∈ fp, H' b = none) → ∀ b ∈ fp, FpOk Y pn H' b := fun {σ' H' s'} I' hn b hb =>
    ⟨hn b hb, (I'.ok.exf b (by rw [hex]; exact hb)).1, I'.ok.exfs b (by rw [hex]; exact hb), .inl (by rw [hex]; exact hb), fun x c e => (I'.ok.exf b (by rw [hex]; exact hb)).2 x c e, hpn b hb⟩
  intro n
  induction n with
  | zero => intro m i s₀ s H hm; exact absurd hm (Nat.not_lt_zero _)
  | succ n ih =>
    intro m i s₀ s H hm w I st hnf
    show Seg _ A _ _ _ s₀ _ ((compTurn (.GeneratorExp elt [⟨tg, iter, [], 0⟩] scope pos) 0 (.ref it) .none Y.env).onRaise (leaving Y.env)) [] s
    rw [compTurn_gen, Sem.onRaise_eq_wrap]
    refine seg_bind_wrap (wpAny_standAt ?_)
    rcases turn i m H w with ⟨stop, q⟩ | ⟨go, Nx, hNx, step⟩
    · refine seg_bind_wrap ?_
      rw [eA]
      refine thnF (T.done Y rfl rfl rfl hcalm i pn s _ H (fun _ _ => False) I (stat I hnf) st stop) fun r s1 ⟨hr, I1⟩ => ?_
      subst hr
      exact seg_end (.ok .next) ⟨rfl, H, I1, q⟩
    · refine seg_bind_wrap ?_
      rw [eA]
      refine thnF (T.item Y rfl rfl rfl hcalm i pn s _ H (fun _ _ => False) I (stat I hnf) st go) fun r s1 ⟨u, hr, h1⟩ => ?_
      subst hr
      refine seg_bind_wrap ?_
      rw [eA]
      refine thnF h1 fun _ s2 ⟨x, H2, I2, r2, y2, st2, n2⟩ => ?_
      have I2' := I2.pinned (stat I2 n2) (T.obj _ _ st2)
      refine seg_bind_wrap ?_
      rw [eA]
      have pgr := pg.run _ s2 _ H2 x u _ I2' r2 (step x H2 y2)
      rw [hxe] at pgr
      refine thnF pgr fun _ s3 ⟨σ3, H3, I3, hw3, q3⟩ => ?_
      refine seg_bind_wrap (wpAny_tests_nil ?_)
      simp only [if_true]
      have hy : ∀ v, yieldOut Y.env v = yieldValue v := fun v => by simp only [yieldOut, hco, Bool.false_eq_true, if_false]
      simp only [hy]
      rw [Sem.bind_eq_wrap', Sem.bind_eq_wrap', Sem.wrap_wrap, Sem.wrap_wrap]
      refine seg_wrap ?_
      rw [eA]
      have per := pe.run _ s3 σ3 H3 _ I3 q3
      rw [hxe] at per
      refine thnF per fun yv s4 ⟨y, H4, I4, r4, b, hb, q1, q2⟩ => ?_
      subst hb
      cases r4
      have pin' : ∀ b ∈ fp, ∀ o, s2.heap.get? b = some o → s4.heap.get? b = some o ∧ H4 b = none := fun b hb o e =>
        let z := I4.pin (b, o) (List.mem_append_right _ (List.mem_append_right _ (mem_pinsAt hb e)))
        ⟨z.1, z.2.1⟩
      have hl : (wipe σ vs).length = σ3.length := by rw [← hw3, wipe_length]
      have I4' : Inv Y pn (wipe σ vs) H4 s4 := (I4.unpinned (pins := pn)).weak hl fun j v e => by
        rw [← hw3] at e
        exact (wipe_some e).1
      have st4 : tn (i + 1) s4.heap := T.keep _ _ _ st2 fun b hb o e => (pin' b hb o e).1
      have n4 : ∀ b ∈ fp, H4 b = none := fun b hb => by
        obtain ⟨o, e, _⟩ := T.obj _ _ st2 b hb
        exact (pin' b hb o e).2
      refine seg_at (seg_yield rfl rfl rfl ⟨b, H4, rfl, I4', q1, fun hne s'' z => ?_⟩)
      obtain ⟨m', hm', w'⟩ := hNx H4 (q2 hne)
      exact seg_again rfl (ih m' (i + 1) s'' s'' H4 (by omega) w' (z.inv I4') (T.keep _ _ _ st4 fun b _ o e => z.keep b o e) n4)

theorem seg_start (hA : Y.A = A.deeper Y.env) (hcalm : Y.calm = true) (hco : Y.env.scope.isCoroutine = false) (hxe : Y.xe = fun _ _ => False)
    (T : Turn Y.prog Y.w Y.K tg J fp it tn) (hex : Y.ex = fp) (hpn : ∀ b ∈ fp, ∀ p ∈ Y.pn ++ pn, p.1 ≠ b) (pg : PG Y tg g) (pe : PE Y elt te)
    (turn : ∀ i m H, W i m H → (J.stop i H ∧ Q (.bl (!d)) H) ∨ (J.go i H ∧ ∃ Nx : Hp → Prop, (∀ H', Nx H' → ∃ m', m' < m ∧ W (i + 1) m' H') ∧
      ∀ x H', J.yld i H x H' → g x (wipe σ vs) H' fun σ2 H3 => wipe σ2 vs = wipe σ vs ∧ te σ2 H3 fun y H4 => ∃ b, y = .bl b ∧ (b = d → Q (.bl d) H4) ∧ (b ≠ d → Nx H4)))
    (m : Nat) (s₀ s : Shared) (H : Hp) (w : W 0 m H) (I : Inv Y pn (wipe σ vs) H s) (st : tn 0 s.heap) (hnf : ∀ b ∈ fp, H b = none) :
      Seg (model Y.prog Y.w) A (gR Y pn (wipe σ vs) d Q) (gY Y pn (wipe σ vs) d Q) (m + 1) s₀ (.compStart (.GeneratorExp elt [⟨tg, iter, [], 0⟩] scope pos) 0 (.ref it) .none Y.env)
        ((model Y.prog Y.w).den (.compStart (.GeneratorExp elt [⟨tg, iter, [], 0⟩] scope pos) 0 (.ref it) .none Y.env)) [] s := by
  have loop := seg_loop (iter := iter) (scope := scope) (pos := pos) hA hcalm hco hxe T hex hpn pg pe turn (m + 1) m 0 s₀ s H (Nat.lt_succ_self _) w I st hnf
  show Seg _ A _ _ _ s₀ _ ((compStart (.GeneratorExp elt [⟨tg, iter, [], 0⟩] scope pos) 0 (.ref it) .none Y.env).onRaise (leaving Y.env)) [] s
  unfold compStart
  rw [Sem.onRaise_eq_wrap]
  show Seg _ A _ _ _ s₀ _ ((ask >>= _).wrap _ _ _ _) [] s
  refine seg_bind_wrap (wpAny_askSetting ?_)
  split
  · exact seg_again rfl loop
  · first
      | exact seg_bind_wrap (wpAny_rule (seg_bind_wrap (wpAny_standAt (seg_bind_wrap (T.self _ 0 s _ _ st (seg_again rfl loop))))))
      | (refine seg_bind_wrap (wpAny_rule ?_); show Seg _ A _ _ _ s₀ _ ((standAt iter.pos >>= _).wrap _ _ _ _) [] s; exact seg_bind_wrap (wpAny_standAt (seg_bind_wrap (T.self _ 0 s _ _ st (seg_again rfl loop)))))
end

/-- the generator between two items: at most n more -/
def Waits (Y : Cx) (pn : List (Addr × Obj)) (σw : L2.St) (d : Bool) (Q : VK) (A : Around) (g n : Nat) (s : Shared) : Prop :=
  (∃ H, Inv Y pn σw H s) ∧ ∃ gs, s.gens[g]? = some gs ∧ ∀ s'', Slept0 s s'' → gs.Goes (model Y.prog Y.w) A (gR Y pn σw d Q) (gY Y pn σw d Q) n (.send .none) s''
section
variable {Y : Cx} {A : Around} {pn : List (Addr × Obj)} {σw : L2.St} {d : Bool} {Q : VK} {a : Addr} {go : Obj} {g : Nat}
theorem next_gen {n : Nat} {s : Shared} {Kp : Option Value → Shared → Prop} {E : Value → Shared → Prop} (hh : A.handled = none) (hroom : A.depth < recursionLimit) (hpn : (a, go) ∈ Y.pn ++ pn)
    (hgo : ∀ h : Heap, h.get? a = some go → h.IsGen a g) (w : Waits Y pn σw d Q A.in1 g n s)
    (hstop : ∀ s' H', Inv Y pn σw H' s' → Q (.bl (!d)) H' → Kp none s')
    (hitem : ∀ b s' H', Inv Y pn σw H' s' → (b = d → Q (.bl d) H') → (b ≠ d → ∃ m, n = m + 1 ∧ Waits Y pn σw d Q A.in1 g m s') → Kp (some (.bool b)) s') :
    wpAny (model Y.prog Y.w) A (pyNext (.ref a)) Kp E s := by
  obtain ⟨⟨H, I⟩, gs, hgs, hgoes⟩ := w
  have hg : s.heap.IsGen a g := hgo _ (I.pin (a, go) hpn).1
  have hlt : g + 1 ≤ s.gens.size := (Array.getElem?_eq_some_iff.mp hgs).1
  refine wpAny_gsz hlt ?_
  refine wpAny_pyNext_genexpQ (P := gP Y pn σw d Q) hh I.nolimit hroom hg hgs (hgoes _ ⟨rfl, allBare_setGen I.bare rfl, fun _ _ e => e⟩) (fun v s₁ gs' hb hv hsz => ?_) (fun s₁ hp h' hk hsz => ?_)
  · obtain ⟨b, H', rfl, I', q1, q2⟩ := hv
    have hlt1 : g < s₁.gens.size := by
      have e := setGen_size s₁ g gs'
      omega
    have z1 : Slept0 s₁ (s₁.setGen g gs') := ⟨rfl, allBare_setGen I'.bare hb, fun _ _ e => e⟩
    refine hitem b _ H' (z1.inv I') q1 fun hne => ?_
    cases n with
    | zero => exact (q2 hne s₁ ⟨rfl, I'.bare, fun _ _ e => e⟩).elim
    | succ m =>
      refine ⟨m, rfl, ⟨H', z1.inv I'⟩, gs', setGen_self (Array.getElem?_eq_getElem hlt1), fun s'' z => ?_⟩
      exact q2 hne s'' ⟨z.os.trans z1.os, z.bare, fun b o e => z.keep b o (z1.keep b o e)⟩
  · obtain ⟨H', I', q⟩ := hp
    have z1 : Slept0 s₁ { s₁.setGen g .finished with heap := h' } := ⟨rfl, allBare_setGen I'.bare rfl, hk⟩
    exact hstop _ H' (z1.inv I') q
end

section
variable {Y : Cx} {A : Around} {pn : List (Addr × Obj)} {σw : L2.St} {Q : VK} {a : Addr} {go : Obj} {g : Nat}
theorem all_loop {R : Result → Shared → Prop} (hh : A.handled = none) (hroom : A.depth < recursionLimit) (hpn : (a, go) ∈ Y.pn ++ pn)
    (hgo : ∀ h : Heap, h.get? a = some go → h.IsGen a g) (hR : ∀ b s' H', Inv Y pn σw H' s' → Q (.bl b) H' → R (.ok (.ret (.bool b))) s') :
    ∀ (n : Nat) (s : Shared), Waits Y pn σw false Q A.in1.in1 g n s → codeAny (model Y.prog Y.w) A (.builtin "all.loop" ⟨[.ref a], []⟩) R s := by
  intro n
  induction n with
  | zero =>
    intro s w
    refine codeAny_builtin F.entry_all_loop ?_
    rw [Around.under_plainId F.plain_all_loop _]
    show wpAny _ A.in1 (pyNext (.ref a) >>= _) _ _ s
    refine wpAny_bind (next_gen (A := A.in1) hh hroom hpn hgo w (fun s' H' I' q => ?_) fun b s' H' I' q1 q2 => ?_)
    · exact wpAny_bind (wpAny_rule (wpAny_pure (hR true s' H' I' q)))
    · refine wpAny_bind (wpAny_holding (wpAny_truthy_bool ?_))
      refine wpAny_bind (wpAny_letGo ?_)
      cases b with
      | true => obtain ⟨m, e, _⟩ := q2 (by decide); exact absurd e (by omega)
      | false =>
        simp only [Bool.false_eq_true, if_false]
        exact wpAny_bind (wpAny_rule (wpAny_pure (hR false s' H' I' (q1 rfl))))
  | succ n ih =>
    intro s w
    refine codeAny_builtin F.entry_all_loop ?_
    rw [Around.under_plainId F.plain_all_loop _]
    show wpAny _ A.in1 (pyNext (.ref a) >>= _) _ _ s
    refine wpAny_bind (next_gen (A := A.in1) hh hroom hpn hgo w (fun s' H' I' q => ?_) fun b s' H' I' q1 q2 => ?_)
    · exact wpAny_bind (wpAny_rule (wpAny_pure (hR true s' H' I' q)))
    · refine wpAny_bind (wpAny_holding (wpAny_truthy_bool ?_))
      refine wpAny_bind (wpAny_letGo ?_)
      cases b with
      | true =>
        obtain ⟨m, e, w'⟩ := q2 (by decide)
        simp only [if_true]
        obtain rfl : n = m := by omega
        exact wpAny_pure ⟨plainId_quiet F.plain_all_loop _, ih s' w'⟩
      | false =>
        simp only [Bool.false_eq_true, if_false]
        exact wpAny_bind (wpAny_rule (wpAny_pure (hR false s' H' I' (q1 rfl))))
theorem any_loop {R : Result → Shared → Prop} (hh : A.handled = none) (hroom : A.depth < recursionLimit) (hpn : (a, go) ∈ Y.pn ++ pn)
    (hgo : ∀ h : Heap, h.get? a = some go → h.IsGen a g) (hR : ∀ b s' H', Inv Y pn σw H' s' → Q (.bl b) H' → R (.ok (.ret (.bool b))) s') :
    ∀ (n : Nat) (s : Shared), Waits Y pn σw true Q A.in1.in1 g n s → codeAny (model Y.prog Y.w) A (.builtin "any.loop" ⟨[.ref a], []⟩) R s := by
  intro n
  induction n with
  | zero =>
    intro s w
    refine codeAny_builtin F.entry_any_loop ?_
    rw [Around.under_plainId F.plain_any_loop _]
    show wpAny _ A.in1 (pyNext (.ref a) >>= _) _ _ s
    refine wpAny_bind (next_gen (A := A.in1) hh hroom hpn hgo w (fun s' H' I' q => ?_) fun b s' H' I' q1 q2 => ?_)
    · exact wpAny_bind (wpAny_rule (wpAny_pure (hR false s' H' I' q)))
    · refine wpAny_bind (wpAny_holding (wpAny_truthy_bool ?_))
      refine wpAny_bind (wpAny_letGo ?_)
      cases b with
      | false => obtain ⟨m, e, _⟩ := q2 (by decide); exact absurd e (by omega)
      | true =>
        simp only [if_true]
        exact wpAny_bind (wpAny_rule (wpAny_pure (hR true s' H' I' (q1 rfl))))
  | succ n ih =>
    intro s w
    refine codeAny_builtin F.entry_any_loop ?_
    rw [Around.under_plainId F.plain_any_loop _]
    show wpAny _ A.in1 (pyNext (.ref a) >>= _) _ _ s
    refine wpAny_bind (next_gen (A := A.in1) hh hroom hpn hgo w (fun s' H' I' q => ?_) fun b s' H' I' q1 q2 => ?_)
    · exact wpAny_bind (wpAny_rule (wpAny_pure (hR false s' H' I' q)))
    · refine wpAny_bind (wpAny_holding (wpAny_truthy_bool ?_))
      refine wpAny_bind (wpAny_letGo ?_)
      cases b with
      | false =>
        obtain ⟨m, e, w'⟩ := q2 (by decide)
        simp only [Bool.false_eq_true, if_false]
        obtain rfl : n = m := by omega
        exact wpAny_pure ⟨plainId_quiet F.plain_any_loop _, ih s' w'⟩
      | true =>
        simp only [if_true]
        exact wpAny_bind (wpAny_rule (wpAny_pure (hR true s' H' I' (q1 rfl))))
end

/-- the generator over the walked thing, made -/
theorem gen_make {X : Cx} {pins : List (Addr × Obj)} {σ : L2.St} {H : Hp} {s : Shared} {c P : Addr} {elt tg iter : Expr} {gpos : Pos} {scope : Scope} {own : List (Str × Nat)} {wi : TI} {g : TG} {te : TE} {d : Bool} {k : Nat} {Q : VK} {Q' : Value → Shared → Prop}
    (hc : X.calm = true) (hN : X.N.Nodup) (hr : Room k X.A) (TB : TabB X.base X.mg c P) (hcode : X.env.code = .ref c) (ok : BlkOk X.N X.env.scope scope own) (hncell : ∀ y ∈ scope.names, y.2 ≠ .cell) (h0 : scope.names.lookup (".0" : Str) = some .local) (hco : scope.isCoroutine = false)
    (hi : PI X tg iter wi) (hg : ∀ (s : Shared) (H : Hp) (cl : List (Str × Addr)) (C : Addr) (code : Value) (fp : List Addr), PG (gcx X s H scope cl C code fp) tg g)
    (he : ∀ (s : Shared) (H : Hp) (cl : List (Str × Addr)) (C : Addr) (code : Value) (fp : List Addr), PE (gcx X s H scope cl C code fp) elt te)
    (hs : ∀ v, genFold iter X.env v = pure v) (I : Inv X pins σ H s) (h : tGen d P wi g te (own.map (·.2)) σ H Q)
    (hQ : ∀ (Y : Cx) (pn : List (Addr × Obj)) (σw : L2.St) (a : Addr) (go : Obj) (gn n : Nat) (s5 : Shared), Y.prog = X.prog → Y.w = X.w → (a, go) ∈ Y.pn ++ pn → (∀ h : Heap, h.get? a = some go → h.IsGen a gn) → s5.heap.get? a = some go → Waits Y pn σw d Q X.A.in1.in1 gn n s5 →
      (∀ s' H' v, Inv Y pn σw H' s' → Q v H' → ∃ H'', Inv X pins σ H'' s' ∧ Q v H'') → Q' (.ref a) s5) :
    wpAny (model X.prog X.w) X.A (eval (.GeneratorExp elt [⟨tg, iter, [], 0⟩] scope gpos) X.env) Q' X.xe s := by
  unfold tGen at h
  have hfree : ∀ y ∈ scope.names, y.2 = .free → ∃ c, X.env.cells.lookup y.1 = some c := fun y hy e => by
    rcases ok.free y hy e with k | k
    · exact I.ok.has _ (.inl k)
    · exact I.ok.has _ (.inr k)
  refine wpAny_GeneratorExp_make hco (closure_ok hfree) hncell h0 ok.kind (by have := hr.dp; omega) (thn (hi.run pins s σ H _ I h) fun xv s1 hx => thn hx fun itv s2 h2 => ?_) hs
  obtain ⟨it, fp, tn, J, H2, e, I2, T, st2, f2, ⟨ps, hP, ht⟩, q⟩ := h2
  subst e
  refine ⟨I2.nolimit, ?_⟩
  have hP2 : s2.heap.get? P = some { cls := .none, data := .fields ps } := I2.hok P _ hP
  have cd : PySem.W.CodeHd s2.heap c P := TB.code.keeps fun b u e => I2.bk b u e
  have fpP : ∀ b ∈ fp, b ≠ P := fun b hb e => by
    have z := (f2 b hb).1
    rw [e, hP] at z; cases z
  have cont : ∀ (code : Value) (h3 : Heap) (tk : Nat) (ps' : Array Value), Heap.ExtBut P s2.heap h3 → h3.get? P = some { cls := .none, data := .fields ps' } → (∃ more, ps' = ps ++ more) → TriplesOk ps'.toList →
      wpAny (model X.prog X.w) X.A (builtinsFor X.env.globals X.env.builtins) (fun bi s₄ =>
        ∀ h', h'.Ns s₄.heap.objs.size (fun y => if y = (".0" : Str) then some (.ref it) else none) → Heap.SameBut s₄.heap.objs.size (s₄.heap.push { cls := .type "frame", data := .dict #[] }) h' →
          Q' (.ref h'.objs.size) { s₄ with
            gens := s₄.gens.push (.fresh (.compStart (.GeneratorExp elt [⟨tg, iter, [], 0⟩] scope gpos) 0 (.ref it) .none (genEnv scope (cloFrom X.env.cells scope.names []) s₄.heap.objs.size code bi X.env))),
            toks := s₄.toks + 1 + 1 + 1,
            heap := h'.push { cls := .type "generator", data := .fields #[.int s₄.gens.size 0, .str "<genexpr>" (s₄.toks + 1), .str (X.env.qual ++ "<genexpr>") (s₄.toks + 1 + 1)] } }) X.xe { s2 with heap := h3, toks := tk } := by
    intro code h3 tk ps' hx hP3 hmore ht3
    obtain ⟨more, em⟩ := hmore
    obtain ⟨bm, ob, e1, e2, e3, e4, e5, e6, e7, e8⟩ := TB.bm
    have I3 : Inv X pins σ (upd H2 P (.tbl (ps ++ more))) { s2 with heap := h3, gens := s2.gens, drawn := s2.drawn, toks := tk } := inv_tab I2 hP (fun b o hb e => hx b o hb e) (by rw [← em]; exact hP3) I2.bare
    have hTb : Tabbed P H2 (upd H2 P (.tbl (ps ++ more))) := ⟨⟨ps ++ more, upd_same, by rw [← em]; exact ht3⟩, fun b hb => upd_ne hb⟩
    obtain ⟨W, ⟨m0, w0⟩, turn⟩ := q _ hTb
    generalize upd H2 P (.tbl (ps ++ more)) = H3 at I3 w0 hTb
    generalize hs3 : ({ s2 with heap := h3, gens := s2.gens, drawn := s2.drawn, toks := tk } : Shared) = s3 at I3
    have eh3 : s3.heap = h3 := by rw [← hs3]
    have st3 : tn 0 s3.heap := T.keep _ _ _ st2 fun b hb o e => by rw [eh3]; exact hx b o (fpP b hb) e
    have f3 : ∀ b ∈ fp, FpOk X pins H3 b ∧ b < s3.heap.objs.size := fun b hb => by
      obtain ⟨o, e, _⟩ := T.obj _ _ st3 b hb
      exact ⟨⟨(hTb.2 b (fpP b hb)).trans (f2 b hb).1, (f2 b hb).2⟩, Heap.lt_size e⟩
    refine wpAny_builtinsFor (m := X.mg) (by rw [I3.ok.glob]; exact I3.ok.mod.glob.keeps I3.bk) e1 e2 (I3.bk _ _ e5) e6 e7 e8 ?_
    intro h' hn hsb
    have main : ∀ (go : Obj) (tk' : Nat), (∀ v, go.data ≠ .cell v) → (∀ (h : Heap) (a : Addr), h.get? a = some go → h.IsGen a s3.gens.size) → (h'.push go).get? h'.objs.size = some go →
        Q' (.ref h'.objs.size) { s3 with gens := s3.gens.push (.fresh (.compStart (.GeneratorExp elt [⟨tg, iter, [], 0⟩] scope gpos) 0 (.ref it) .none (genEnv scope (cloFrom X.env.cells scope.names []) s3.heap.objs.size code builtinsNs X.env))), toks := tk', heap := h'.push go } := by
      intro go tk' hgo hgen hgp
      have I5 := gen_start (code := code) (tk := tk') (it := .ref it) hc I3 ok hN f3 hncell hn hsb (I3.bare.push (g := .fresh (.compStart (.GeneratorExp elt [⟨tg, iter, [], 0⟩] scope gpos) 0 (.ref it) .none (genEnv scope (cloFrom X.env.cells scope.names []) s3.heap.objs.size code builtinsNs X.env))) rfl) hgo hgp h0
      have pgr := hg s3 H3 (cloFrom X.env.cells scope.names []) s3.heap.objs.size code fp
      have per := he s3 H3 (cloFrom X.env.cells scope.names []) s3.heap.objs.size code fp
      have kp0 : ∀ b o, s3.heap.get? b = some o → (h'.push go).get? b = some o := fun b o e => Heap.get?_push_of_some _ (hsb.extBut b o (Nat.ne_of_lt (Heap.lt_size e)) (Heap.get?_push_of_some _ e))
      have nf3 : ∀ b ∈ fp, H3 b = none := fun b hb => (f3 b hb).1.1
      have hsz : h'.objs.size = s3.heap.objs.size + 1 := by rw [hsb.1, Heap.size_push]
      refine hQ (gcx X s3 H3 scope (cloFrom X.env.cells scope.names []) s3.heap.objs.size code fp) [(h'.objs.size, go)] (wipe σ (own.map (·.2))) h'.objs.size go s3.gens.size (m0 + 1) _ rfl rfl (List.mem_append_right _ (List.mem_singleton.mpr rfl)) (fun h e => hgen h _ e) hgp
        ⟨⟨H3, I5⟩, _, Array.getElem?_push_size .., fun s'' z => ⟨rfl, ?_⟩⟩ (fun s' H' v I' qv => ⟨H', ?_, qv⟩)
      · refine seg_start (Y := gcx X s3 H3 scope (cloFrom X.env.cells scope.names []) s3.heap.objs.size code fp) (A := X.A.in1.in1) rfl rfl hco rfl T rfl (fun b hb p hp => ?_) pgr per turn m0 s'' s'' H3 w0 (z.inv I5) ?_ nf3
        · have hp : p ∈ ([] : List (Addr × Obj)) ++ [(h'.objs.size, go)] := hp
          rw [List.nil_append, List.mem_singleton] at hp
          subst hp
          have hlt := (f3 b hb).2
          intro e
          have e : h'.objs.size = b := e
          rw [← e, hsz] at hlt
          exact absurd hlt (Nat.not_lt.mpr (Nat.le_succ _))
        · exact T.keep _ _ _ st3 fun b _ o e => z.keep b o (kp0 b o e)
      · exact I3.call' (ch := fp) I'.os I'.base I'.hok I'.bare fun b hb => ⟨(f3 b hb).1.2.2.2.1, (f3 b hb).1.2.1, (f3 b hb).1.2.2.2.2.1, (f3 b hb).1.2.2.2.2.2⟩
    exact main _ _ (fun v e => by cases e) (fun h a e => ⟨_, _, _, e, rfl, rfl, rfl⟩) (Heap.get?_push_size _ rfl)
  cases hf : codeAmong gpos ps.toList with
  | none =>
    refine wpAny_genexprCodeX hcode (cd.code hP2 ht) (cd.tab hP2) hf fun c' h' tk hx hge hlt hco' _ htab' _ => ?_
    obtain ⟨o1, vs, f1, tf, fl, tg', inF, tx, tt, op, _, _, _, _, _, _, _, _, _, htr, _⟩ := hco'
    exact cont _ h' tk _ hx htab'.2 ⟨_, rfl⟩ htr
  | some cv =>
    refine wpAny_genexprCode_hit hcode (cd.code hP2 ht) hf ?_
    exact cont cv s2.heap s2.toks ps (Heap.ExtBut.refl _ _) hP2 ⟨#[], by simp⟩ ht

section
variable {X : Cx} {c P : Addr} {elt tg iter : Expr} {p pos gpos : Pos} {scope : Scope} {own : List (Str × Nat)} {wi : TI} {g : TG} {te : TE} {k : Nat}
/-- all(elt for tg in iter) -/
theorem pe_all (hr : Room k X.A) (hc : X.calm = true) (hN : X.N.Nodup) (hm : X.mg "all" = none) (TB : TabB X.base X.mg c P) (hcode : X.env.code = .ref c) (ok : BlkOk X.N X.env.scope scope own) (hi : PI X tg iter wi)
    (hg : ∀ (s : Shared) (H : Hp) (cl : List (Str × Addr)) (C : Addr) (code : Value) (fp : List Addr), PG (gcx X s H scope cl C code fp) tg g)
    (he : ∀ (s : Shared) (H : Hp) (cl : List (Str × Addr)) (C : Addr) (code : Value) (fp : List Addr), PE (gcx X s H scope cl C code fp) elt te)
    (hncell : ∀ y ∈ scope.names, y.2 ≠ .cell := by decide +kernel) (h0 : scope.names.lookup (".0" : Str) = some .local := by decide +kernel) (hco : scope.isCoroutine = false := by rfl) (hgl : Gl X "all" := by rfl) (hs : ∀ v, genFold iter X.env v = pure v := by intro _; rfl)
    (hst : starEach [.GeneratorExp elt [⟨tg, iter, [], 0⟩] scope gpos] X.env = (false, eval (.GeneratorExp elt [⟨tg, iter, [], 0⟩] scope gpos) X.env) :: starEach [] X.env := by rfl) :
    PE X (.Call (.Name "all" p) [.GeneratorExp elt [⟨tg, iter, [], 0⟩] scope gpos] [] pos) (tGen false P wi g te (own.map (·.2))) := by
  refine ⟨fun pins s σ H Q I h => ?_⟩
  refine wpAny_Call_Name_kw (ld_blt I hgl hm boot_all ?_)
  refine PyProof.Rows.callWith_builtin1 ?_ hst (by rfl)
  rw [hst]
  show wpAny _ _ (spliced ((false, eval (.GeneratorExp elt [⟨tg, iter, [], 0⟩] scope gpos) X.env) :: backTo pos (starEach [] X.env))) _ _ s
  refine Calls.spliced_cons (gen_make hc hN hr TB hcode ok hncell h0 hco hi hg he hs I h fun Y pn σw a go gn n s5 e1 e2 hpn hgo hat w back => ?_)
  refine Calls.spliced_nil ?_
  refine call_function_tree F.kind_all F.plain_all F.entry_all (F.args_all1 _) ?_
  unfold Builtin.«all»
  refine wpAny_bind (m := oneArg "all" _) (wpAny_pure ?_)
  refine wpAny_bind (wpAny_pyIter_gen (hgo _ hat) ?_)
  refine wpAny_pure ⟨plainId_quiet F.plain_all_loop _, ?_⟩
  rw [← e1, ← e2]
  refine all_loop (A := X.A) hr.hd (by have := hr.dp; omega) hpn hgo (fun b s' H' I' q => ?_) n s5 w
  obtain ⟨H'', I'', q''⟩ := back s' H' (.bl b) I' q
  exact ⟨.bl b, H'', I'', rfl, q''⟩
/-- any(elt for tg in iter) -/
theorem pe_any (hr : Room k X.A) (hc : X.calm = true) (hN : X.N.Nodup) (hm : X.mg "any" = none) (TB : TabB X.base X.mg c P) (hcode : X.env.code = .ref c) (ok : BlkOk X.N X.env.scope scope own) (hi : PI X tg iter wi)
    (hg : ∀ (s : Shared) (H : Hp) (cl : List (Str × Addr)) (C : Addr) (code : Value) (fp : List Addr), PG (gcx X s H scope cl C code fp) tg g)
    (he : ∀ (s : Shared) (H : Hp) (cl : List (Str × Addr)) (C : Addr) (code : Value) (fp : List Addr), PE (gcx X s H scope cl C code fp) elt te)
    (hncell : ∀ y ∈ scope.names, y.2 ≠ .cell := by decide +kernel) (h0 : scope.names.lookup (".0" : Str) = some .local := by decide +kernel) (hco : scope.isCoroutine = false := by rfl) (hgl : Gl X "any" := by rfl) (hs : ∀ v, genFold iter X.env v = pure v := by intro _; rfl)
    (hst : starEach [.GeneratorExp elt [⟨tg, iter, [], 0⟩] scope gpos] X.env = (false, eval (.GeneratorExp elt [⟨tg, iter, [], 0⟩] scope gpos) X.env) :: starEach [] X.env := by rfl) :
    PE X (.Call (.Name "any" p) [.GeneratorExp elt [⟨tg, iter, [], 0⟩] scope gpos] [] pos) (tGen true P wi g te (own.map (·.2))) := by
  refine ⟨fun pins s σ H Q I h => ?_⟩
  refine wpAny_Call_Name_kw (ld_blt I hgl hm boot_any ?_)
  refine PyProof.Rows.callWith_builtin1 ?_ hst (by rfl)
  rw [hst]
  show wpAny _ _ (spliced ((false, eval (.GeneratorExp elt [⟨tg, iter, [], 0⟩] scope gpos) X.env) :: backTo pos (starEach [] X.env))) _ _ s
  refine Calls.spliced_cons (gen_make hc hN hr TB hcode ok hncell h0 hco hi hg he hs I h fun Y pn σw a go gn n s5 e1 e2 hpn hgo hat w back => ?_)
  refine Calls.spliced_nil ?_
  refine call_function_tree F.kind_any F.plain_any F.entry_any (F.args_any1 _) ?_
  unfold Builtin.«any»
  refine wpAny_bind (m := oneArg "any" _) (wpAny_pure ?_)
  refine wpAny_bind (wpAny_pyIter_gen (hgo _ hat) ?_)
  refine wpAny_pure ⟨plainId_quiet F.plain_any_loop _, ?_⟩
  rw [← e1, ← e2]
  refine any_loop (A := X.A) hr.hd (by have := hr.dp; omega) hpn hgo (fun b s' H' I' q => ?_) n s5 w
  obtain ⟨H'', I'', q''⟩ := back s' H' (.bl b) I' q
  exact ⟨.bl b, H'', I'', rfl, q''⟩
end
end GA
#print axioms GA.pe_all
#print axioms GA.pe_any

-- part GenSetA
set_option Elab.async false
set_option linter.all false
set_option maxRecDepth 100000
set_option maxHeartbeats 4000000
/-! len(set(xs)) of texts, any number below the line; written dicts asked; products of great ints; defs with their code told -/
namespace GS
open PySem PySem.Spec PyProof.Rows L2 SS
/-- the different ones, in their order -/
def dis (l : List Str) : List Str := l.foldl (fun a x => if a.contains x then a else a ++ [x]) []
theorem dis_snoc (l : List Str) (x : Str) : dis (l ++ [x]) = if (dis l).contains x then dis l else dis l ++ [x] := by
  unfold dis
  rw [List.foldl_append]
  rfl
theorem dis_any : ∀ (n : Nat) (l : List Str), l.length = n → ∀ k, (dis l).any (· == k) = l.any (· == k) := by
  intro n
  induction n with
  | zero =>
    intro l hl k
    rw [List.length_eq_zero_iff.mp hl]
    rfl
  | succ n ih =>
    intro l hl k
    obtain ⟨r, x, rfl⟩ : ∃ r x, l = r ++ [x] := ⟨l.dropLast, l.getLast (by intro z; rw [z] at hl; cases hl), (List.dropLast_concat_getLast _).symm⟩
    have hr : r.length = n := by simpa using hl
    have e := ih r hr
    rw [dis_snoc]
    by_cases hc : (dis r).contains x = true
    · rw [if_pos hc, e k, List.any_append]
      have hx : (dis r).any (· == x) = true := by
        rw [List.any_eq_true]
        exact ⟨x, by simpa using hc, by simp⟩
      by_cases hk : x = k
      · subst hk
        rw [← e x, hx]
        rfl
      · have : (x == k) = false := by simpa using hk
        simp [this]
    · rw [if_neg hc, List.any_append, List.any_append, e k]
theorem dis_len (l : List Str) : (dis l).length ≤ l.length := by
  have : ∀ (n : Nat) (l : List Str), l.length = n → (dis l).length ≤ n := by
    intro n
    induction n with
    | zero => intro l hl; rw [List.length_eq_zero_iff.mp hl]; exact Nat.le_refl _
    | succ n ih =>
      intro l hl
      obtain ⟨r, x, rfl⟩ : ∃ r x, l = r ++ [x] := ⟨l.dropLast, l.getLast (by intro z; rw [z] at hl; cases hl), (List.dropLast_concat_getLast _).symm⟩
      have hr : r.length = n := by simpa using hl
      have := ih r hr
      rw [dis_snoc]
      split
      · omega
      · rw [List.length_append, List.length_singleton]; omega
  exact this _ l rfl
theorem dis_mem {l : List Str} {k : Str} : k ∈ dis l ↔ k ∈ l := by
  have e := dis_any _ l rfl k
  constructor
  · intro h
    have : (dis l).any (· == k) = true := List.any_eq_true.mpr ⟨k, h, by simp⟩
    rw [e] at this
    obtain ⟨y, hy, hk⟩ := List.any_eq_true.mp this
    rw [← beq_iff_eq.mp hk]; exact hy
  · intro h
    have : l.any (· == k) = true := List.any_eq_true.mpr ⟨k, h, by simp⟩
    rw [← e] at this
    obtain ⟨y, hy, hk⟩ := List.any_eq_true.mp this
    rw [← beq_iff_eq.mp hk]; exact hy
theorem dis_lt (l : List Str) : (dis l).length < l.length ↔ ¬ l.Nodup := by
  have : ∀ (n : Nat) (l : List Str), l.length = n → ((dis l).length < n ↔ ¬ l.Nodup) := by
    intro n
    induction n with
    | zero => intro l hl; rw [List.length_eq_zero_iff.mp hl]; simp [dis]
    | succ n ih =>
      intro l hl
      obtain ⟨r, x, rfl⟩ : ∃ r x, l = r ++ [x] := ⟨l.dropLast, l.getLast (by intro z; rw [z] at hl; cases hl), (List.dropLast_concat_getLast _).symm⟩
      have hr : r.length = n := by simpa using hl
      have ih := ih r hr
      have hle := dis_len r
      have hnd : (r ++ [x]).Nodup ↔ r.Nodup ∧ x ∉ r := by
        rw [List.nodup_append]
        constructor
        · rintro ⟨a, _, b⟩
          exact ⟨a, fun h => b x h x (List.mem_singleton.mpr rfl) rfl⟩
        · rintro ⟨a, b⟩
          refine ⟨a, by simp, fun y hy z hz e => b ?_⟩
          rw [List.mem_singleton] at hz
          rw [← hz, ← e]; exact hy
      rw [dis_snoc, hnd]
      by_cases hc : (dis r).contains x = true
      · rw [if_pos hc]
        have hx : x ∈ r := dis_mem.mp (by simpa using hc)
        constructor
        · intro _ h; exact h.2 hx
        · intro _; omega
      · rw [if_neg hc, List.length_append, List.length_singleton]
        have hx : x ∉ r := fun h => hc (by simpa using dis_mem.mpr h)
        constructor
        · intro h hh
          exact (ih.mp (by omega)) hh.1
        · intro h
          have : ¬ r.Nodup := fun z => h ⟨z, hx⟩
          have := ih.mpr this
          omega
  exact this _ l rfl

section
variable {prog : Program} {w : World} {A : Around} {R : Result → Shared → Prop} {I : Addr} {fp wr : List Addr} {G : Array GenState → Array GenState → Prop} {n : Nat} {P : Nat → Value → Prop} {St : Nat → Shared → Prop}
theorem fill (W : WalksS prog w A.in1 I fp wr G n P St) (S : Addr) (hSf : S ∉ fp) (xs : List Str) (hsz : xs.length = n) (hn1 : n + 1 < scanBound)
    (hval : ∀ i v, P i v → ∃ t, v = .str (xs.getD i Str.empty) t) (turns : Nat) :
    ∀ (i : Nat) (s : Shared), i + turns = n → St i s →
      s.heap.SetOf (PySem.strKind prog w) S (fun y => (xs.take i).any (· == y)) (dis (xs.take i)).length →
      (∀ s', Moved (S :: wr) G s s' → s'.heap.SetOf (PySem.strKind prog w) S (fun y => xs.any (· == y)) (dis xs).length → R (.ok (.ret .none)) s') →
      codeAny (model prog w) A (.builtin "set.update.loop" ⟨[.ref S, .ref I], []⟩) R s := by
  have nS : S ∉ wr := fun z => hSf (W.sub _ z)
  have more : ∀ b ∈ wr, b ∈ S :: wr := fun b z => List.mem_cons_of_mem _ z
  have carry : ∀ {s s' : Shared} {F : Str → Bool} {m : Nat}, Moved wr G s s' → s.heap.SetOf (PySem.strKind prog w) S F m → s'.heap.SetOf (PySem.strKind prog w) S F m := fun hm ⟨o, es, ep, tb, ho, r⟩ => ⟨o, es, ep, tb, hm.heap S _ nS ho, r⟩
  induction turns with
  | zero =>
    intro i s hi st hS hR
    obtain rfl : i = n := by omega
    refine codeAny_builtin PyProof.Rows.F.entry_set_update_loop ?_
    rw [Around.under_plainId PyProof.Rows.F.plain_set_update_loop _]
    show wpAny _ A.in1 (pyNext (.ref I) >>= _) _ _ s
    refine wpAny_bind (W.done s _ _ st fun s' hm => ?_)
    rw [← hsz, List.take_length] at hS
    exact wpAny_pure (hR s' (hm.mono more) (carry hm hS))
  | succ turns ih =>
    intro i s hi st hS hR
    refine codeAny_builtin PyProof.Rows.F.entry_set_update_loop ?_
    rw [Around.under_plainId PyProof.Rows.F.plain_set_update_loop _]
    show wpAny _ A.in1 (pyNext (.ref I) >>= _) _ _ s
    refine wpAny_bind (W.item i s _ _ (by omega) st fun v s' hP st' hm => ?_)
    obtain ⟨t, rfl⟩ := hval i v hP
    have hS' := carry hm hS
    have hx : xs[i]? = some (xs.getD i Str.empty) := by
      rw [List.getD_eq_getElem?_getD, List.getElem?_eq_getElem (by omega)]; rfl
    generalize xs.getD i Str.empty = x at hx ⊢
    have tk : xs.take (i + 1) = xs.take i ++ [x] := by
      rw [List.take_add_one, hx]; rfl
    show wpAny _ A.in1 (holding [Value.str x t] (setAdd S (.str x t)) >>= _) _ _ s'
    refine wpAny_bind (wpAny_holding ?_)
    unfold setAdd
    refine wpAny_holding (wpAny_bind ((PySem.strKind prog w).pyHash (k := x) (strKind_is _ _ _ _) ?_))
    have room : (dis (xs.take i)).length + 1 < scanBound := by
      have := dis_len (xs.take i)
      rw [List.length_take] at this
      omega
    refine wpAny_setAddHashed_of (knd := PySem.strKind prog w) (s := { s' with toks := s'.toks + 1 }) (strKind_is _ _ _ _) rfl hS' room fun h' hsb hS2 => ?_
    have hin : ((xs.take i).any (· == x)) = (dis (xs.take i)).contains x := by
      rw [← dis_any _ (xs.take i) rfl x, Bool.eq_iff_iff, List.any_eq_true]
      simp
    have hS3 : h'.SetOf (PySem.strKind prog w) S (fun y => (xs.take (i + 1)).any (· == y)) (dis (xs.take (i + 1))).length := by
      refine SetOf_congr hS2 (fun y => ?_) ?_
      · rw [tk, List.any_append]
        by_cases e : y = x
        · subst e; simp
        · have e2 : (x == y) = false := by simpa using fun z : x = y => e z.symm
          simp [e, e2]
      · rw [tk, dis_snoc]
        by_cases hc : (dis (xs.take i)).contains x = true
        · rw [if_pos hc, if_pos (by rw [hin]; exact hc)]
        · rw [if_neg hc, if_neg (by rw [hin]; exact hc), List.length_append, List.length_singleton]
    have hkeep : ∀ b o, b ≠ S → s'.heap.get? b = some o → h'.get? b = some o := fun b o hb e => (hsb.2 b hb).trans e
    refine wpAny_pure ⟨plainId_quiet PyProof.Rows.F.plain_set_update_loop _, ih (i + 1) _ (by omega) (W.frame _ s' _ _ st' (Nat.le_succ _) fun b hb o e => hkeep b o (fun z => hSf (z ▸ hb)) e) hS3 fun s2 hm2 hS4 => ?_⟩
    exact hR s2 (Moved.trans W.gtrans ((hm.mono more).then_heap (Nat.le_succ _) fun b o hb e => hkeep b o (fun z => hb (by rw [z]; exact List.mem_cons_self)) e) hm2) hS4
end

section
variable {prog : Program} {w : World} {A : Around} {E : Value → Shared → Prop} {s : Shared}
theorem call_set_list {l : Addr} {its : Array Value} {xs : List Str} {Q : Value → Shared → Prop} (hh : A.handled = none) (hl : s.heap.IsList l its) (hi : PyProof.Rows.StrsAre its.toList xs) (hn1 : xs.length + 1 < scanBound)
    (h : ∀ (h' : Heap) (tk : Nat), h'.SetOf (PySem.strKind prog w) s.heap.objs.size (fun y => xs.any (· == y)) (dis xs).length → (∀ b o, b < s.heap.objs.size → s.heap.get? b = some o → h'.get? b = some o) → Q (.ref s.heap.objs.size) { s with heap := h', toks := tk }) :
    wpAny (model prog w) A (call (.type "set") [.ref l]) Q E s := by
  obtain ⟨c, tl, hmro⟩ := PySem.F.called_set.mro
  have hmade := PySem.F.called_set.made
  have hsub := PySem.F.called_set.sub
  refine wpAny_call (codeAny_of_tree (show wpAny _ _ (callAny (.type "set") _) _ _ _ from ?_))
  refine wpAny_pure ⟨Code.quiet_builtin _ (by decide +kernel), codeAny_builtin PySem.F.entry_type_call ?_⟩
  rw [Around.under_plain (weight_type_call_type "set" [.ref l] []) rfl]
  have f1 := PySem.F.called_set.notType
  have f2 := PySem.F.called_set.canCreate
  have f3 := PySem.F.typeCall_set_1 (.ref l)
  repeat (any_goals (first | assumption | wp_step))
  let S0 : Bool → Obj := fun led => { cls := .type "set", dict := none, data := .set #[] 0 (.fresh 0 0 led) }
  refine codeAny_mono (code_set_new_1 (.ref l) (E := E) (Q₁ := fun obj s₁ => ∃ led : Bool, obj = .ref s.heap.objs.size ∧ s₁ = { s with heap := s.heap.push (S0 led) }) fun led => ⟨led, rfl, rfl⟩) fun r s₁ hr => ?_
  cases r with
  | error e => exact hr
  | ok fl =>
    cases fl with
    | ret obj =>
      obtain ⟨led, rfl, rfl⟩ := hr
      have hS : (s.heap.push (S0 led)).get? s.heap.objs.size = some (S0 led) := Heap.get?_push_size _ rfl
      have hT : Shared.TypeIs { s with heap := s.heap.push (S0 led) } (.ref s.heap.objs.size) "set" := ⟨_, hS, rfl⟩
      have g1 := PySem.F.called_set.init.lookup
      have g2 := PySem.F.called_set.init.bind (.ref s.heap.objs.size)
      repeat (any_goals (first | assumption | wp_step))
      refine codeAny_mono (codeAny_call_builtin (R := wants (fun r s₂ => r = .none ∧ ∃ h' tk, s₂ = { s with heap := h', toks := tk } ∧ h'.SetOf (PySem.strKind prog w) s.heap.objs.size (fun y => xs.any (· == y)) (dis xs).length ∧
          (∀ b o, b < s.heap.objs.size → s.heap.get? b = some o → h'.get? b = some o)) E) PySem.F.called_set.init.plain PySem.F.entry_set_init (check_set_init_1 hT ?_)) fun r₂ s₂ hr₂ => ?_
      · obtain ⟨ol, hol, hcl, nl, hdl⟩ := hl
        obtain ⟨oc, od, odt, os⟩ := ol
        simp only at hcl hdl
        subst hcl
        subst hdl
        have hol' : (s.heap.push (S0 led)).get? l = some { cls := .type "list", dict := od, data := .seq its nl, slots := os } := Heap.get?_push_of_some _ hol
        have k1 := PySem.F.sub_list_set
        have k2 := PySem.F.sub_list_frozenset
        have k3 : (Value.type "list" == Value.type "dict") = false := by decide
        have hl1 : (s.heap.push (S0 led)).IsList l its := ⟨_, hol', rfl, nl, rfl⟩
        unfold Builtin.«set.__init__» noKeywords Builtin.Frozenset.updateFrom
        generalize hPI : pyIter = PI
        wp_walk
        subst hPI
        refine wpAny_pyIter_list hl1 (wpAny_bind (wpAny_runValue ?_))
        have ltl : l < s.heap.objs.size := Heap.lt_size hol
        have hh3 : A.in1.in1.in1.handled = none := hh
        have szp : (s.heap.push (S0 led)).objs.size = s.heap.objs.size + 1 := Heap.size_push ..
        have nI : l ≠ (s.heap.push (S0 led)).objs.size := by rw [szp]; exact Nat.ne_of_lt (Nat.lt_succ_of_lt ltl)
        have nF : s.heap.objs.size ∉ [(s.heap.push (S0 led)).objs.size, l] := by
          rw [szp]
          intro z
          rcases List.mem_cons.mp z with z | z
          · exact Nat.ne_of_lt (Nat.lt_succ_self _) z
          · exact Nat.ne_of_gt ltl (List.mem_singleton.mp z)
        have hsz : xs.length = its.size := by rw [← StrsAre.len_eq hi, Array.length_toList]
        refine fill ((Walks.list hh3 _ l nI its).toS) s.heap.objs.size nF xs hsz (by rw [← hsz]; exact hn1) (fun i v hv => strs_at hi i v (by rw [Array.getElem?_toList]; exact hv)) its.size 0 _ (Nat.zero_add _)
          ⟨⟨_, Heap.get?_push_size _ rfl, rfl, rfl⟩, (hl1.push _)⟩ ?a0 ?a1
        case a0 =>
          have hget : ((s.heap.push (S0 led)).push { cls := .type "list_iterator", data := .fields #[.ref l, .int 0 0] }).get? s.heap.objs.size = some (S0 led) := Heap.get?_push_of_some _ hS
          exact PyProof.Rows.SetOf_congr ((PyProof.Rows.setObjOf_fresh (knd := PySem.strKind prog w) led).setOf hget (by unfold scanBound; omega)) (fun _ => rfl) rfl
        case a1 =>
          intro s' hm hS'
          obtain ⟨h', g', d', tk', os'⟩ := s'
          have eg : g' = s.gens := hm.gens
          have ed : d' = s.drawn := hm.drawn
          have eo : os' = s.os := hm.os
          subst eg
          subst ed
          subst eo
          show wpAny _ _ _ _ _ _
          refine wpAny_pure ?_
          show wpAny _ _ (ret Value.none) _ _ _
          refine wpAny_pure ⟨rfl, h', tk', rfl, hS', fun b o hb e => hm.heap b o (fun z => ?_) (Heap.get?_push_of_some _ (Heap.get?_push_of_some _ e))⟩
          rcases List.mem_cons.mp z with z | z
          · exact Nat.ne_of_lt hb z
          · have z := List.mem_singleton.mp z
            rw [szp] at z
            exact Nat.ne_of_lt (Nat.lt_succ_of_lt hb) z
      · cases r₂ with
        | error e => exact hr₂
        | ok fl₂ =>
          cases fl₂ with
          | ret r =>
            obtain ⟨rfl, h', tk, rfl, hS', hk'⟩ := hr₂
            repeat (any_goals (first | assumption | wp_step))
            exact h _ _ hS' hk'
          | _ => exact hr₂.elim
    | _ => exact hr.elim
end

section
variable {prog : Program} {w : World} {A : Around} {E : Value → Shared → Prop} {s : Shared}
theorem call_set_tuple {l : Addr} {its : Array Value} {xs : List Str} {Q : Value → Shared → Prop} (hh : A.handled = none) (hl : s.heap.IsTuple l its) (hi : PyProof.Rows.StrsAre its.toList xs) (hn1 : xs.length + 1 < scanBound)
    (h : ∀ (h' : Heap) (tk : Nat), h'.SetOf (PySem.strKind prog w) s.heap.objs.size (fun y => xs.any (· == y)) (dis xs).length → (∀ b o, b < s.heap.objs.size → s.heap.get? b = some o → h'.get? b = some o) → Q (.ref s.heap.objs.size) { s with heap := h', toks := tk }) :
    wpAny (model prog w) A (call (.type "set") [.ref l]) Q E s := by
  obtain ⟨c, tl, hmro⟩ := PySem.F.called_set.mro
  have hmade := PySem.F.called_set.made
  have hsub := PySem.F.called_set.sub
  refine wpAny_call (codeAny_of_tree (show wpAny _ _ (callAny (.type "set") _) _ _ _ from ?_))
  refine wpAny_pure ⟨Code.quiet_builtin _ (by decide +kernel), codeAny_builtin PySem.F.entry_type_call ?_⟩
  rw [Around.under_plain (weight_type_call_type "set" [.ref l] []) rfl]
  have f1 := PySem.F.called_set.notType
  have f2 := PySem.F.called_set.canCreate
  have f3 := PySem.F.typeCall_set_1 (.ref l)
  repeat (any_goals (first | assumption | wp_step))
  let S0 : Bool → Obj := fun led => { cls := .type "set", dict := none, data := .set #[] 0 (.fresh 0 0 led) }
  refine codeAny_mono (code_set_new_1 (.ref l) (E := E) (Q₁ := fun obj s₁ => ∃ led : Bool, obj = .ref s.heap.objs.size ∧ s₁ = { s with heap := s.heap.push (S0 led) }) fun led => ⟨led, rfl, rfl⟩) fun r s₁ hr => ?_
  cases r with
  | error e => exact hr
  | ok fl =>
    cases fl with
    | ret obj =>
      obtain ⟨led, rfl, rfl⟩ := hr
      have hS : (s.heap.push (S0 led)).get? s.heap.objs.size = some (S0 led) := Heap.get?_push_size _ rfl
      have hT : Shared.TypeIs { s with heap := s.heap.push (S0 led) } (.ref s.heap.objs.size) "set" := ⟨_, hS, rfl⟩
      have g1 := PySem.F.called_set.init.lookup
      have g2 := PySem.F.called_set.init.bind (.ref s.heap.objs.size)
      repeat (any_goals (first | assumption | wp_step))
      refine codeAny_mono (codeAny_call_builtin (R := wants (fun r s₂ => r = .none ∧ ∃ h' tk, s₂ = { s with heap := h', toks := tk } ∧ h'.SetOf (PySem.strKind prog w) s.heap.objs.size (fun y => xs.any (· == y)) (dis xs).length ∧
          (∀ b o, b < s.heap.objs.size → s.heap.get? b = some o → h'.get? b = some o)) E) PySem.F.called_set.init.plain PySem.F.entry_set_init (check_set_init_1 hT ?_)) fun r₂ s₂ hr₂ => ?_
      · obtain ⟨ol, hol, hcl, nl, hdl⟩ := hl
        obtain ⟨oc, od, odt, os⟩ := ol
        simp only at hcl hdl
        subst hcl
        subst hdl
        have hol' : (s.heap.push (S0 led)).get? l = some { cls := .type "tuple", dict := od, data := .seq its nl, slots := os } := Heap.get?_push_of_some _ hol
        have k1 := PySem.F.sub_tuple_set
        have k2 := PySem.F.sub_tuple_frozenset
        have k3 : (Value.type "tuple" == Value.type "dict") = false := by decide
        have hl1 : (s.heap.push (S0 led)).IsTuple l its := ⟨_, hol', rfl, nl, rfl⟩
        unfold Builtin.«set.__init__» noKeywords Builtin.Frozenset.updateFrom
        generalize hPI : pyIter = PI
        wp_walk
        subst hPI
        refine wpAny_pyIter_tuple hl1 (wpAny_bind (wpAny_runValue ?_))
        have ltl : l < s.heap.objs.size := Heap.lt_size hol
        have hh3 : A.in1.in1.in1.handled = none := hh
        have szp : (s.heap.push (S0 led)).objs.size = s.heap.objs.size + 1 := Heap.size_push ..
        have nI : l ≠ (s.heap.push (S0 led)).objs.size := by rw [szp]; exact Nat.ne_of_lt (Nat.lt_succ_of_lt ltl)
        have nF : s.heap.objs.size ∉ [(s.heap.push (S0 led)).objs.size, l] := by
          rw [szp]
          intro z
          rcases List.mem_cons.mp z with z | z
          · exact Nat.ne_of_lt (Nat.lt_succ_self _) z
          · exact Nat.ne_of_gt ltl (List.mem_singleton.mp z)
        have hsz : xs.length = its.size := by rw [← StrsAre.len_eq hi, Array.length_toList]
        refine fill ((Walks.tuple hh3 _ l nI its).toS) s.heap.objs.size nF xs hsz (by rw [← hsz]; exact hn1) (fun i v hv => strs_at hi i v (by rw [Array.getElem?_toList]; exact hv)) its.size 0 _ (Nat.zero_add _)
          ⟨⟨_, Heap.get?_push_size _ rfl, rfl, rfl⟩, (hl1.push _)⟩ ?a0 ?a1
        case a0 =>
          have hget : ((s.heap.push (S0 led)).push { cls := .type "tuple_iterator", data := .fields #[.ref l, .int 0 0] }).get? s.heap.objs.size = some (S0 led) := Heap.get?_push_of_some _ hS
          exact PyProof.Rows.SetOf_congr ((PyProof.Rows.setObjOf_fresh (knd := PySem.strKind prog w) led).setOf hget (by unfold scanBound; omega)) (fun _ => rfl) rfl
        case a1 =>
          intro s' hm hS'
          obtain ⟨h', g', d', tk', os'⟩ := s'
          have eg : g' = s.gens := hm.gens
          have ed : d' = s.drawn := hm.drawn
          have eo : os' = s.os := hm.os
          subst eg
          subst ed
          subst eo
          show wpAny _ _ _ _ _ _
          refine wpAny_pure ?_
          show wpAny _ _ (ret Value.none) _ _ _
          refine wpAny_pure ⟨rfl, h', tk', rfl, hS', fun b o hb e => hm.heap b o (fun z => ?_) (Heap.get?_push_of_some _ (Heap.get?_push_of_some _ e))⟩
          rcases List.mem_cons.mp z with z | z
          · exact Nat.ne_of_lt hb z
          · have z := List.mem_singleton.mp z
            rw [szp] at z
            exact Nat.ne_of_lt (Nat.lt_succ_of_lt hb) z
      · cases r₂ with
        | error e => exact hr₂
        | ok fl₂ =>
          cases fl₂ with
          | ret r =>
            obtain ⟨rfl, h', tk, rfl, hS', hk'⟩ := hr₂
            repeat (any_goals (first | assumption | wp_step))
            exact h _ _ hS' hk'
          | _ => exact hr₂.elim
    | _ => exact hr.elim
end

end GS

-- part Rules2
set_option Elab.async false
set_option linter.all false
set_option maxRecDepth 100000
set_option maxHeartbeats 4000000
namespace GS
open PySem PySem.Spec PyProof.Rows L2 SS
section
variable {X : Cx}
/-- a list or a tuple of texts -/
def TxL (K : PySem.W.Frag) (H : Hp) (a : Addr) (xs : List Str) : Prop := SqL K H a (xs.map V.str) ∨ SqT K H a (xs.map V.str)
def tLenSetS (K : PySem.W.Frag) (ta : TE) : TE := fun σ H Q => ta σ H fun x H1 => ∃ l, ∃ xs : List Str, x = .ref l ∧ TxL K H1 l xs ∧ xs.length ≤ 4000 ∧ Q (.int ((dis xs).length : Nat)) H1
theorem pe_lenSetS {a : Expr} {ta : TE} {p p2 q pos : Pos} (hc : X.calm = true) (hm : X.mg "len" = none) (hm2 : X.mg "set" = none) (ha : PE X a ta) (hg : Gl X "len" := by rfl) (hg2 : Gl X "set" := by rfl)
    (na : starEach [a] X.env = (false, eval a X.env) :: starEach [] X.env := by rfl) : PE X (.Call (.Name "len" p) [.Call (.Name "set" p2) [a] [] q] [] pos) (tLenSetS X.K ta) := by
  refine ⟨fun pins s σ H Q I h => ?_⟩
  refine Call_ (ld_blt I hg hm boot_len (PyProof.Rows.callWith_builtin1 (PyProof.Rows.args_cons ?_ rfl) rfl rfl))
  refine Call_ (ld_blt I hg2 hm2 boot_set ?_)
  refine PyProof.Rows.callWith_type1 (PyProof.Rows.args_cons (thn (ha.run pins s σ H _ I h) fun v s1 ⟨x, H1, I1, r1, q1⟩ => PyProof.Rows.args_nil ?_) na) na rfl
  obtain ⟨l, xs, rfl, hq, h1, q1⟩ := q1
  cases r1
  have lim : xs.length + 1 < scanBound := by unfold scanBound; omega
  have le := dis_len xs
  have fin : ∀ (h' : Heap) (tk : Nat), h'.SetOf (PySem.strKind X.prog X.w) s1.heap.objs.size (fun y => xs.any (· == y)) (dis xs).length → (∀ b o, b < s1.heap.objs.size → s1.heap.get? b = some o → h'.get? b = some o) →
      wpAny (model X.prog X.w) X.A (spliced (backTo pos (starEach [] X.env))) (fun vs s₂ => wpAny (model X.prog X.w) X.A (call (.builtin "len") (Value.ref s1.heap.objs.size :: vs)) (EP X pins σ Q) X.xe s₂) X.xe { s1 with heap := h', toks := tk } := fun h' tk hS hk => by
    refine PyProof.Rows.args_nil ?_
    obtain ⟨o, es, ep, t, ho, hex, hd, _, _, _, hf, hn⟩ := hS
    have I2 : Inv X pins σ H1 { s1 with heap := h', toks := tk } := I1.kept fun b o e => hk b o (Heap.lt_size e) e
    exact call_len_set ho hex hd hf (by rw [hn]; omega) ⟨.int ((dis xs).length : Nat), H1, I2.tok _, ⟨_, by rw [hn]⟩, q1⟩
  rcases hq with hq | hq
  · obtain ⟨its, r, pl, hz⟩ := I1.list hq
    exact call_set_list (I1.ok.hd hc) pl.isList (by simpa using strsAre_of r) lim fin
  · obtain ⟨its, r, pl, hz⟩ := I1.tuple hq
    exact call_set_tuple (I1.ok.hd hc) pl (by simpa using strsAre_of r) lim fin
/-- a written dict with text keys: is the key there -/
def KHas (K : PySem.W.Frag) (w : World) (a : Addr) (z : Str) (b : Bool) : Prop := ∃ es n o, K.lookup a = some ⟨.type "dict", none, .dict es n, #[]⟩ ∧ PySem.W.KeysLit w.params es.toList ∧ (a == sysModules) = false ∧ PySem.W.nsIn K a z = some o ∧ b = o.isSome
def rInK (K : PySem.W.Frag) (w : World) : R2 := fun x y H Q => ∃ p z b, x = .str z ∧ y = .ref p ∧ KHas K w p z b ∧ Q (.bl b) H
def rNotInK (K : PySem.W.Frag) (w : World) : R2 := fun x y H Q => ∃ p z b, x = .str z ∧ y = .ref p ∧ KHas K w p z b ∧ Q (.bl (!b)) H
theorem op_inK : OpR X (compareOp .In) (rInK X.K X.w) := by
  intro pins s σ H x y v u Q I rx ry h
  obtain ⟨p, z, b, rfl, rfl, ⟨es, n, o, hl, hk, hs, hn, rfl⟩, q⟩ := h
  obtain ⟨t, rfl⟩ := rx
  obtain rfl : u = Value.ref p := ry
  have hm := PySem.W.mapOf_K (prog := X.prog) (w := X.w) I.kIn hl hk
  refine wpAny_in_of (strKind_is X.prog X.w z t) hs hm ?_
  rw [PySem.W.find_K hl hn]
  exact ⟨.bl _, H, I.tok _, rfl, q⟩
theorem op_notInK : OpR X (compareOp .NotIn) (rNotInK X.K X.w) := by
  intro pins s σ H x y v u Q I rx ry h
  obtain ⟨p, z, b, rfl, rfl, ⟨es, n, o, hl, hk, hs, hn, rfl⟩, q⟩ := h
  obtain ⟨t, rfl⟩ := rx
  obtain rfl : u = Value.ref p := ry
  have hm := PySem.W.mapOf_K (prog := X.prog) (w := X.w) I.kIn hl hk
  refine wpAny_notIn_of (strKind_is X.prog X.w z t) hs hm ?_
  rw [PySem.W.find_K hl hn]
  exact ⟨.bl _, H, I.tok _, rfl, q⟩
/-- * of two factors of together less than a hundred million bits -/
def CMulB (i j : Int) : Prop := i.natAbs.log2 + j.natAbs.log2 < 100000000
theorem CMulB.ok {i j : Int} (h : CMulB i j) : IntMulOk i j := by
  have b : ∀ x : Int, Builtin.Int.intBits x ≤ x.natAbs.log2 + 1 := fun x => by
    unfold Builtin.Int.intBits
    split <;> omega
  have h1 := b i
  have h2 := b j
  have h3 : i.natAbs.log2 + j.natAbs.log2 < 100000000 := h
  have e : bitsLine = 134217728 := by decide
  unfold IntMulOk
  intro z
  rw [Bool.and_eq_true] at z
  have z2 := z.2
  unfold Builtin.Int.intTooBig at z2
  have z3 := of_decide_eq_true z2
  rw [e] at z3
  omega
theorem op_mulB : OpR X (binaryOp .Mult) (rI CMulB fun i j => .int (i * j)) := opI fun _ _ _ _ _ _ _ hc q => mul_int q hc.ok
end
section
variable {P : Program} {w : World} {K : PySem.W.Frag} {mg : Str → Option Value} {base : Heap} {x qual : Str} {params : Arguments} {body : List Stmt} {scope : Scope} {dvs : List V} {kws : List (Str × V)} {f : Addr} {fd : FuncData}
/-- FunD.ok where the body asks for the def's own code object -/
theorem okC {CX : CXT} {N ps : List Str} {k : Nat} {sp : Sp} {c : Addr} (F : FunD K x qual params body scope dvs kws f fd) (hc : fd.code = .ref c) (S : FnScope N ps scope) (len : ∀ vs H Q E, sp vs H Q E → vs.length = ps.length)
    (hbody : ∀ (A : Around) (outer : List Env) (s : Shared) (H : Hp) (vs : List V) (Q : VK) (E : XK), Room k (A.deeper (envOfC qual scope s.heap.objs.size f (.ref c))) → sp vs H Q E →
      ∃ t, PSs (cxOf CX P w K mg base N qual scope f (.ref c) A outer s H E) body t ∧ t { nx := fun _ H' => Q .non H', rt := Q } (start N vs) H) : FnOk P w K mg base CX (k + 1) f fd ps sp := by
  obtain ⟨oc, od, dV, kV, doc, pm, an, cdv, ct, osl, rfl, lk, hcd, _, _⟩ := F.ex
  have e : cdv = .ref c := hc
  subst e
  exact fn_of lk hcd S len fun A outer s H vs Q E hr hsp => hbody A outer s H vs Q E hr hsp
/-- the code object by the head's way to it -/
theorem codeOf_at {p : Str × Option Str} (F : FunD K x qual params body scope dvs kws (He.fAd K p) fd) : fd.code = .ref (He.codeOf K p) := by
  obtain ⟨oc, od, dV, kV, doc, pm, an, cdv, ct, osl, rfl, lk, hcd, _, _⟩ := F.ex
  show cdv = .ref (He.codeOf K p)
  cases cdv with
  | ref c => rw [He.codeOf_eq lk (c := c) rfl]
  | _ => cases hcd
end
end GS

-- part HdHook
set_option Elab.async false
set_option linter.all false
set_option maxRecDepth 100000
set_option maxHeartbeats 2000000
/-! a Hook that tells the getters of properties too -/
namespace Hd
open PySem PySem.Spec PyProof.Rows L2 He
/-- a property's object, its getter -/
def prpA (K : PySem.W.Frag) (C f : Str) : Addr := ma K (ga K C) f
def gtrA (K : PySem.W.Frag) (C f : Str) : Addr := match PySem.W.recIn K (prpA K C f) "property" with
  | some (.ref g :: _) => g
  | _ => 0
structure PrD where
  cls : Str
  f : Str
  name : Str
  qual : Str
  params : Arguments
  body : List Stmt
  scope : Scope
def PrD.val (d : PrD) : FnW := some (d.name, d.qual, d.params, .stmts d.body, d.scope, mainGlobals, [], builtinsNs)
def fnP (K : PySem.W.Frag) (a : Addr) : FnW := match K.lookup a with
  | some ⟨_, _, .func fd, _⟩ => some (fd.name, fd.qualname, fd.params, fd.body, fd.scope, fd.globals, fd.closure, fd.builtins)
  | _ => none
def PrD.ok (K : PySem.W.Frag) (d : PrD) : Bool := PySem.W.keepIn K (.ref (gtrA K d.cls d.f)) && (eqO (PySem.W.findIn K (.ref (ga K d.cls)) d.f) (some (some (.ref (prpA K d.cls d.f)))) &&
  (decide (PySem.W.specialIn K (.ref (prpA K d.cls d.f)) "__get__" = some (some (.builtin "property.__get__"))) && (decide (PySem.W.takesIn K (.ref (prpA K d.cls d.f)) = some true) &&
  ((match PySem.W.recIn K (prpA K d.cls d.f) "property" with
    | some (.ref g :: _) => true
    | _ => false) &&
  (match K.lookup (gtrA K d.cls d.f) with
    | some ⟨_, _, .func fd, _⟩ => PySem.W.codeIn K fd.code d.qual && (decide (fd.defaults = .none) && decide (fd.kwdefaults = .none))
    | _ => false)))))
theorem PrD.prop {K : PySem.W.Frag} {d : PrD} (c : d.ok K = true) : PropOf K (ga K d.cls) d.f (prpA K d.cls d.f) (gtrA K d.cls d.f) := by
  obtain ⟨c1, c⟩ := ba c
  obtain ⟨c2, c⟩ := ba c
  obtain ⟨c3, c⟩ := ba c
  obtain ⟨c4, c⟩ := ba c
  obtain ⟨c5, c6⟩ := ba c
  refine ⟨eqO_ok c2, of_decide_eq_true c3, of_decide_eq_true c4, ?_⟩
  unfold gtrA
  split at c5
  · rename_i g r e
    rw [e]
    exact ⟨r, rfl⟩
  · cases c5
theorem PrD.funD {K : PySem.W.Frag} {d : PrD} (e : fnP K (gtrA K d.cls d.f) = d.val) (c : d.ok K = true) : ∃ fd, FunD K d.name d.qual d.params d.body d.scope [] [] (gtrA K d.cls d.f) fd := by
  obtain ⟨c1, c⟩ := ba c
  obtain ⟨c2, c⟩ := ba c
  obtain ⟨c3, c⟩ := ba c
  obtain ⟨c4, c⟩ := ba c
  obtain ⟨c5, c6⟩ := ba c
  unfold fnP at e
  cases q : K.lookup (gtrA K d.cls d.f) with
  | none =>
    rw [q] at c6
    cases c6
  | some o =>
    obtain ⟨oc, od, dt, osl⟩ := o
    rw [q] at c6 e
    cases dt with
    | func fd =>
      obtain ⟨n1, n2, n3, n4, n5, n6, n7, n8, n9, n10, n11, n12, n13, n14, n15⟩ := fd
      have e2 : (some (n1, n2, n3, n4, n5, n6, n7, n15) : FnW) = some (d.name, d.qual, d.params, .stmts d.body, d.scope, mainGlobals, [], builtinsNs) := e
      simp only [Option.some.injEq, Prod.mk.injEq] at e2
      obtain ⟨h1, h2, h3, h4, h5, h6, h7, h9⟩ := e2
      obtain ⟨z1, z2⟩ := ba c6
      obtain ⟨z3, z4⟩ := ba z2
      have y3 : n8 = .none := of_decide_eq_true z3
      have y4 : n9 = .none := of_decide_eq_true z4
      subst h1 h2 h3 h4 h5 h6 h7 h9
      subst y3
      subst y4
      exact ⟨_, ⟨oc, od, .none, .none, n10, n11, n12, n13, n14, osl, rfl, q, z1, .inl ⟨rfl, rfl⟩, .inl rfl⟩, c1⟩
    | _ => cases c6

abbrev AlP : Type := AlX × List FnW
def obsP (n : Nat) (fa : List Fa) (fn : List DefD) (ts : List Tab) (tf : List Defn) (ex : PySem.W.Frag → Bool) (ps : List PrD) (g : Addr → Option Obj) : AlP :=
  (obsX n fa fn ts tf (fun K => ex K && ps.all fun d => d.ok K) g, ps.map fun d => fnP (frT g (asD g n)) (gtrA (frT g (asD g n)) d.cls d.f))
def valP (fn : List DefD) (ts : List Tab) (ps : List PrD) (w : World) : AlP := (valX fn ts w, ps.map PrD.val)
structure SaysP (fa : List Fa) (fn : List DefD) (ts : List Tab) (tf : List Defn) (ex : PySem.W.Frag → Bool) (ps : List PrD) (w : World) (h : Heap) (K : PySem.W.Frag) : Prop where
  x : SaysX fa fn ts tf (fun K => ex K && ps.all fun d => d.ok K) w h K
  p : ps.map (fun d => fnP K (gtrA K d.cls d.f)) = ps.map PrD.val
def hookP (n : Nat) (fa : List Fa) (fn : List DefD) (ts : List Tab) (tf : List Defn) (ex : PySem.W.Frag → Bool) (ps : List PrD) : PySem.W.Hook where
  α := AlP
  obs := fun s => obsP n fa fn ts tf ex ps s.heap.get?
  val := fun w => valP fn ts ps w
  says := fun w h => ∃ K : PySem.W.Frag, K.In h ∧ SaysP fa fn ts tf ex ps w h K
  of := fun _ _ e => ⟨_, frT_in, saysX_of (congrArg (fun z : AlP => z.1) e), congrArg (fun z : AlP => z.2) e⟩
  keeps := fun _ _ _ ⟨K, hK, c⟩ k => ⟨K, PySem.W.Frag.In.keeps hK k, ⟨c.x.t, c.x.more, c.x.hd, c.x.out, fun p hp => k _ _ (c.x.empty p hp)⟩, c.p⟩
theorem obsP_eq {n : Nat} {fa : List Fa} {fn : List DefD} {ts : List Tab} {tf : List Defn} {ex : PySem.W.Frag → Bool} {ps : List PrD} {g : Addr → Option Obj} {s : Shared} (h : ∀ a, g a = s.heap.get? a) : obsP n fa fn ts tf ex ps g = (hookP n fa fn ts tf ex ps).obs s := by
  have e : g = s.heap.get? := funext h
  rw [e] <;> rfl
section
variable {fa : List Fa} {fn : List DefD} {ts : List Tab} {tf : List Defn} {ex : PySem.W.Frag → Bool} {ps : List PrD} {w : World} {h : Heap} {K : PySem.W.Frag}
theorem SaysP.exB (c : SaysP fa fn ts tf ex ps w h K) : ex K = true := (ba c.x.more).1
theorem SaysP.pr (c : SaysP fa fn ts tf ex ps w h K) (i : Nat) {d : PrD} (e : ps[i]? = some d := by rfl) : PropOf K (ga K d.cls) d.f (prpA K d.cls d.f) (gtrA K d.cls d.f) ∧ ∃ fd, FunD K d.name d.qual d.params d.body d.scope [] [] (gtrA K d.cls d.f) fd := by
  have ok : d.ok K = true := List.all_eq_true.mp (ba c.x.more).2 d (List.mem_of_getElem? e)
  have e2 : (ps.map fun d => fnP K (gtrA K d.cls d.f))[i]? = (ps.map PrD.val)[i]? := by rw [c.p]
  rw [List.getElem?_map, List.getElem?_map, e] at e2
  exact ⟨PrD.prop ok, PrD.funD (Option.some.inj e2) ok⟩
end
/-- a keyword-only default that is an object -/
def kwAt (p : Str × Option Str) (x : Str) (K : PySem.W.Frag) : Addr := match K.lookup (fAd K p) with
  | some ⟨_, _, .func fd, _⟩ => (match fd.kwdefaults with
    | .ref D => (match PySem.W.nsIn K D x with
      | some (some (.ref a)) => a
      | _ => 0)
    | _ => 0)
  | _ => 0
/-- an empty tuple of the top -/
def emptyB (K : PySem.W.Frag) (a : Addr) : Bool := match K.lookup a with
  | some ⟨.type c, none, .seq its _, sl⟩ => decide (c = "tuple") && (its.isEmpty && sl.isEmpty)
  | _ => false
end Hd

-- part Data
set_option Elab.async false
set_option linter.all false
set_option maxRecDepth 100000
set_option maxHeartbeats 2000000
/-! heaps that grow, lists of texts -/
namespace GD
open PySem PySem.Spec PyProof.Rows L2 GxR GS GA
theorem ifT {c : Bool} {A B : Prop} (hc : c = true) (h : A) : if c = true then A else B := by rw [if_pos hc]; exact h
theorem ifF {c : Bool} {A B : Prop} (hc : c = false) (h : B) : if c = true then A else B := by rw [hc, if_neg Bool.false_ne_true]; exact h
/-- all that is tracked stands; tables may have grown -/
structure Sm (H H' : Hp) : Prop where
  st : ∀ b o, H b = some o → (∀ ps, o ≠ .tbl ps) → H' b = some o
  tb : ∀ P, TabG H P → TabG H' P
  fr : ∀ b, H' b = none → H b = none
theorem Sm.refl {H : Hp} : Sm H H := ⟨fun _ _ e _ => e, fun _ t => t, fun _ e => e⟩
theorem Sm.trans {H1 H2 H3 : Hp} (a : Sm H1 H2) (b : Sm H2 H3) : Sm H1 H3 := ⟨fun x o e n => b.st x o (a.st x o e n) n, fun P t => b.tb P (a.tb P t), fun x e => a.fr x (b.fr x e)⟩
theorem Sm.new {H : Hp} {d : Addr} {o : HO} (h : H d = none) : Sm H (upd H d o) := by
  refine ⟨fun b u e _ => ?_, fun P ⟨ps, e, t⟩ => ⟨ps, ?_, t⟩, fun b e => ?_⟩
  · rw [upd_ne (ne_of_none e h)]; exact e
  · rw [upd_ne (ne_of_none e h)]; exact e
  · by_cases hb : b = d
    · rw [hb, upd_same] at e; cases e
    · rw [upd_ne hb] at e; exact e
theorem Sm.tab {H H' : Hp} {P : Addr} (hP : TabG H P) (t : Tabbed P H H') : Sm H H' := by
  refine ⟨fun b o e n => ?_, fun Q q => ?_, fun b e => ?_⟩
  · by_cases hb : b = P
    · obtain ⟨ps, e2, _⟩ := hP
      rw [hb, e2] at e; cases e
      exact absurd rfl (n ps)
    · rw [t.2 b hb]; exact e
  · by_cases hb : Q = P
    · rw [hb]; exact t.1
    · obtain ⟨ps, e, z⟩ := q
      exact ⟨ps, (t.2 Q hb).trans e, z⟩
  · by_cases hb : b = P
    · obtain ⟨ps, e2, _⟩ := t.1
      rw [hb, e2] at e; cases e
    · rw [← t.2 b hb]; exact e
/-- an object of one's own, younger than H0, is written -/
theorem Sm.own {H0 H : Hp} {d : Addr} {o : HO} (a : Sm H0 H) (h : H0 d = none) (n : ∀ P, TabG H P → P ≠ d) : Sm H0 (upd H d o) := by
  refine ⟨fun b u e z => ?_, fun P t => ?_, fun b e => ?_⟩
  · rw [upd_ne (ne_of_none e h)]; exact a.st b u e z
  · obtain ⟨ps, e, t2⟩ := a.tb P t
    exact ⟨ps, by rw [upd_ne (n P ⟨ps, e, t2⟩)]; exact e, t2⟩
  · by_cases hb : b = d
    · rw [hb, upd_same] at e; cases e
    · rw [upd_ne hb] at e; exact a.fr b e
theorem tabG_ne {H : Hp} {P d : Addr} {o : HO} (t : TabG H P) (e : H d = some o) (n : ∀ ps, o ≠ .tbl ps) : P ≠ d := fun z => by
  obtain ⟨ps, e2, _⟩ := t
  rw [z, e] at e2; cases e2
  exact n ps rfl
section
variable {K : PySem.W.Frag} {H H' : Hp} {a : Addr} {xs : List V} {ss : List Str}
theorem Sm.lst (s : Sm H H') (h : SqL K H a xs) : SqL K H' a xs := by
  rcases h with (h | ⟨o, h⟩) | h
  · exact .inl (.inl (s.st a _ h fun _ z => by cases z))
  · exact .inl (.inr ⟨o, s.st a _ h fun _ z => by cases z⟩)
  · exact .inr h
theorem Sm.tup (s : Sm H H') (h : SqT K H a xs) : SqT K H' a xs := by
  rcases h with (h | ⟨o, h⟩) | h
  · exact .inl (.inl (s.st a _ h fun _ z => by cases z))
  · exact .inl (.inr ⟨o, s.st a _ h fun _ z => by cases z⟩)
  · exact .inr h
theorem Sm.txl (s : Sm H H') (h : TxL K H a ss) : TxL K H' a ss := h.elim (fun z => .inl (s.lst z)) fun z => .inr (s.tup z)
end
/-- a list or a tuple of anything -/
def Sq (K : PySem.W.Frag) (H : Hp) (a : Addr) (xs : List V) : Prop := SqL K H a xs ∨ SqT K H a xs
theorem Sm.sq {K : PySem.W.Frag} {H H' : Hp} {a : Addr} {xs : List V} (s : Sm H H') (h : Sq K H a xs) : Sq K H' a xs := h.elim (fun z => .inl (s.lst z)) fun z => .inr (s.tup z)
theorem TxL.sq {K : PySem.W.Frag} {H : Hp} {a : Addr} {ss : List Str} (h : TxL K H a ss) : Sq K H a (ss.map V.str) := h

/-! ### walks over what is a list or a tuple -/
section
variable {X : Cx} {l : Expr} {tl : TE} {tg : Expr}
/-- over a list or a tuple: the reading is told for both -/
def iSq (K : PySem.W.Frag) (tl : TE) : TI := fun σ H R => tl σ H fun x H1 => ∃ a, x = .ref a ∧ ((∃ xs, SqL K H1 a xs) ∧ R (Itl K a) H1 ∨ (∃ xs, SqT K H1 a xs) ∧ R (Itt K a) H1)
theorem pi_sq (hl : PE X l tl) : PI X tg l (iSq X.K tl) := by
  refine ⟨fun pins s σ H R I h => ?_⟩
  -- by the value's own kind
  have h1 : wpAny (model X.prog X.w) X.A (eval l X.env) (fun v s1 => ∃ H1, Inv X pins σ H1 s1 ∧ ∃ a, v = Value.ref a ∧ ((∃ xs, SqL X.K H1 a xs) ∧ R (Itl X.K a) H1 ∨ (∃ xs, SqT X.K H1 a xs) ∧ R (Itt X.K a) H1)) X.xe s :=
    thn (hl.run pins s σ H _ I h) fun v s1 ⟨x, H1, I1, r1, a, e, q⟩ => by
      subst e
      exact ⟨H1, I1, a, r1, q⟩
  refine thn h1 fun v s1 ⟨H1, I1, a, ev, q⟩ => ?_
  subst ev
  rcases q with ⟨⟨xs, hq⟩, q⟩ | ⟨⟨xs, hq⟩, q⟩
  · obtain ⟨its, rv, p, hz⟩ := I1.list hq
    refine wpAny_pyIter_list p.isList ?_
    refine ⟨s1.heap.objs.size, [s1.heap.objs.size], _, _, H1, rfl, I1.kept (t' := s1.toks) fun b o e => Heap.get?_push_of_some _ e, turn_list a _, ⟨_, Heap.get?_push_size _ rfl, rfl, rfl⟩, fun b hb => ?_, q⟩
    rw [List.mem_singleton.mp hb]
    exact I1.fpOk (Nat.le_refl _) (I1.hok.fresh (Nat.le_refl _))
  · obtain ⟨its, rv, p, hz⟩ := I1.tuple hq
    refine wpAny_pyIter_tuple (show s1.heap.IsTuple a its.toArray from p) ?_
    refine ⟨s1.heap.objs.size, [s1.heap.objs.size], _, _, H1, rfl, I1.kept (t' := s1.toks) fun b o e => Heap.get?_push_of_some _ e, turn_tuple a _, ⟨_, Heap.get?_push_size _ rfl, rfl, rfl⟩, fun b hb => ?_, q⟩
    rw [List.mem_singleton.mp hb]
    exact I1.fpOk (Nat.le_refl _) (I1.hok.fresh (Nat.le_refl _))
end
/-- a reading over iSq from one over any walk -/
theorem iSq_of {K : PySem.W.Frag} {a : Addr} {xs : List V} {H : Hp} {R : It → Hp → Prop} (h : Sq K H a xs) (hR : ∀ (J : It) (G : Hp → Prop), Walk J xs.length G (YAt xs) → (∀ H', Sm H H' → G H') → R J H) :
    (∃ xs, SqL K H a xs) ∧ R (Itl K a) H ∨ (∃ xs, SqT K H a xs) ∧ R (Itt K a) H := by
  rcases h with h | h
  · exact .inl ⟨⟨xs, h⟩, hR _ _ walk_list fun H' s => s.lst h⟩
  · exact .inr ⟨⟨xs, h⟩, hR _ _ walk_tup fun H' s => s.tup h⟩
/-- the reading of all, any over a walk: Pv by the turn and the heap -/
theorem gen_it {J : It} {n : Nat} {G : Hp → Prop} {Y : Nat → Hp → V → Hp → Prop} (w : Walk J n G Y) {d : Bool} {P : Addr} {g : TG} {te : TE} {vs : List Nat} {σ : L2.St} {H1 : Hp} {Q : VK} (ht : TabG H1 P) (Pv : Nat → Hp → Prop) (h0 : ∀ H2, Tabbed P H1 H2 → Pv 0 H2)
    (hG : ∀ i H, i ≤ n → Pv i H → G H) (hs : ∀ i x H H', i < n → Pv i H → Y i H x H' → g x (wipe σ vs) H' fun σ2 H3 => wipe σ2 vs = wipe σ vs ∧ te σ2 H3 fun y H4 => ∃ b, y = .bl b ∧ (b = d → Q (.bl d) H4) ∧ (b ≠ d → Pv (i + 1) H4))
    (hd : ∀ H, Pv n H → Q (.bl (!d)) H) : TabG H1 P ∧ ∀ H2, Tabbed P H1 H2 → ∃ W : Nat → Nat → Hp → Prop, (∃ m, W 0 m H2) ∧ ∀ i m H, W i m H →
    (J.stop i H ∧ Q (.bl (!d)) H) ∨ (J.go i H ∧ ∃ Nx : Hp → Prop, (∀ H', Nx H' → ∃ m', m' < m ∧ W (i + 1) m' H') ∧
      ∀ x H', J.yld i H x H' → g x (wipe σ vs) H' fun σ2 H3 => wipe σ2 vs = wipe σ vs ∧ te σ2 H3 fun y H4 => ∃ b, y = .bl b ∧ (b = d → Q (.bl d) H4) ∧ (b ≠ d → Nx H4)) := by
  refine ⟨ht, fun H2 t => ⟨fun i m H => m = n - i ∧ i ≤ n ∧ Pv i H, ⟨n, by simp, Nat.zero_le _, h0 H2 t⟩, ?_⟩⟩
  rintro i m H ⟨rfl, hi, p⟩
  have q := hG i H hi p
  by_cases hlt : i < n
  · exact .inr ⟨w.goes i H hlt q, Pv (i + 1), fun H' p' => ⟨n - (i + 1), by omega, rfl, hlt, p'⟩, fun x H' y => hs i x H H' hlt p (w.yields i H x H' hlt q y)⟩
  · obtain rfl : i = n := by omega
    exact .inl ⟨w.stops H q, hd H p⟩
theorem wipe_set (σ : L2.St) (i : Nat) (x : Option V) : wipe ((wipe σ [i]).set i x) [i] = wipe σ [i] := by
  show ((σ.set i none).set i x).set i none = σ.set i none
  rw [List.set_set, List.set_set]
/-- all(f(x) for x in xs), any(..), xs what a walk gives -/
theorem rd_genW (d : Bool) {J : It} {G : Hp → Prop} {xs : List V} (w : Walk J xs.length G (YAt xs)) {f : V → Bool} {P : Addr} {te : TE} {i : Nat} {σ : L2.St} {H : Hp} {Q : VK} (ht : TabG H P) (hG : ∀ H', Sm H H' → G H')
    (hel : ∀ x H' (R : VK), x ∈ xs → Sm H H' → (∀ H'', Sm H H'' → R (.bl (f x)) H'') → te ((wipe σ [i]).set i (some x)) H' R) (hq : ∀ H', Sm H H' → Q (.bl (if d then xs.any f else xs.all f)) H') :
    TabG H P ∧ ∀ H2, Tabbed P H H2 → ∃ W : Nat → Nat → Hp → Prop, (∃ m, W 0 m H2) ∧ ∀ k m H, W k m H →
    (J.stop k H ∧ Q (.bl (!d)) H) ∨ (J.go k H ∧ ∃ Nx : Hp → Prop, (∀ H', Nx H' → ∃ m', m' < m ∧ W (k + 1) m' H') ∧
      ∀ x H', J.yld k H x H' → gName i x (wipe σ [i]) H' fun σ2 H3 => wipe σ2 [i] = wipe σ [i] ∧ te σ2 H3 fun y H4 => ∃ b, y = .bl b ∧ (b = d → Q (.bl d) H4) ∧ (b ≠ d → Nx H4)) := by
  refine gen_it w ht (fun k H' => Sm H H' ∧ ∀ x ∈ xs.take k, f x ≠ d) (fun H2 t => ⟨Sm.tab ht t, by simp⟩) (fun k H' _ p => hG H' p.1) (fun k x H' H'' hk p y => ?_) fun H' p => ?_
  · obtain ⟨rfl, hx⟩ := y
    have hm : x ∈ xs := List.mem_of_getElem? hx
    refine ⟨wipe_set σ i (some x), hel x H'' _ hm p.1 fun H3 s3 => ⟨f x, rfl, fun e => ?_, fun e => ⟨s3, fun y hy => ?_⟩⟩⟩
    · have q := hq H3 s3
      cases d with
      | true =>
        have : xs.any f = true := List.any_eq_true.mpr ⟨x, hm, e⟩
        simpa [this] using q
      | false =>
        have : xs.all f = false := by
          rw [List.all_eq_false]
          exact ⟨x, hm, by simp [e]⟩
        simpa [this] using q
    · rw [List.take_add_one, hx] at hy
      rcases List.mem_append.mp hy with hy | hy
      · exact p.2 y hy
      · have : y = x := by simpa using hy
        rw [this]; exact e
  · have q := hq H' p.1
    rw [List.take_length] at p
    cases d with
    | true =>
      have : xs.any f = false := by
        rw [List.any_eq_false]
        exact fun x hx => p.2 x hx
      simpa [this] using q
    | false =>
      have : xs.all f = true := by
        rw [List.all_eq_true]
        exact fun x hx => by simpa using p.2 x hx
      simpa [this] using q
/-- .. over a list or a tuple in hand -/
theorem rd_gen (d : Bool) {K : PySem.W.Frag} {a : Addr} {xs : List V} {f : V → Bool} {P : Addr} {te : TE} {i : Nat} {σ : L2.St} {H : Hp} {Q : VK} (h : Sq K H a xs) (ht : TabG H P)
    (hel : ∀ x H' (R : VK), x ∈ xs → Sm H H' → (∀ H'', Sm H H'' → R (.bl (f x)) H'') → te ((wipe σ [i]).set i (some x)) H' R) (hq : ∀ H', Sm H H' → Q (.bl (if d then xs.any f else xs.all f)) H') {tl : TE}
    (htl : ∀ R : VK, R (.ref a) H → tl σ H R) : tGen d P (iSq K tl) (gName i) te [i] σ H Q := by
  unfold tGen
  refine htl _ ⟨a, rfl, ?_⟩
  rcases h with h | h
  · exact .inl ⟨⟨xs, h⟩, rd_genW d walk_list ht (fun H' s => s.lst h) hel hq⟩
  · exact .inr ⟨⟨xs, h⟩, rd_genW d walk_tup ht (fun H' s => s.tup h) hel hq⟩
/-- .. over a text's signs -/
theorem rd_genS (d : Bool) {z : Str} {f : V → Bool} {P : Addr} {te : TE} {i : Nat} {σ : L2.St} {H : Hp} {Q : VK} (ht : TabG H P)
    (hel : ∀ x H' (R : VK), x ∈ z.cps.toList.map (fun c => V.str ⟨#[c]⟩) → Sm H H' → (∀ H'', Sm H H'' → R (.bl (f x)) H'') → te ((wipe σ [i]).set i (some x)) H' R)
    (hq : ∀ H', Sm H H' → Q (.bl (if d then (z.cps.toList.map fun c => V.str ⟨#[c]⟩).any f else (z.cps.toList.map fun c => V.str ⟨#[c]⟩).all f)) H') {tl : TE} (htl : ∀ R : VK, R (.str z) H → tl σ H R) : tGen d P (iStr tl) (gName i) te [i] σ H Q := by
  unfold tGen
  refine htl _ ⟨z, rfl, ?_⟩
  have w : Walk (Its z) (z.cps.toList.map fun c => V.str ⟨#[c]⟩).length (fun _ => True) (YAt (z.cps.toList.map fun c => V.str ⟨#[c]⟩)) := by
    have w0 := walk_str (z := z)
    rw [List.length_map, Array.length_toList]
    exact w0.mono (fun _ _ => trivial) fun k H v H' _ _ y => ⟨y.1, by
      obtain ⟨c, hc, rfl⟩ := y.2
      rw [List.getElem?_map, Array.getElem?_toList, hc]; rfl⟩
  exact rd_genW d w ht (fun _ _ => trivial) hel hq

/-- [f(x) for x in xs if p(x)], xs what a walk gives -/
theorem rd_lcW {J : It} {G : Hp → Prop} {xs : List V} (w : Walk J xs.length G (YAt xs)) {p : V → Bool} {f : V → V} {tt : TT} {te : TE} {i : Nat} {σ : L2.St} {H : Hp} {Q : VK} (hG : ∀ H', Sm H H' → G H') (hz : xs.length ≤ sizeLine)
    (htt : ∀ x H' (R : Bool → Hp → Prop), x ∈ xs → Sm H H' → (∀ H'', Sm H' H'' → R (p x) H'') → tt ((wipe σ [i]).set i (some x)) H' R)
    (hte : ∀ x H' (R : VK), x ∈ xs → p x = true → Sm H H' → (∀ H'', Sm H' H'' → R (f x) H'') → te ((wipe σ [i]).set i (some x)) H' R)
    (hq : ∀ D H', H D = none → Sm H H' → H' D = some (.lst ((xs.filter p).map f)) → Q (.ref D) H') :
    ∀ D, H D = none → ∃ W : Nat → Nat → Hp → Prop, (∃ m, W 0 m (upd H D (.lst []))) ∧ ∀ k m H, W k m H →
      (J.stop k H ∧ Q (.ref D) H) ∨ (J.go k H ∧ ∃ Nx : Hp → Prop, (∀ H', Nx H' → ∃ m', m' < m ∧ W (k + 1) m' H') ∧ ∀ x H', J.yld k H x H' → gName i x (wipe σ [i]) H' fun σ2 H2 => wipe σ2 [i] = wipe σ [i] ∧ tt σ2 H2 fun b H3 =>
        if b = true then te σ2 H3 fun y H4 => ∃ acc, H4 D = some (.lst acc) ∧ acc.length < sizeLine ∧ Nx (upd H4 D (.lst (acc ++ [y]))) else Nx H3) := by
  intro D hD
  refine lc_it w (Qd := fun H => Q (.ref D) H) (fun k H' => Sm H H' ∧ H' D = some (.lst (((xs.take k).filter p).map f))) ⟨Sm.new hD, upd_same⟩ (fun k H' _ q => hG H' q.1) (fun k x H' H'' hk q y => ?_) fun H' q => ?_
  · obtain ⟨rfl, hx⟩ := y
    have hm : x ∈ xs := List.mem_of_getElem? hx
    have tk : xs.take (k + 1) = xs.take k ++ [x] := by rw [List.take_add_one, hx]; rfl
    refine ⟨wipe_set σ i (some x), htt x H'' _ hm q.1 fun H3 s3 => ?_⟩
    have q3 : H3 D = some (.lst (((xs.take k).filter p).map f)) := s3.st D _ q.2 fun _ z => by cases z
    cases hp : p x with
    | false =>
      refine ifF rfl ⟨q.1.trans s3, ?_⟩
      rw [tk, List.filter_append, List.filter_cons_of_neg (by simp [hp]), List.filter_nil, List.append_nil]
      exact q3
    | true =>
      refine ifT rfl (hte x H3 _ hm hp (q.1.trans s3) fun H4 s4 => ?_)
      have q4 : H4 D = some (.lst (((xs.take k).filter p).map f)) := s4.st D _ q3 fun _ z => by cases z
      refine ⟨_, q4, ?_, Sm.own ((q.1.trans s3).trans s4) hD (fun P t => tabG_ne t q4 fun _ z => by cases z), ?_⟩
      · rw [List.length_map]
        have h1 := List.length_filter_le p (xs.take k)
        rw [List.length_take] at h1
        omega
      · rw [tk, List.filter_append, List.filter_cons_of_pos hp, List.filter_nil, List.map_append]
        exact upd_same
  · have q2 := q.2
    rw [List.take_length] at q2
    exact hq D H' hD q.1 q2
/-- a comprehension's reading, kept shut -/
@[irreducible] def tLcI (wi : TI) (g : TG) (tt : TT) (te : TE) (vs : List Nat) : TE := tLc wi g tt te vs
theorem pe_lcI {X : Cx} {elt tg iter : Expr} {ifs : List Expr} {scope : Scope} {own : List (Str × Nat)} {pos : Pos} {wi : TI} {g : TG} {tt : TT} {te : TE} (hc : X.calm = true) (hN : X.N.Nodup) (hi : PI X tg iter wi) (ok : BlkOk X.N X.env.scope scope own)
    (hg : ∀ (s : Shared) (H : Hp) (C : Addr) (cl : List (Str × Addr)) (fp : List Addr), PG (X.blk s H scope (compEnvC scope cl C X.env) fp) tg g) (ht : ∀ (s : Shared) (H : Hp) (C : Addr) (cl : List (Str × Addr)) (fp : List Addr), PTs (X.blk s H scope (compEnvC scope cl C X.env) fp) ifs tt)
    (he : ∀ (s : Shared) (H : Hp) (C : Addr) (cl : List (Str × Addr)) (fp : List Addr), PE (X.blk s H scope (compEnvC scope cl C X.env) fp) elt te) (hs : ∀ x, foldedSetIterable iter X.env x = pure x := by intro _; rfl) :
    PE X (.ListComp elt [⟨tg, iter, ifs, 0⟩] scope pos) (tLcI wi g tt te (own.map (·.2))) := by
  unfold tLcI
  exact pe_lc hc hN hi ok hg ht he hs
/-- .. over a list or a tuple in hand -/
theorem rd_lc {K : PySem.W.Frag} {a : Addr} {xs : List V} {p : V → Bool} {f : V → V} {tt : TT} {te : TE} {i : Nat} {σ : L2.St} {H : Hp} {Q : VK} (h : Sq K H a xs) (hz : xs.length ≤ sizeLine)
    (htt : ∀ x H' (R : Bool → Hp → Prop), x ∈ xs → Sm H H' → (∀ H'', Sm H' H'' → R (p x) H'') → tt ((wipe σ [i]).set i (some x)) H' R)
    (hte : ∀ x H' (R : VK), x ∈ xs → p x = true → Sm H H' → (∀ H'', Sm H' H'' → R (f x) H'') → te ((wipe σ [i]).set i (some x)) H' R)
    (hq : ∀ D H', H D = none → Sm H H' → H' D = some (.lst ((xs.filter p).map f)) → Q (.ref D) H') {tl : TE} (htl : ∀ R : VK, R (.ref a) H → tl σ H R) : tLcI (iSq K tl) (gName i) tt te [i] σ H Q := by
  unfold tLcI tLc
  refine htl _ ⟨a, rfl, ?_⟩
  rcases h with h | h
  · exact .inl ⟨⟨xs, h⟩, rd_lcW walk_list (fun H' s => s.lst h) hz htt hte hq⟩
  · exact .inr ⟨⟨xs, h⟩, rd_lcW walk_tup (fun H' s => s.tup h) hz htt hte hq⟩

/-- a for's reading, kept shut -/
@[irreducible] def tForI (wi : TI) (g : TG) (tb : TS) : TS := tFor wi g tb
theorem ps_forI {X : Cx} {tg iter : Expr} {body : List Stmt} {wi : TI} {g : TG} {tb : TS} {pos : Pos} (hp : PassesOwn (model X.prog X.w) X.A X.env X.xe) (hc : X.calm = true) (hi : PI X tg iter wi) (hg : PG X tg g) (hb : PSs X body tb)
    (hs : ∀ x, foldedSetIterable iter X.env x = pure x := by intro _; rfl) : PS X (.For tg iter body [] pos) (tForI wi g tb) := by
  unfold tForI
  exact ps_for hp hc hi hg hb hs
/-- for x in xs, a list or a tuple that stands since H0: Pv by the turn, the slots, the heap -/
theorem rd_for {K : PySem.W.Frag} {a : Addr} {xs : List V} {tb : TS} {D : Ends} {σ : L2.St} {H H0 : Hp} {i : Nat} (h : Sq K H0 a xs) (Pv : Nat → L2.St → Hp → Prop) (h0 : Pv 0 σ H) (hG : ∀ k σ' H', Pv k σ' H' → Sm H0 H')
    (hs : ∀ k x σ' H', xs[k]? = some x → Pv k σ' H' → tb { D with nx := Pv (k + 1), ct := Pv (k + 1), bk := D.nx } (σ'.set i (some x)) H') (hd : ∀ σ' H', Pv xs.length σ' H' → D.nx σ' H') {tl : TE} (htl : ∀ R : VK, R (.ref a) H → tl σ H R) :
    tForI (iSq K tl) (gName i) tb D σ H := by
  unfold tForI tFor
  refine htl _ ⟨a, rfl, ?_⟩
  have s0 := hG 0 σ H h0
  rcases h with h | h
  · exact .inl ⟨⟨xs, s0.lst h⟩, for_it walk_list Pv h0 (fun k σ' H' _ p => (hG k σ' H' p).lst h) (fun k x σ' H' H'' _ p y => by obtain ⟨rfl, hx⟩ := y; exact hs k x σ' H'' hx p) hd⟩
  · exact .inr ⟨⟨xs, s0.tup h⟩, for_it walk_tup Pv h0 (fun k σ' H' _ p => (hG k σ' H' p).tup h) (fun k x σ' H' H'' _ p y => by obtain ⟨rfl, hx⟩ := y; exact hs k x σ' H'' hx p) hd⟩
/-- what an exception that a call lets out becomes in a def that lets it out -/
theorem passX {X : Cx} {E : XK} (tk : Takes X (fun cls d _ H => E cls d H)) : Passes (L2.CX X.prog X.w) X E := passes_call tk fun _ _ _ _ h => h

theorem Paired.get {α β : Type} {F : α → β → Prop} : ∀ {xs : List α} {ys : List β} {i : Nat} {x : α}, Paired F xs ys → xs[i]? = some x → ∃ y, ys[i]? = some y ∧ F x y
  | _, _, _, _, .nil, e => by simp at e
  | _, _, 0, _, .cons r _, e => by simp at e; subst e; exact ⟨_, rfl, r⟩
  | _, _, i + 1, x, .cons _ t, e => by
    obtain ⟨y, h1, h2⟩ := Paired.get (i := i) t (by simpa using e)
    exact ⟨y, by simpa using h1, h2⟩
theorem Paired.mem {α β : Type} {F : α → β → Prop} {xs : List α} {ys : List β} {x : α} (h : Paired F xs ys) (hx : x ∈ xs) : ∃ y, y ∈ ys ∧ F x y := by
  obtain ⟨i, hi⟩ := List.mem_iff_getElem?.mp hx
  obtain ⟨y, e, r⟩ := Paired.get h hi
  exact ⟨y, List.mem_of_getElem? e, r⟩
theorem Paired.snoc {α β : Type} {F : α → β → Prop} : ∀ {xs : List α} {ys : List β} {x : α} {y : β}, Paired F xs ys → F x y → Paired F (xs ++ [x]) (ys ++ [y])
  | _, _, _, _, .nil, r => .cons r .nil
  | _, _, _, _, .cons q t, r => .cons q (Paired.snoc t r)
theorem Paired.imp {α β : Type} {F G : α → β → Prop} (h : ∀ x y, F x y → G x y) : ∀ {xs : List α} {ys : List β}, Paired F xs ys → Paired G xs ys
  | _, _, .nil => .nil
  | _, _, .cons q t => .cons (h _ _ q) (Paired.imp h t)
theorem Paired.len {α β : Type} {F : α → β → Prop} {xs : List α} {ys : List β} (h : Paired F xs ys) : xs.length = ys.length := by
  induction h with
  | nil => rfl
  | cons _ _ ih => rw [List.length_cons, List.length_cons, ih]
/-- tuples and what is locked stand -/
structure Tu (H H' : Hp) : Prop where
  tup : ∀ b xs, H b = some (.tup xs) → H' b = some (.tup xs)
  frz : ∀ b o u, H b = some (.frz o u) → H' b = some (.frz o u)
theorem Sm.tu {H H' : Hp} (s : Sm H H') : Tu H H' := ⟨fun b _ e => s.st b _ e (fun _ z => by cases z), fun b _ _ e => s.st b _ e (fun _ z => by cases z)⟩
theorem Tu.trans {A B C : Hp} (a : Tu A B) (b : Tu B C) : Tu A C := ⟨fun x y e => b.tup x y (a.tup x y e), fun x o u e => b.frz x o u (a.frz x o u e)⟩
theorem Tu.lset {H : Hp} {l : Addr} {xs : List V} {o : HO} (e : H l = some (.lst xs)) : Tu H (upd H l o) :=
  ⟨fun b y q => by rw [upd_ne (ne_of q e (by intro z; cases z))]; exact q, fun b y u q => by rw [upd_ne (ne_of q e (by intro z; cases z))]; exact q⟩
theorem Tu.sqt {K : PySem.W.Frag} {H H' : Hp} {a : Addr} {xs : List V} (s : Tu H H') (h : SqT K H a xs) : SqT K H' a xs := by
  rcases h with (h | ⟨o, h⟩) | h
  · exact .inl (.inl (s.tup _ _ h))
  · exact .inl (.inr ⟨o, s.frz _ _ _ h⟩)
  · exact .inr h
/-- [g for x in us if q], what is behind each x told by a pairing -/
theorem rd_lcP {κ : Type} {F : V → κ → Prop} {us : List V} {ks : List κ} (hp : Paired F us ks) {K : PySem.W.Frag} {a : Addr} {q : κ → Bool} {g : V → κ → V} {tt : TT} {te : TE} {i : Nat} {σ : L2.St} {H : Hp} {Q : VK} (h : Sq K H a us) (hz : us.length ≤ sizeLine)
    (htt : ∀ x y H' (R : Bool → Hp → Prop), F x y → y ∈ ks → Sm H H' → (∀ H'', Sm H' H'' → R (q y) H'') → tt ((wipe σ [i]).set i (some x)) H' R)
    (hte : ∀ x y H' (R : VK), F x y → y ∈ ks → q y = true → Sm H H' → (∀ H'', Sm H' H'' → R (g x y) H'') → te ((wipe σ [i]).set i (some x)) H' R)
    (hq : ∀ D H', H D = none → Sm H H' → H' D = some (.lst (((us.zip ks).filter fun z => q z.2).map fun z => g z.1 z.2)) → Q (.ref D) H') {tl : TE} (htl : ∀ R : VK, R (.ref a) H → tl σ H R) : tLcI (iSq K tl) (gName i) tt te [i] σ H Q := by
  have core : ∀ (J : It) (G : Hp → Prop), Walk J us.length G (YAt us) → (∀ H', Sm H H' → G H') → ∀ D, H D = none → ∃ W : Nat → Nat → Hp → Prop, (∃ m, W 0 m (upd H D (.lst []))) ∧ ∀ k m H, W k m H →
      (J.stop k H ∧ Q (.ref D) H) ∨ (J.go k H ∧ ∃ Nx : Hp → Prop, (∀ H', Nx H' → ∃ m', m' < m ∧ W (k + 1) m' H') ∧ ∀ x H', J.yld k H x H' → gName i x (wipe σ [i]) H' fun σ2 H2 => wipe σ2 [i] = wipe σ [i] ∧ tt σ2 H2 fun b H3 =>
        if b = true then te σ2 H3 fun y H4 => ∃ acc, H4 D = some (.lst acc) ∧ acc.length < sizeLine ∧ Nx (upd H4 D (.lst (acc ++ [y]))) else Nx H3) := by
    intro J G w hG D hD
    refine lc_it w (Qd := fun H => Q (.ref D) H) (fun k H' => Sm H H' ∧ H' D = some (.lst ((((us.zip ks).take k).filter fun z => q z.2).map fun z => g z.1 z.2))) ⟨Sm.new hD, upd_same⟩ (fun k H' _ z => hG H' z.1) (fun k x H' H'' hk r y => ?_) fun H' r => ?_
    · obtain ⟨rfl, hx⟩ := y
      obtain ⟨y, hy, hF⟩ := Paired.get hp hx
      have hm := List.mem_of_getElem? hy
      have hzp : (us.zip ks)[k]? = some (x, y) := by
        rw [List.getElem?_zip_eq_some]
        exact ⟨hx, hy⟩
      have tk : (us.zip ks).take (k + 1) = (us.zip ks).take k ++ [(x, y)] := by rw [List.take_add_one, hzp]; rfl
      refine ⟨wipe_set σ i (some x), htt x y H'' _ hF hm r.1 fun H3 s3 => ?_⟩
      have q3 := s3.st D _ r.2 fun _ z => by cases z
      cases hpy : q y with
      | false =>
        refine ifF rfl ⟨r.1.trans s3, ?_⟩
        rw [tk, List.filter_append, List.filter_cons_of_neg (by simp [hpy]), List.filter_nil, List.append_nil]
        exact q3
      | true =>
        refine ifT rfl (hte x y H3 _ hF hm hpy (r.1.trans s3) fun H4 s4 => ?_)
        have q4 := s4.st D _ q3 fun _ z => by cases z
        refine ⟨_, q4, ?_, Sm.own ((r.1.trans s3).trans s4) hD (fun P t => tabG_ne t q4 fun _ z => by cases z), ?_⟩
        · rw [List.length_map]
          have h1 := List.length_filter_le (fun z : V × κ => q z.2) ((us.zip ks).take k)
          rw [List.length_take] at h1
          omega
        · rw [tk, List.filter_append, List.filter_cons_of_pos (by simpa using hpy), List.filter_nil, List.map_append]
          exact upd_same
    · have q2 := r.2
      rw [List.take_of_length_le (by rw [List.length_zip]; omega)] at q2
      exact hq D H' hD r.1 q2
  unfold tLcI tLc
  refine htl _ ⟨a, rfl, ?_⟩
  rcases h with h | h
  · exact .inl ⟨⟨us, h⟩, core _ _ walk_list fun H' s => s.lst h⟩
  · exact .inr ⟨⟨us, h⟩, core _ _ walk_tup fun H' s => s.tup h⟩
theorem zip_all {κ : Type} {F : V → κ → Prop} {us : List V} {ks : List κ} (hp : Paired F us ks) (g : κ → V) : ((us.zip ks).filter fun _ => true).map (fun z => g z.2) = ks.map g := by
  have e : (us.zip ks).map Prod.snd = ks := List.map_snd_zip (by rw [Paired.len hp]; exact Nat.le_refl _)
  rw [List.filter_eq_self.mpr (fun _ _ => rfl)]
  conv => rhs; rw [← e]
  rw [List.map_map]
  rfl
theorem zip_len {κ : Type} {F : V → κ → Prop} {us : List V} {ks : List κ} (hp : Paired F us ks) (q : κ → Bool) (g : V → κ → V) : (((us.zip ks).filter fun z => q z.2).map fun z => g z.1 z.2).length = (ks.filter q).length := by
  have e : (us.zip ks).map Prod.snd = ks := List.map_snd_zip (by rw [Paired.len hp]; exact Nat.le_refl _)
  conv => rhs; rw [← e]
  rw [List.length_map, List.filter_map, List.length_map]
  rfl

theorem miss_of {P : Params} {z : Str} : ∀ {l : List DictEntry} {ks : List Str}, l.map He.keyOf = He.keysIn P ks → z ∉ ks → l.find? (fun e => e.key.isStr z) = none ∧ l.any (fun e => e.refKey) = false
  | [], _, _, _ => ⟨rfl, rfl⟩
  | e :: r, [], h, _ => by cases h
  | e :: r, k :: ks, h, hz => by
    have h1 : He.keyOf e :: r.map He.keyOf = some (k, PyData.keyHash P k) :: He.keysIn P ks := h
    injection h1 with h2 h3
    obtain ⟨i1, i2⟩ := miss_of (z := z) h3 (fun q => hz (List.mem_cons_of_mem _ q))
    unfold He.keyOf at h2
    split at h2
    · rename_i x t q
      have h5 : x = k := (Prod.mk.inj (Option.some.inj h2)).1
      have nz : x ≠ z := fun y => hz (by rw [← y, h5]; exact List.mem_cons_self)
      have e1 : e.key.isStr z = false := by
        rw [q]
        show (x == z) = false
        simpa using nz
      have e2 : e.refKey = false := by
        unfold DictEntry.refKey
        rw [q]
      exact ⟨by rw [List.find?_cons_of_neg (by simp [e1])]; exact i1, by rw [List.any_cons, e2, i2]; rfl⟩
    · cases h2
/-- a written dict with text keys and ints: what it has -/
def KLook (K : PySem.W.Frag) (w : World) (a : Addr) (kvs : List (Str × Int)) : Prop := ∀ z, (∀ i, kvs.lookup z = some i → KDct K w a z (.int i)) ∧ KHas K w a z (kvs.lookup z).isSome
theorem lookup_some {α : Type} {z : Str} {i : α} : ∀ {l : List (Str × α)}, l.lookup z = some i → (z, i) ∈ l
  | (k, v) :: r, h => by
    rw [List.lookup_cons] at h
    cases e : z == k with
    | true => rw [e] at h; cases h; rw [beq_iff_eq.mp e]; exact List.mem_cons_self
    | false => rw [e] at h; exact List.mem_cons_of_mem _ (lookup_some h)
theorem lookup_none {α : Type} {z : Str} : ∀ {l : List (Str × α)}, l.lookup z = none → z ∉ l.map (·.1)
  | [], _ => by simp
  | (k, v) :: r, h => by
    rw [List.lookup_cons] at h
    cases e : z == k with
    | true => rw [e] at h; cases h
    | false =>
      rw [e] at h
      have n := lookup_none h
      intro q
      rcases List.mem_cons.mp q with q | q
      · have q : z = k := q
        rw [q] at e; simp at e
      · exact n q
theorem klook_of {K : PySem.W.Frag} {w : World} {a : Addr} {kvs : List (Str × Int)} (h : He.dicW K a = some (He.keysIn w.params (kvs.map (·.1)))) (hv : He.valsB K a (kvs.map fun q => (q.1, He.Dv.int q.2)) = true) : KLook K w a kvs := by
  obtain ⟨es, n, D⟩ := He.dicW_ok h
  have hk : es.toList.map He.keyOf = He.keysIn w.params (kvs.map (·.1)) := by
    unfold He.dicW at h
    rw [D.at_] at h
    simp only [decide_true, Bool.true_and, D.low, Bool.not_false, Bool.and_true] at h
    exact Option.some.inj h
  intro z
  cases e : kvs.lookup z with
  | some i =>
    have hm := lookup_some e
    obtain ⟨u, h1, h2⟩ := He.valsB_ok hv (q := (z, .int i)) (List.mem_map.mpr ⟨(z, i), hm, rfl⟩)
    exact ⟨fun j hj => by cases hj; exact ⟨es, n, u, D.at_, D.lit, h1, h2⟩, es, n, some u, D.at_, D.lit, D.low, h1, rfl⟩
  | none =>
    obtain ⟨m1, m2⟩ := miss_of hk (lookup_none e)
    refine ⟨fun j hj => (by cases hj), es, n, none, D.at_, D.lit, D.low, ?_, rfl⟩
    unfold PySem.W.nsIn
    rw [D.at_]
    dsimp only
    rw [m1, m2]
    rfl

/-- an if whose test gives b and lets the heap grow -/
theorem rd_ifN {c : TT} {t rest : TS} {D : Ends} {σ : L2.St} {H : Hp} (b : Bool) (hc : ∀ R : Bool → Hp → Prop, (∀ H1, Sm H H1 → R b H1) → c σ H R) (hT : b = true → ∀ H1, Sm H H1 → t { D with nx := rest D } σ H1) (hF : b = false → ∀ H1, Sm H H1 → rest D σ H1) :
    tSeq (tIfS c t tNext) rest D σ H := by
  refine hc _ fun H1 s1 => ?_
  cases b with
  | true => exact ifT rfl (hT rfl H1 s1)
  | false => exact ifF rfl (hF rfl H1 s1)
theorem rd_if1 {c : TT} {t : TS} {D : Ends} {σ : L2.St} {H : Hp} (b : Bool) (hc : ∀ R : Bool → Hp → Prop, (∀ H1, Sm H H1 → R b H1) → c σ H R) (hT : b = true → ∀ H1, Sm H H1 → t D σ H1) (hF : b = false → ∀ H1, Sm H H1 → D.nx σ H1) :
    tIfS c t tNext D σ H := by
  refine hc _ fun H1 s1 => ?_
  cases b with
  | true => exact ifT rfl (hT rfl H1 s1)
  | false => exact ifF rfl (hF rfl H1 s1)
theorem at0 {α : Type} {x : α} {xs : List α} : atI (x :: xs) 0 = some x := atI_nat (j := 0) rfl

/-- a promise that lets nothing out where nothing is raised -/
theorem quiet {P : Program} {w : World} {K : PySem.W.Frag} {mg : Str → Option Value} {base : Heap} {k : Nat} {f : Addr} {fd : FuncData} {ps : List Str} {sp : Sp} (F : FnOk P w K mg base (L2.CX P w) k f fd ps sp) :
    FnOk P w K mg base CX0 k f fd ps (fun vs H Q _ => sp vs H Q fun _ _ _ => False) := by
  refine ⟨fun vs H Q E h => F.len _ _ _ _ h, fun A outer s H args us vs Q E hr e0 hb hv h => codeAny_mono (F.run A outer s H args us vs Q _ hr e0 hb hv h) fun r s' q => ?_⟩
  cases r with
  | ok fl => cases fl <;> exact q
  | error e =>
    obtain ⟨_, _, _, _, _, _, _, _, _, _, _, _, z⟩ := q
    exact z.elim
/-- name = [..], kept shut -/
theorem ps_setLcI {X : Cx} {i : Nat} {y : Str} {py : Pos} {elt tg iter : Expr} {ifs : List Expr} {scope : Scope} {own : List (Str × Nat)} {pos spos : Pos} {wi : TI} {g : TG} {tt : TT} {te : TE} (hc : X.calm = true) (hN : X.N.Nodup) (hy : X.N[i]? = some y) (hyl : X.env.scope.names.lookup y = some .local)
    (hsw : swapsWith (.ListComp elt [⟨tg, iter, ifs, 0⟩] scope pos) (some (.Name y py)) spos.line X.env = pure true) (hi : PI X tg iter wi) (ok : BlkOk X.N X.env.scope scope own)
    (hg : ∀ (s : Shared) (H : Hp) (C : Addr) (cl : List (Str × Addr)) (fp : List Addr), PG (X.blk s H scope (compEnvC scope cl C X.env) fp) tg g) (ht : ∀ (s : Shared) (H : Hp) (C : Addr) (cl : List (Str × Addr)) (fp : List Addr), PTs (X.blk s H scope (compEnvC scope cl C X.env) fp) ifs tt)
    (he : ∀ (s : Shared) (H : Hp) (C : Addr) (cl : List (Str × Addr)) (fp : List Addr), PE (X.blk s H scope (compEnvC scope cl C X.env) fp) elt te) (hs : ∀ x, foldedSetIterable iter X.env x = pure x := by intro _; rfl) :
    PS X (.Assign [.Name y py] (.ListComp elt [⟨tg, iter, ifs, 0⟩] scope pos) spos) (tAsg (tLcI wi g tt te (own.map (·.2))) (gName i)) := by
  unfold tLcI
  exact ps_setLc hc hN hy hyl hsw hi ok hg ht he hs

/-- [g for x in us], each item told by a relation that the growing heap keeps; the source comes by a reading of its own -/
theorem rd_lcR {κ ρ : Type} {F : V → κ → Prop} {us : List V} {ks : List κ} (hp : Paired F us ks) {K : PySem.W.Frag} {Rel : Hp → V → ρ → Prop} {h : κ → ρ} {te : TE} {i : Nat} {σ : L2.St} {H : Hp} {Q : VK} (hz : us.length ≤ sizeLine) {tl : TE}
    (htl : ∀ R : VK, (∀ a H1, Sm H H1 → Sq K H1 a us → R (.ref a) H1) → tl σ H R) (mono : ∀ {H' H'' : Hp} {v : V} {z : ρ}, Tu H' H'' → Rel H' v z → Rel H'' v z)
    (hte : ∀ x y H' (R : VK), F x y → y ∈ ks → Sm H H' → (∀ v H'', Sm H' H'' → Rel H'' v (h y) → R v H'') → te ((wipe σ [i]).set i (some x)) H' R)
    (hq : ∀ D H' vs, H D = none → Sm H H' → H' D = some (.lst vs) → Paired (Rel H') vs (ks.map h) → Q (.ref D) H') : tLcI (iSq K tl) (gName i) tYes te [i] σ H Q := by
  have core : ∀ (H1 : Hp), Sm H H1 → ∀ (J : It) (G : Hp → Prop), Walk J us.length G (YAt us) → (∀ H', Sm H1 H' → G H') → ∀ D, H1 D = none → ∃ W : Nat → Nat → Hp → Prop, (∃ m, W 0 m (upd H1 D (.lst []))) ∧ ∀ k m H, W k m H →
      (J.stop k H ∧ Q (.ref D) H) ∨ (J.go k H ∧ ∃ Nx : Hp → Prop, (∀ H', Nx H' → ∃ m', m' < m ∧ W (k + 1) m' H') ∧ ∀ x H', J.yld k H x H' → gName i x (wipe σ [i]) H' fun σ2 H2 => wipe σ2 [i] = wipe σ [i] ∧ tYes σ2 H2 fun b H3 =>
        if b = true then te σ2 H3 fun y H4 => ∃ acc, H4 D = some (.lst acc) ∧ acc.length < sizeLine ∧ Nx (upd H4 D (.lst (acc ++ [y]))) else Nx H3) := by
    intro H1 s1 J G w hG D hD
    refine lc_it w (Qd := fun H => Q (.ref D) H) (fun k H' => Sm H1 H' ∧ ∃ vs, H' D = some (.lst vs) ∧ vs.length = k ∧ Paired (Rel H') vs ((ks.take k).map h)) ⟨Sm.new hD, [], upd_same, rfl, .nil⟩ (fun k H' _ z => hG H' z.1) (fun k x H' H'' hk r y => ?_) fun H' r => ?_
    · obtain ⟨rfl, hx⟩ := y
      obtain ⟨y, hy, hF⟩ := Paired.get hp hx
      have hm := List.mem_of_getElem? hy
      have tk : ks.take (k + 1) = ks.take k ++ [y] := by rw [List.take_add_one, hy]; rfl
      obtain ⟨r1, vs, r2, r3, r4⟩ := r
      refine ⟨wipe_set σ i (some x), ?_⟩
      dsimp only [tYes]
      rw [if_pos rfl]
      refine hte x y H'' _ hF hm (s1.trans r1) fun v H4 s4 hv => ?_
      have q4 := s4.st D _ r2 fun _ z => by cases z
      have t4 : Tu H4 (upd H4 D (.lst (vs ++ [v]))) := Tu.lset q4
      refine ⟨vs, q4, by omega, Sm.own (r1.trans s4) hD (fun P t => tabG_ne t q4 fun _ z => by cases z), vs ++ [v], upd_same, by rw [List.length_append, r3]; rfl, ?_⟩
      rw [tk, List.map_append]
      exact Paired.snoc (Paired.imp (fun _ _ z => mono (s4.tu.trans t4) z) r4) (mono t4 hv)
    · obtain ⟨r1, vs, r2, r3, r4⟩ := r
      rw [List.take_of_length_le (by rw [Paired.len hp]; exact Nat.le_refl _)] at r4
      exact hq D H' vs (s1.fr D hD) (s1.trans r1) r2 r4
  unfold tLcI tLc
  refine htl _ fun a H1 s1 hs => ⟨a, rfl, ?_⟩
  rcases hs with hs | hs
  · exact .inl ⟨⟨us, hs⟩, core H1 s1 _ _ walk_list fun H' s => s.lst hs⟩
  · exact .inr ⟨⟨us, hs⟩, core H1 s1 _ _ walk_tup fun H' s => s.tup hs⟩
theorem inT {K : PySem.W.Frag} {H' : Hp} {a : Addr} {x : Str} {ys : List Str} {R : V → Hp → Prop} (h : TxL K H' a ys) (q : R (.bl (ys.contains x)) H') : rIn K false (.str x) (.ref a) H' R := by
  refine ⟨a, ys.map V.str, rfl, h, rfl, by rw [List.all_map, List.all_eq_true]; intro x _; rfl, ?_⟩
  have e : inV (.str x) (ys.map V.str) = ys.contains x := by
    unfold inV
    rw [List.any_map, Bool.eq_iff_iff, List.any_eq_true]
    constructor
    · rintro ⟨y, hy, e⟩
      have e : (y == x) = true := e
      rw [← beq_iff_eq.mp e]
      simpa using hy
    · intro h
      exact ⟨x, by simpa using h, by show (x == x) = true; simp⟩
  rw [if_neg Bool.false_ne_true, e]
  exact q
theorem niT {K : PySem.W.Frag} {H' : Hp} {a : Addr} {x : Str} {ys : List Str} {R : V → Hp → Prop} (h : TxL K H' a ys) (q : R (.bl (!ys.contains x)) H') : rIn K true (.str x) (.ref a) H' R := by
  obtain ⟨p, xs, e1, e2, e3, e4, e5⟩ := inT (R := fun v H2 => v = .bl (ys.contains x) ∧ H2 = H') h ⟨rfl, rfl⟩
  refine ⟨p, xs, e1, e2, e3, e4, ?_⟩
  rw [if_neg Bool.false_ne_true] at e5
  have e6 : inV (.str x) xs = ys.contains x := V.bl.inj e5.1
  rw [if_pos rfl, e6]
  exact q
/-- for k in range(n) -/
theorem rd_forR {ta : TA} {n : Nat} {tb : TS} {D : Ends} {σ : L2.St} {H : Hp} {i : Nat} (hn : n < 2 ^ 62) (Pv : Nat → L2.St → Hp → Prop) (h0 : Pv 0 σ H)
    (hs : ∀ k σ' H', k < n → Pv k σ' H' → tb { D with nx := Pv (k + 1), ct := Pv (k + 1), bk := D.nx } (σ'.set i (some (.int (k : Int)))) H') (hd : ∀ σ' H', Pv n σ' H' → D.nx σ' H') (hta : ∀ R : List V → Hp → Prop, R [.int (n : Int)] H → ta σ H R) :
    tForI (iRng1 ta) (gName i) tb D σ H := by
  unfold tForI tFor
  refine hta _ ⟨n, rfl, by omega, by omega, ?_⟩
  refine for_it (walk_range (n := n)) Pv h0 (fun _ _ _ _ _ => trivial) (fun k x σ' H' H'' hk p y => ?_) hd
  obtain ⟨rfl, rfl⟩ := y
  have := hs k σ' _ hk p
  rw [← Int.zero_add (k : Int)] at this
  exact this
/-- for c in a text -/
theorem rd_forS {z : Str} {tb : TS} {D : Ends} {σ : L2.St} {H : Hp} {i : Nat} (Pv : Nat → L2.St → Hp → Prop) (h0 : Pv 0 σ H)
    (hs : ∀ k c σ' H', z.cps.toList[k]? = some c → Pv k σ' H' → tb { D with nx := Pv (k + 1), ct := Pv (k + 1), bk := D.nx } (σ'.set i (some (.str ⟨#[c]⟩))) H') (hd : ∀ σ' H', Pv z.cps.toList.length σ' H' → D.nx σ' H') {tl : TE} (htl : ∀ R : VK, R (.str z) H → tl σ H R) :
    tForI (iStr tl) (gName i) tb D σ H := by
  unfold tForI tFor
  refine htl _ ⟨z, rfl, ?_⟩
  have w0 := walk_str (z := z)
  rw [Array.length_toList] at hd
  refine for_it w0 Pv h0 (fun _ _ _ _ _ => trivial) (fun k x σ' H' H'' hk p y => ?_) hd
  obtain ⟨rfl, c, hc, rfl⟩ := y
  exact hs k c σ' _ (by rw [Array.getElem?_toList]; exact hc) p
/-- what a for over a list asks at its beginning -/
def ForB (K : PySem.W.Frag) (a : Addr) (xs : List V) (i : Nat) (tb : TS) (D : Ends) (σ : L2.St) (H1 : Hp) : Prop := ∃ Pv : Nat → L2.St → Hp → Prop, Pv 0 σ H1 ∧ (∀ k σ' H', Pv k σ' H' → SqL K H' a xs) ∧
  (∀ k x σ' H', xs[k]? = some x → Pv k σ' H' → tb { D with nx := Pv (k + 1), ct := Pv (k + 1), bk := D.nx } (σ'.set i (some x)) H') ∧ ∀ σ' H', Pv xs.length σ' H' → D.nx σ' H'
/-- for x in f(..): the list comes by a reading of its own -/
theorem rd_forC {K : PySem.W.Frag} {tb : TS} {D : Ends} {σ : L2.St} {H : Hp} {i : Nat} {tl : TE} (htl : ∀ R : VK, (∀ a xs H1, ForB K a xs i tb D σ H1 → R (.ref a) H1) → tl σ H R) : tForI (iSq K tl) (gName i) tb D σ H := by
  unfold tForI tFor
  exact htl _ fun a xs H1 ⟨Pv, h0, hG, hs, hd⟩ => ⟨a, rfl, .inl ⟨⟨xs, hG _ _ _ h0⟩, for_it walk_list Pv h0 (fun k σ' H' _ p => hG k σ' H' p) (fun k x σ' H' H'' _ p y => by obtain ⟨rfl, hx⟩ := y; exact hs k x σ' H'' hx p) hd⟩⟩
theorem cut_take (xs : List V) (m : Nat) : cutV xs none (some (m : Int)) = xs.take m := by
  unfold cutV
  have e2 : HT.sIx xs.length xs.length (some (m : Int)) = min m xs.length := by
    show (if (m : Int) < 0 then ((m : Int) + (xs.length : Int)).toNat else min (m : Int).toNat xs.length) = _
    rw [if_neg (by omega)]
    rfl
  have e1 : HT.sIx xs.length 0 none = 0 := rfl
  rw [e1, e2]
  show xs.take (min m xs.length - 0) = xs.take m
  rw [Nat.sub_zero, List.take_eq_take_iff]
  omega
/-- a comprehension whose values are told by a relation that the growing heap keeps, over what a walk gives -/
theorem rd_lcRW {J : It} {G : Hp → Prop} {κ ρ : Type} {F : V → κ → Prop} {us : List V} {ks : List κ} (hp : Paired F us ks) {Rel : Hp → V → ρ → Prop} {h : κ → ρ} {te : TE} {i : Nat} {σ : L2.St} {H H1 : Hp} {Q : VK} (hz : us.length ≤ sizeLine)
    (mono : ∀ {H' H'' : Hp} {v : V} {z : ρ}, Tu H' H'' → Rel H' v z → Rel H'' v z)
    (hte : ∀ x y H' (R : VK), F x y → y ∈ ks → Sm H H' → (∀ v H'', Sm H' H'' → Rel H'' v (h y) → R v H'') → te ((wipe σ [i]).set i (some x)) H' R)
    (hq : ∀ D H' vs, H D = none → Sm H H' → H' D = some (.lst vs) → Paired (Rel H') vs (ks.map h) → Q (.ref D) H')
    (s1 : Sm H H1) (w : Walk J us.length G (YAt us)) (hG : ∀ H', Sm H1 H' → G H') : ∀ D, H1 D = none → ∃ W : Nat → Nat → Hp → Prop, (∃ m, W 0 m (upd H1 D (.lst []))) ∧ ∀ k m H, W k m H →
      (J.stop k H ∧ Q (.ref D) H) ∨ (J.go k H ∧ ∃ Nx : Hp → Prop, (∀ H', Nx H' → ∃ m', m' < m ∧ W (k + 1) m' H') ∧ ∀ x H', J.yld k H x H' → gName i x (wipe σ [i]) H' fun σ2 H2 => wipe σ2 [i] = wipe σ [i] ∧ tYes σ2 H2 fun b H3 =>
        if b = true then te σ2 H3 fun y H4 => ∃ acc, H4 D = some (.lst acc) ∧ acc.length < sizeLine ∧ Nx (upd H4 D (.lst (acc ++ [y]))) else Nx H3) := by
  intro D hD
  refine lc_it w (Qd := fun H => Q (.ref D) H) (fun k H' => Sm H1 H' ∧ ∃ vs, H' D = some (.lst vs) ∧ vs.length = k ∧ Paired (Rel H') vs ((ks.take k).map h)) ⟨Sm.new hD, [], upd_same, rfl, .nil⟩ (fun k H' _ z => hG H' z.1) (fun k x H' H'' hk r y => ?_) fun H' r => ?_
  · obtain ⟨rfl, hx⟩ := y
    obtain ⟨y, hy, hF⟩ := Paired.get hp hx
    have hm := List.mem_of_getElem? hy
    have tk : ks.take (k + 1) = ks.take k ++ [y] := by rw [List.take_add_one, hy]; rfl
    obtain ⟨r1, vs, r2, r3, r4⟩ := r
    refine ⟨wipe_set σ i (some x), ?_⟩
    dsimp only [tYes]
    rw [if_pos rfl]
    refine hte x y H'' _ hF hm (s1.trans r1) fun v H4 s4 hv => ?_
    have q4 := s4.st D _ r2 fun _ z => by cases z
    have t4 : Tu H4 (upd H4 D (.lst (vs ++ [v]))) := Tu.lset q4
    refine ⟨vs, q4, by omega, Sm.own (r1.trans s4) hD (fun P t => tabG_ne t q4 fun _ z => by cases z), vs ++ [v], upd_same, by rw [List.length_append, r3]; rfl, ?_⟩
    rw [tk, List.map_append]
    exact Paired.snoc (Paired.imp (fun _ _ z => mono (s4.tu.trans t4) z) r4) (mono t4 hv)
  · obtain ⟨r1, vs, r2, r3, r4⟩ := r
    rw [List.take_of_length_le (by rw [Paired.len hp]; exact Nat.le_refl _)] at r4
    exact hq D H' vs (s1.fr D hD) (s1.trans r1) r2 r4
theorem pair_range : ∀ n, Paired (fun (v : V) (k : Nat) => v = .int (k : Int)) ((List.range n).map fun k : Nat => V.int (k : Int)) (List.range n) := fun n => by
  generalize List.range n = l
  induction l with
  | nil => exact .nil
  | cons a r ih => exact .cons rfl ih
theorem walk_rng {n : Nat} : Walk (Itr 0 n) ((List.range n).map fun k : Nat => V.int (k : Int)).length (fun _ => True) (YAt ((List.range n).map fun k : Nat => V.int (k : Int))) := by
  have e : ((List.range n).map fun k : Nat => V.int (k : Int)).length = n := by rw [List.length_map, List.length_range]
  rw [e]
  exact (walk_range (lo := 0) (n := n)).mono (fun _ _ => trivial) fun k H v H' hk _ y => ⟨y.1, by
    rw [List.getElem?_map, List.getElem?_range hk, y.2]
    show some (V.int (k : Int)) = some (V.int (0 + (k : Int)))
    rw [Int.zero_add]⟩
/-- [g for k in range(n)] -/
theorem rd_lcRN {ρ : Type} {ta : TA} {n : Nat} {Rel : Hp → V → ρ → Prop} {h : Nat → ρ} {te : TE} {i : Nat} {σ : L2.St} {H : Hp} {Q : VK} (hz : n ≤ 100000) (hta : ∀ R : List V → Hp → Prop, (∀ H1, Sm H H1 → R [.int (n : Int)] H1) → ta σ H R)
    (mono : ∀ {H' H'' : Hp} {v : V} {z : ρ}, Tu H' H'' → Rel H' v z → Rel H'' v z)
    (hte : ∀ k H' (R : VK), k < n → Sm H H' → (∀ v H'', Sm H' H'' → Rel H'' v (h k) → R v H'') → te ((wipe σ [i]).set i (some (.int (k : Int)))) H' R)
    (hq : ∀ D H' vs, H D = none → Sm H H' → H' D = some (.lst vs) → Paired (Rel H') vs ((List.range n).map h) → Q (.ref D) H') : tLcI (iRng1 ta) (gName i) tYes te [i] σ H Q := by
  unfold tLcI tLc
  refine hta _ fun H1 s1 => ⟨n, rfl, by omega, by omega, ?_⟩
  have e : ((n : Int)).toNat = n := rfl
  rw [e]
  refine rd_lcRW (G := fun _ => True) (Rel := Rel) (h := h) (pair_range n) (by rw [List.length_map, List.length_range]; unfold sizeLine; omega) mono (fun x k H' R hF hm s hR => ?_) hq s1 walk_rng fun _ _ => trivial
  subst hF
  exact hte k H' R (List.mem_range.mp hm) s hR
/-- plain values -/
theorem pair_eq {vs : List V} : ∀ {ws : List V}, Paired (fun v z => v = z) vs ws → vs = ws := by
  induction vs with
  | nil => intro ws h; cases h; rfl
  | cons a r ih => intro ws h; cases h with | cons h t => rw [h, ih t]
end GD

-- part SU1
set_option Elab.async false
set_option linter.all false
set_option maxRecDepth 100000
set_option maxHeartbeats 2000000
/-! super().__init__(e) of an exception over ValueError -/
namespace SU
open PySem PySem.W PySem.Calls PyProof.Rows PySem.HandSPX
abbrev vi : Value := .builtin "ValueError.__init__"
/-- vi bound to x -/
abbrev vb (x : Addr) : Obj := { cls := .type "method-wrapper", dict := none, data := .fields #[vi, .ref x], slots := #[] }
theorem vi_type : typeOf vi = pure (.type "wrapper_descriptor") := by
  show builtinType _ = _
  rw [builtinType_eq_fast]
  kernel_rfl
theorem vi_name : (kfb_private% "nameAndClass") vi = (pure (("__init__" : Str), Value.type "ValueError") : Sem (Str × Value)) := by
  kernel_rfl
section
variable {prog : Program} {w : World} {M : Model} {A : Around} {E : Value → Shared → Prop} {h : Heap} {g : Array GenState} {d : Drawn} {t : Nat} {os : OsState}
theorem vi_get {a B : Addr} {R : Fin → Shared → Prop} (yes : W.Looks M h (isInstance (.ref a) (.type "ValueError")) true) (r : R (.done (.ret (.ref h.objs.size))) ⟨h.push (vb a), g, d, t, os⟩) :
    wpAny M A (Builtin.«wrapper_descriptor.__get__» ⟨[vi, .ref a, .ref B], []⟩) R E ⟨h, g, d, t, os⟩ := by
  unfold Builtin.«wrapper_descriptor.__get__»
  have s1 : wpAny M A (newFields "method-wrapper" [vi, .ref a] >>= fun r => ret r) R E ⟨h, g, d, t, os⟩ := wpAny_bind (wpAny_newObj_type (wpAny_pure r))
  refine wpAny_bind (wpAny_of_eq (a := (vi, some (.ref a), some (.ref B))) (by first | rfl | kernel_rfl) (wpAny_bind ?_))
  show wpAny M A ((kfb_private% "nameAndClass") vi >>= _) _ E _
  refine wpAny_bind (wpAny_of_eq vi_name ?_)
  show wpAny M A (isInstance (.ref a) (.type "ValueError") >>= _) _ E _
  exact wpAny_bind (yes.at (KFB.if_not rfl (wpAny_pure s1)))
/-- what super() gives within a method of D for the instance a of C -/
abbrev so3 (D a C : Addr) : Obj := { cls := .type "super", dict := none, data := .fields #[.ref D, .ref a, .ref C], slots := #[] }
theorem vi_attr {z a C : Addr} {ms bs : List Value} {K : Frag} {tk : Tok} {R : Fin → Shared → Prop} (hz : h.get? z = some (so3 C a C)) (clear : W.Looks (model prog w) h (opaqueClassAbove (.ref C)) none)
    (line : W.Looks (model prog w) h (mroOf (.ref C)) ms) (cut : (ms.dropWhile (· != .ref C)).drop 1 = bs) (kin : K.In h) (has : alongIn K "__init__" bs = some (some vi)) (apart : a ≠ C)
    (yes : W.Looks (model prog w) h (isInstance (.ref a) (.type "ValueError")) true) (r : R (.done (.ret (.ref h.objs.size))) ⟨h.push (vb a), g, d, t, os⟩) :
    wpAny (model prog w) A (Builtin.«super.__getattribute__» ⟨[.ref z, .str "__init__" tk], []⟩) R E ⟨h, g, d, t, os⟩ := by
  have lk := ESX.slot_wd.lookup
  have un : (Value.ref a == Value.ref C) = false := by simp [apart]
  have isw : Shared.TypeIs ⟨h, g, d, t, os⟩ vi "wrapper_descriptor" := vi_type
  have dt : (so3 C a C).data = .fields #[.ref C, .ref a, .ref C] := rfl
  have i0 : (#[Value.ref C, .ref a, .ref C] : Array Value)[0]? = some (.ref C) := rfl
  have i1 : (#[Value.ref C, .ref a, .ref C] : Array Value)[1]? = some (.ref a) := rfl
  have i2 : (#[Value.ref C, .ref a, .ref C] : Array Value)[2]? = some (.ref C) := rfl
  have nc : (("__init__" : Str) == ("__class__" : Str)) = false := by decide
  unfold Builtin.«super.__getattribute__»
  repeat (first
    | with_reducible refine wpAny_field hz dt i0 ?_
    | with_reducible refine wpAny_field hz dt i1 ?_
    | with_reducible refine wpAny_field hz dt i2 ?_
    | with_reducible refine ks_wpAny_notOpaque clear ?_
    | (with_reducible refine Looks.at line ?_
       rw [cut])
    | refine ks_forIn_along kin (fun _ _ => rfl) rfl ?_ has
    | with_reducible refine wpAny_call_entry ESX.slot_wd isw ESX.entry_wd ?_ (ESX.args_wd _ _ _)
    | with_reducible refine vi_get yes ?_
    | with_reducible refine ⟨_, rfl, ?_⟩
    | simp only [nc, un, Bool.or_false, Bool.false_eq_true, if_false]
    | wp_step
    | dsimp only)
  all_goals exact r
theorem vi_meth {z a C : Addr} {ms bs : List Value} {K : Frag} {pl : Sem Bool} {R : Value × List Value → Shared → Prop} (hz : h.get? z = some (so3 C a C)) (clear : W.Looks (model prog w) h (opaqueClassAbove (.ref C)) none)
    (line : W.Looks (model prog w) h (mroOf (.ref C)) ms) (cut : (ms.dropWhile (· != .ref C)).drop 1 = bs) (kin : K.In h) (has : alongIn K "__init__" bs = some (some vi)) (apart : a ≠ C)
    (yes : W.Looks (model prog w) h (isInstance (.ref a) (.type "ValueError")) true) (r : R (.ref h.objs.size, []) ⟨h.push (vb a), g, d, t + 1, os⟩) :
    wpAny (model prog w) A (getMethod (.ref z) "__init__" pl) R E ⟨h, g, d, t, os⟩ := by
  have lk := F.ks_slot_super_ga.lookup
  have own := F.ks_canon_super_ga
  have isz : ∀ u, (⟨h, g, d, u, os⟩ : Shared).TypeIs (.ref z) "super" := fun _ => ⟨_, hz, rfl⟩
  have got := wpAny_call_entry (A := A) (E := fun _ _ => False) (Q := fun v s => v = .ref h.objs.size ∧ s = ⟨h.push (vb a), g, d, t + 1, os⟩) F.ks_slot_super_ga (isz (t + 1)) F.ks_entry_super_ga
    (vi_attr (tk := t) hz clear line cut kin has apart yes ⟨_, rfl, rfl, rfl⟩) (F.ks_gaArgs_super _ _)
  unfold getMethod
  refine wpAny_bind (wpAny_specialOf (isz _) lk ?_)
  show wpAny _ _ (if (Manifest.canonical "super.__getattribute__" != "object.__getattribute__") = true then _ else _) _ _ _
  rw [if_pos own]
  unfold getAttr getAttrBy
  refine wpAny_bind (wpAny_bind (wpAny_mkText (wpAny_holding (wpAny_bind (wpAny_typeOf (isz _) (wpAny_bind (wpAny_of_eq lk ?_)))))))
  show wpAny _ _ (getAttrByItsOwn (.ref z) (.str "__init__" t) (.type "super") (.builtin "super.__getattribute__") true false) _ _ _
  unfold getAttrByItsOwn hookBefore callGetattribute boundAndCalled
  refine wpAny_bind (wpAny_of_eq (a := none) rfl (wpAny_bind (wpAny_attempt (wpAny_holding ?_))))
  show wpAny _ _ (bindSpecial (.builtin "super.__getattribute__") (.ref z) >>= _) _ _ _
  refine wpAny_bind (wpAny_of_eq (F.ks_slot_super_ga.bind _) ?_)
  refine wpAny_mono got (fun v s ⟨e1, e2⟩ => ?_) fun _ _ z => z.elim
  subst e1 e2
  exact wpAny_pure (wpAny_pure r)
end
section
variable {prog : Program} {w : World} {A : Around} {E : Value → Shared → Prop} {h : Heap} {g : Array GenState} {d : Drawn} {t : Nat} {os : OsState}
variable {nm q : Str} {C N : Addr} {bs bm : List Value} {dct : Bool} {sn : List Str} {sub : List Value} {ab : Bool} {col : Option Bool} {dd : Option Addr} {k0 k1 k2 k3 k5 : Option Value}
theorem vb_call {u a t0 : Addr} {vs : List Value} {R : Value → Shared → Prop} (cls : h.get? C = some (excClassObj nm q C N bs bm dct sn sub ab col dd k0 k1 k2 k3 k5 "ValueError.__new__")) (obj : h.get? a = some (HandSPX.excO C t0)) (bnd : h.get? u = some (vb a)) (few : vs.length ≤ sizeLine)
    (r : ∀ h' t1, (∀ b o, b ≠ a → h.get? b = some o → h'.get? b = some o) → h'.get? a = some (HandSPX.excO C t1) → R .none ⟨h', g, d, t, os⟩) : wpAny (model prog w) A (call (.ref u) vs) R E ⟨h, g, d, t, os⟩ := by
  refine wpAny_call (codeAny_of_tree ?_)
  show wpAny _ A.in1 (callAny (.ref u) ⟨vs, []⟩) _ _ _
  simp only [callAny]
  have m : (Value.type "method-wrapper" == Value.type "method" || Value.type "method-wrapper" == Value.type "builtin_function_or_method" || Value.type "method-wrapper" == Value.type "method-wrapper") = true := by decide
  refine wpAny_bind (wpAny_load bnd ?_)
  simp only [vb, m, if_true]
  refine W.KFB.if_so (by decide) (wpAny_bind (ESX.check_bound F.excBase_ValueError cls obj rfl (wpAny_bind (wpAny_pure (wpAny_pure ?_)))))
  refine ⟨Code.quiet_builtin _ (by decide +kernel), codeAny_builtin F.excBase_ValueError.initEntry ?_⟩
  rw [Around.under_plainId F.excBase_ValueError.init.plain _]
  wp_walk
  refine r _ h.objs.size (fun b o ne e => ?_) ?_
  · exact (Heap.get?_update_other _ _ (Ne.symm ne)).trans (Heap.get?_push_of_some _ e)
  · exact (Heap.get?_update_self _ (Heap.get?_push_of_some _ obj) rfl).trans rfl
/-- f(..) where f is vi bound -/
theorem vb_with {pos : Pos} {u a : Addr} {env : Env} {e : Expr} {r : List Expr} {R : Value → Shared → Prop} (b : (backTo pos (starEach r env)).any (·.1) = false) (c : starEach (e :: r) env = (false, eval e env) :: starEach r env)
    (k : wpAny (model prog w) A (spliced (backTo pos (starEach (e :: r) env))) (fun vs s1 => s1.heap.get? u = some (vb a) ∧ wpAny (model prog w) A (call (.ref u) vs) R E s1) E ⟨h, g, d, t, os⟩) :
    wpAny (model prog w) A (callWith pos (.ref u) [] (backTo pos (starEach (e :: r) env)) []) R E ⟨h, g, d, t, os⟩ := by
  rw [c] at k ⊢
  have pl : (backTo pos ((false, eval e env) :: starEach r env)).any (·.1) = false := by
    show (false || (backTo pos (starEach r env)).any (·.1)) = false
    rw [b]
    rfl
  have ev : wpAny (model prog w) A (evalArgs (.ref u) true (backTo pos ((false, eval e env) :: starEach r env)) []) (fun a1 s1 => s1.heap.get? u = some (vb a) ∧ wpAny (model prog w) A (call (.ref u) ([] ++ a1.pos) a1.kw) R E s1) E ⟨h, g, d, t, os⟩ := by
    refine evalArgs_plain ?_
    exact k
  unfold callWith
  refine wpAny_bind (wpAny_holding (wpAny_mono ev (fun a1 s1 ⟨ho, go⟩ => wpAny_bind (wpAny_standAt ?_)) fun _ _ z => z))
  simp only [pl, List.any_nil, Bool.or_false]
  refine wpAny_bind (m := keeperOf (.ref u)) ?_
  unfold keeperOf
  have m1 : (Value.type "method-wrapper" != Value.type "method") = true := by decide
  have m2 : (Value.type "method-wrapper" == Value.type "builtin_function_or_method" || Value.type "method-wrapper" == Value.type "method-wrapper") = true := by decide
  refine wpAny_bind (wpAny_load ho ?_)
  simp only [vb, m1, m2, if_true]
  exact wpAny_pure (wpAny_bind (wpAny_mono go (fun _ _ z => wpAny_bind (wpAny_holding (wpAny_point (wpAny_pure z)))) fun _ _ z => z))
end
end SU

-- part SU2
set_option Elab.async false
set_option linter.all false
set_option maxRecDepth 100000
set_option maxHeartbeats 2000000
/-! a def __init__ that begins with super().__init__(e) and keeps one value -/
namespace SU
open PySem PySem.Spec PySem.W PySem.Calls PyProof.Rows L2
/-- where the def runs -/
def cxS (CX : CXT) (P : Program) (w : World) (K : PySem.W.Frag) (mg : Str → Option Value) (base : Heap) (N : List Str) (fd : FuncData) (f : Addr) (A : Around) (outer : List Env) (s : Shared) (H : Hp) (E : XK) : Cx where
  prog := P
  w := w
  K := K
  mg := mg
  base := base
  A := A.deeper (callEnv fd s.heap.objs.size f)
  N := N
  s_0 := s
  H_0 := H
  env := callEnv fd s.heap.objs.size f
  outer := outer
  stack := callEnv fd s.heap.objs.size f :: outer
  ex := []
  fn := fun _ => false
  calm := true
  pn := []
  xe := fun e s' => wpAny (model P w) (A.deeper (callEnv fd s.heap.objs.size f)) (leaving (callEnv fd s.heap.objs.size f) e) (fun _ s'' => CX outer H s E e s'') (fun e' s'' => CX outer H s E e' s'') s'
/-- what the written part says of the class at C, of its __init__ at f -/
structure Sup (P : Program) (K : PySem.W.Frag) (C f cc : Addr) (fd : FuncData) (qual x : Str) (scope : Scope) : Prop where
  at_ : ∃ (oc : Value) (od : Option Addr) (osl : Array (Option Value)), K.lookup f = some ⟨oc, od, .func fd, osl⟩
  fsc : fd.scope = scope
  fq : fd.qualname = qual
  par : ∃ ar : Arg, (fd.params.posonlyargs ++ fd.params.args).head? = some ar ∧ ar.arg = "self"
  clo : fd.closure = [(("__class__" : Str), cc)]
  glo : fd.globals = mainGlobals
  blt : fd.builtins = builtinsNs
  cod : PySem.W.codeIn K fd.code qual = true
  cd3 : ∃ (kc : Addr) (ok : Obj) (vs : Array Value) (file : Str) (tf : Tok), fd.code = .ref kc ∧ K.lookup kc = some ok ∧ ok.data = .fields vs ∧ vs[2]? = some (.str file tf) ∧ ((P.main.file : Str) == file) = true
  top : (P.main.scope.names.lookup ("super" : Str)).isSome = false
  cel : ∃ o : Obj, K.lookup cc = some o ∧ o.data = .cell (some (.ref C))
  kind : scope.kind = .function
  co : scope.isCoroutine = false
  gen : scope.isGenerator = false
  sf : scope.names.lookup ("self" : Str) = some .local
  sx : scope.names.lookup x = some .local
  sc : scope.names.lookup ("__class__" : Str) = some .free
  ss : scope.names.lookup ("super" : Str) = some .globalImplicit
  nx : x ≠ "self"
  only : ∀ y ∈ scope.names, y.2 ≠ .cell ∧ (y.2 = .free → y.1 = "__class__")
  oex : OexC K C
  s1 : PySem.W.subIn K (.ref C) (.ref C) = some true
  s2 : PySem.W.subIn K (.ref C) (.type "ValueError") = some true
  op : PySem.W.nsIn K cStatics "thirdparty.any" = some none
  has : ∀ cd, PySem.W.clsIn K C = some cd → PySem.W.alongIn K "__init__" (cd.mro.drop 1) = some (some vi)
section
variable {CX : CXT} {P : Program} {w : World} {K : PySem.W.Frag} {mg : Str → Option Value} {base : Heap} {C f cc : Addr} {fd : FuncData} {qual x : Str} {scope : Scope} {A : Around} {outer : List Env} {s : Shared} {H : Hp} {E : XK}
theorem Sup.cells (S : Sup P K C f cc fd qual x scope) {y : Str} {c : Addr} (h : (callEnv fd s.heap.objs.size f).cells.lookup y = some c) : y = "__class__" ∧ c = cc := by
  have h : fd.closure.lookup y = some c := h
  rw [S.clo] at h
  unfold List.lookup at h
  split at h
  · rename_i e
    exact ⟨by simpa using e, (Option.some.inj h).symm⟩
  · cases h
theorem Sup.inv (S : Sup P K C f cc fd qual x scope) (hd : A.handled = none) (e0 : Env0 P w K mg base A outer s H) {v0 v1 : V} {u0 u1 : Value} (r0 : RelV v0 u0) (r1 : RelV v1 u1) {h0 : Heap} {tk : Nat}
    (ns : h0.Ns s.heap.objs.size (fun y => [(x, u1), (("self" : Str), u0)].lookup y)) (ke : ∀ b o, s.heap.get? b = some o → h0.get? b = some o) :
    Inv (cxS CX P w K mg base ["self", x] fd f A outer s H E) [] [some v0, some v1] H { s with heap := h0, toks := tk } := by
  have fs : fd.scope = scope := S.fsc
  obtain ⟨oc, hc, dc⟩ := S.cel
  have kb := e0.mod.kin
  refine ⟨⟨e0.mod, by show fd.scope.kind = _; rw [fs]; exact S.kind, S.glo, S.blt, Nat.le_refl _, fun y z c h1 h2 => (S.cells h1).1.trans (S.cells h2).1.symm, fun y hy => ?_, fun _ _ z _ => absurd z Bool.false_ne_true, fun _ => hd, Around.frames_deeper e0.frames, .inr ⟨rfl, rfl⟩, fun b z => (by cases z), e0.bs, e0.bsz, fun b o _ z => (by cases z), fun b z => (by cases z), e0.funs, e0.frf⟩,
    rfl, e0.bare, Un.kept ke, ⟨_, ns, fun i y v h1 h2 _ => ?_⟩, fun y c h => ⟨some (.ref C), ?_⟩, e0.hok.fresh (Nat.le_refl _), fun y c h => ?_, fun p hp => (by cases hp), e0.hok.kept ke, rfl⟩
  · refine ⟨cc, ?_⟩
    have hy : fd.scope.names.lookup y = some .cell ∨ fd.scope.names.lookup y = some .free := hy
    rw [fs] at hy
    have e : y = "__class__" := by
      rcases hy with hy | hy
      · exact absurd rfl (S.only _ (PySem.mem_of_lookup hy)).1
      · exact (S.only _ (PySem.mem_of_lookup hy)).2 rfl
    subst e
    show fd.closure.lookup _ = _
    rw [S.clo]
    rfl
  · have hy : ∀ y, scope.names.lookup y = some .local → (callEnv fd s.heap.objs.size f).kindOf y = some .local := fun y k => by
      show fd.scope.names.lookup y = _
      rw [fs]
      exact k
    match i, h1, h2 with
    | 0, h1, h2 =>
      cases h1
      cases h2
      refine ⟨u0, r0, .inl ⟨hy _ S.sf, ?_⟩⟩
      have : (("self" : Str) == x) = false := by simpa using fun z => S.nx z.symm
      simp [List.lookup, this]
    | 1, h1, h2 =>
      cases h1
      cases h2
      refine ⟨u1, r1, .inl ⟨hy _ S.sx, ?_⟩⟩
      simp [List.lookup]
    | i + 2, h1, h2 => simp at h2
  · rw [(S.cells h).2]
    exact ⟨oc, ke _ _ (e0.bs _ _ (kb _ _ hc)).1, dc⟩
  · rw [(S.cells h).2]
    exact (e0.bs _ _ (kb _ _ hc)).2
/-- the def's promise: te is what e asks -/
def spS (C : Addr) (fld : Str) (te : TE) : Sp := fun vs H Q _ => ∃ (a : Addr) (v : V), vs = [.ref a, v] ∧ H a = some (exo a C none) ∧ te [some (.ref a), some v] H (fun _ H' => H' = H) ∧ ∀ dx, H dx = none → dx ≠ a → Q .non (upd (upd H dx (exd dx [(fld, v)])) a (exo a C (some dx)))
theorem name_blt {X : Cx} {E : Value → Shared → Prop} {pins : List (Addr × Obj)} {s : Shared} {σ : L2.St} {H : Hp} {y : Str} {u : Value} {Q : Value → Shared → Prop} (I : L2.Inv X pins σ H s) (hg : X.env.kindOf y = some .globalImplicit) (hm : X.mg y = none) (hv : bootBuiltins y = some u) (h : Q u s)
    (hn : y ≠ "__name__") : wpAny (model X.prog X.w) X.A (loadName X.env y) Q E s := by
  obtain ⟨mb, h1, h2⟩ := I.mod.blt
  unfold loadName
  simp only [Env.blockKind, I.ok.kind, hg, ScopeKind.isAnnotationScope, Bool.false_and, Bool.false_eq_true, if_false]
  exact Calls.loadGlobal_builtin (by rw [I.ok.glob]; exact I.mod.glob.keeps I.bk) hm (by rw [I.ok.blt]; exact h1.keeps I.bk) ((h2 y hn).trans hv) h
theorem Sup.ok {k : Nat} {fld : Str} {e : Expr} {te : TE} {p0 p1 p2 p3 p4 p5 p6 p7 p8 : Pos} (S : Sup P K C f cc fd qual x scope) (hm : mg "super" = none)
    (hb : fd.body = .stmts [.Expr (.Call (.Attribute (.Call (.Name "super" p0) [] [] p1) "__init__" p2) [e] [] p3) p4, .Assign [.Attribute (.Name "self" p5) fld p6] (.Name x p7) p8])
    (fno : PySem.W.findIn K (.ref C) fld = some none) (he : ∀ A outer s H E, PE (cxS CX P w K mg base ["self", x] fd f A outer s H E) e te)
    (hxd : (x == ("__debug__" : Str)) = false) (hxc : (x == ("__classdict__" : Str)) = false) (hsw : ∀ {X : Cx}, swapsWith (.Name x p7) (some (.Attribute (.Name "self" p5) fld p6)) p8.line X.env = pure false)
    (hst : ∀ env, starEach [e] env = (false, eval e env) :: starEach [] env)
    (hev : ∀ env, ∃ pl, eval (.Call (.Attribute (.Call (.Name "super" p0) [] [] p1) "__init__" p2) [e] [] p3) env = (do
      let ov ← attributeBase (.Call (.Name "super" p0) [] [] p1) "__init__" env (eval (.Call (.Name "super" p0) [] [] p1) env)
      standAt p2.atName
      let (g, first) ← holding [ov] (getMethod ov "__init__" pl)
      callWith p3 g first (backTo p3 (starEach [e] env)) [])) :
    FnOk P w K mg base CX (k + 1) f fd ["self", x] (spS C fld te) := by
  refine ⟨fun vs H Q E ⟨a, v, z, _⟩ => by rw [z]; rfl, fun A outer s H args us vs Q E hr e0 hbd r hsp => ?_⟩
  obtain ⟨a, v, rfl, ha, hte, hq⟩ := hsp
  cases r with
  | @cons _ u0 _ ur r0 r' =>
  cases r' with
  | @cons _ u1 _ ur r1 r'' =>
  cases r''
  obtain rfl : u0 = Value.ref a := r0
  have fs := S.fsc
  have KX : K.In s.heap := e0.mod.kin.keeps fun b o e => (e0.bs b o e).1
  have lim : s.heap.NoLimit := e0.mod.nolimit.keeps fun b o e => (e0.bs b o e).1
  obtain ⟨oc, od, osl, lk⟩ := S.at_
  have hcode : s.heap.CodeRec fd.code fd.qualname := by rw [S.fq]; exact PySem.W.codeRec_of KX S.cod
  refine ks_codeAny_call_defAt hr.depth (KX _ _ lk) rfl lim hcode hb hbd (fun y hy => (S.only y (by rw [← fs]; exact hy)).1) (fun y hy => ?_) (fun h0 hns ke => ?_) (by rw [fs]; exact S.co) (by rw [fs]; exact S.gen) (by rw [fs]; exact S.kind)
  · rw [fs]
    have hy : y = (("self" : Str), Value.ref a) ∨ y = (x, u1) := by simpa using hy
    rcases hy with rfl | rfl
    · exact S.sf
    · exact S.sx
  have I : L2.Inv (cxS CX P w K mg base ["self", x] fd f A outer s H E) [] [some (.ref a), some v] H { s with heap := h0, toks := s.toks + ((["self", x] : List Str).zip [Value.ref a, u1]).length } := S.inv hr.hd e0 (v0 := .ref a) rfl r1 hns ke
  have kd : ∀ y q, scope.names.lookup y = q → fd.scope.names.lookup y = q := fun y q z => by rw [fs]; exact z
  obtain ⟨ar, har, ear⟩ := S.par
  obtain ⟨kc, okc, kvs, file, tf, hkc, lkc, dkc, vkc, hfile⟩ := S.cd3
  obtain ⟨oce, lce, dce⟩ := S.cel
  have K0 : K.In h0 := fun b o q => ke _ _ (KX b o q)
  have KI := I.kIn
  have noi : interactive (callEnv fd s.heap.objs.size f) = false := by
    have k1 : (callEnv fd s.heap.objs.size f).scope.kind = .function := I.ok.kind
    unfold interactive
    simp [k1]
  obtain ⟨pl, hev⟩ := hev (callEnv fd s.heap.objs.size f)
  refine ks_wpAt_execs_cons (ks_wpAt_Expr_any (hi := noi) (ks_wpAt_MethodCall (ks_wpAt_super_base (f := f) (cc := kc) (ar := ar) (kd _ _ ?_) (kd _ _ S.sc) (by decide) rfl (K0 _ _ lk) rfl har hkc (K0 _ _ lkc) dkc vkc hfile S.top ?_) hev))
  · exact S.ss
  refine name_blt I ?_ hm PyProof.Rows.Boot.«super» ⟨rfl, ?_⟩ (by decide)
  · exact kd _ _ S.ss
  refine wpAny_loadName_free (c := cc) (v := .ref C) I.ok.kind (kd _ _ S.sc) ?_ ⟨oce, K0 _ _ lce, dce⟩ ?_
  · show fd.closure.lookup _ = _
    rw [S.clo]
    rfl
  -- self, the class, super itself
  have lx : (callEnv fd s.heap.objs.size f).kindOf ar.arg = some .local := by rw [ear]; exact kd _ _ S.sf
  have self0 : [(x, u1), (("self" : Str), Value.ref a)].lookup ar.arg = some (.ref a) := by
    rw [ear]
    have : (("self" : Str) == x) = false := by simpa using fun z => S.nx z.symm
    simp [List.lookup, this]
  refine wpAny_loadName_local I.ok.kind lx hns self0 ?_
  obtain ⟨nm, qn, nn, bs, bm, sn, sub, ab, col, dd, k0, k1, k2, k3, k5, hC, hbm⟩ := S.oex.cls
  have cC := K0 _ _ hC
  have lC : PySem.W.clsIn K C = some { name := nm, bases := bs, mro := .ref C :: bm, ns := nn, qualname := qn, hasDict := true, slotNames := sn, subclasses := sub, abstract := ab, collection := col, hasDel := false } := by unfold PySem.W.clsIn; rw [hC] <;> rfl
  obtain ⟨t1, ho⟩ := exo_at I.hok ha
  have apart : a ≠ C := fun z => by
    have := (e0.bs _ _ (e0.mod.kin _ _ hC)).2
    rw [← z, ha] at this
    cases this
  refine ks_wpAny_isType_cls cC rfl ⟨rfl, ?_⟩
  refine ks_wpAny_call_super cC rfl ho rfl (fun c z => by cases z) (PySem.W.looks_subIn K0 S.s1) fun h1 hz k1 => ?_
  have K1 : K.In h1 := fun b o q => k1 _ _ (K0 b o q)
  have ho1 := k1 _ _ ho
  have inst : PySem.W.InstAt h1 a { cls := .ref C, dict := none, data := .fields #[.ref t1, .none, .none, .none, .bool false, .none] } C none := ⟨ho1, rfl, rfl, trivial⟩
  refine vi_meth hz (PySem.W.looks_opaque K1 S.op) ((PySem.W.looks_clsIn K1 lC).andThen .now) (ESX.drop_own C bm) K1 (S.has _ lC) apart (inst.type.andThen (PySem.W.looks_subIn K1 S.s2)) ?_
  have ez : starEach [] (callEnv fd s.heap.objs.size f) = [] := rfl
  refine vb_with (a := a) rfl (hst _) ?_
  rw [hst]
  have I1 : L2.Inv (cxS CX P w K mg base ["self", x] fd f A outer s H E) [] [some (.ref a), some v] H ⟨h1, s.gens, s.drawn, s.toks, s.os⟩ := I.kept (h' := h1) k1
  have fz : H h1.objs.size = none := I1.hok.fresh (Nat.le_refl _)
  have I2 : L2.Inv (cxS CX P w K mg base ["self", x] fd f A outer s H E) [] [some (.ref a), some v] H ⟨h1.push (vb a), s.gens, s.drawn, s.toks + ((["self", x] : List Str).zip [Value.ref a, u1]).length + 1, s.os⟩ := I1.kept (h' := h1.push (vb a)) fun b o q => Heap.get?_push_of_some _ q
  have I3 := I2.pins_of (pins' := [(h1.objs.size, vb a)]) fun p hp => by
    rw [List.mem_singleton.mp hp]
    exact ⟨Heap.get?_push_size _ rfl, fz, Nat.ne_of_gt I1.lt, I1.nofs (Nat.le_refl _), fun _ z => by cases z⟩
  refine Calls.spliced_cons (wpAny_mono ((he A outer s H E).run _ _ _ H (fun _ H' => H' = H) I3 hte) (fun u s2 ⟨y, H2, J, ry, eH⟩ => Calls.spliced_nil ⟨?_, ?_⟩) fun _ _ z => z)
  · exact (J.pin _ (List.mem_append_right _ (List.mem_singleton.mpr rfl))).1
  subst eH
  obtain ⟨t2, ho2⟩ := exo_at J.hok ha
  obtain ⟨hp2, g2, d2, tk2, os2⟩ := s2
  refine vb_call (J.kIn _ _ hC) ho2 (J.pin _ (List.mem_append_right _ (List.mem_singleton.mpr rfl))).1 (by show 1 ≤ sizeLine; unfold sizeLine; omega) fun h3 t3 k3 hx => ?_
  have Z := J.write (t' := tk2) (x := a) (e := a) (o := exo a C none) (by rw [ha]; exact True.intro) (.inl rfl) k3 ⟨_, hx⟩ (exo_ok hx)
  have eu : upd H2 a (exo a C none) = H2 := by
    funext b
    by_cases hb : b = a
    · rw [hb, upd_same, ha]
    · rw [upd_ne hb]
  rw [eu] at Z
  have st : PSs (cxS CX P w K mg base ["self", x] fd f A outer s H2 E) [.Assign [.Attribute (.Name "self" p5) fld p6] (.Name x p7) p8] (tOst K fld (tVar 0) (tVar 1)) :=
    pss_one (ps_ost (pe_var rfl (.inl (kd _ _ S.sf))) (pe_var rfl (.inl (kd _ _ S.sx)) hxd hxc) hsw)
  refine wpAt_of_wpAny (wpAny_mono (st.run _ _ _ _ { nx := fun _ H' => Q .non H', rt := Q } Z ⟨_, rfl, _, rfl, a, C, rfl, S.oex, fno, .inl ⟨ha, fun dx n1 n2 => hq dx n1 n2⟩⟩) (fun fl s' hs => ?_) fun e s' hs => hs)
  have fin : ∀ {σ' : L2.St} {H' : Hp} {v' : V} {u' : Value}, L2.Inv (cxS CX P w K mg base ["self", x] fd f A outer s H2 E) [(h1.objs.size, vb a)] σ' H' s' → RelV v' u' → Q v' H' → CE outer P w H2 s Q u' s' :=
    fun {σ' H' v' u'} J rv q => ⟨v', H', J.os, J.bare, J.base, J.hok, rv, q⟩
  cases fl with
  | ret u' =>
    obtain ⟨v', σ', H', J, rv, q⟩ := hs
    exact fin J rv q
  | next =>
    obtain ⟨σ', H', J, q⟩ := hs
    exact fin (v' := V.non) (u' := Value.none) J rfl q
  | brk =>
    obtain ⟨_, _, _, q⟩ := hs
    exact False.elim q
  | cont =>
    obtain ⟨_, _, _, q⟩ := hs
    exact False.elim q
end
end SU

-- part SU3
set_option Elab.async false
set_option linter.all false
set_option maxRecDepth 100000
set_option maxHeartbeats 2000000
/-! isinstance of a caught exception that has fields -/
namespace SU
open PySem PySem.Spec PySem.W PySem.Calls PyProof.Rows L2
section
variable {prog : Program} {w : World} {A : Around} {E : Value → Shared → Prop} {s : Shared} {K : PySem.W.Frag} {a D : Addr} {o : Obj} {od : Option Obj}
theorem cls_found (C : ExcC K D) : findObj K D od "__class__" = some (.bind (.builtin "getset_descriptor.__get__") (.builtin "object.__class__")) := by
  obtain ⟨cd, hc, _⟩ := any_some C.hd
  have h1 := C.ha
  have h2 := C.hn
  have h3 := C.ht
  unfold findObj
  rw [hc, Option.bind_some, h1, Option.bind_some]
  simp [h2, h3]
theorem cls_asked {R : Option Value → Shared → Prop} (C : ExcC K D) (X : K.In s.heap) (I : InstAt s.heap a o D od) (r : R (some (.ref D)) { s with toks := s.toks + 1 }) : wpAny (model prog w) A (getAttr? (.ref a) "__class__") R E s := by
  obtain ⟨hp, g, d, t, os⟩ := s
  have ty := I.type (M := model prog w)
  have ga := looks_findIn (M := model prog w) X C.hg
  have gt := looks_findIn (M := model prog w) X C.hk
  have fo := looks_find (M := model prog w) X I (cls_found C)
  have be : Looks (model prog w) hp (isInstance (.ref a) (.type "BaseException")) true := ty.andThen (looks_subIn X C.hs)
  have n1 : (Value.builtin "BaseException.__getattribute__" == Value.builtin "object.__getattribute__") = false := by decide +kernel
  have n2 : (onTheHeap (Value.ref D) && Value.builtin "BaseException.__getattribute__" == Value.builtin "object.__getattribute__") = false := by rw [n1, Bool.and_false]
  have n3 : (false && onTheHeap (Value.builtin "BaseException.__getattribute__")) = false := rfl
  have bnd := PySem.F.excAttr_ValueError.ga.bind (.ref a)
  unfold getAttr? getAttrBy? getAttrBy
  refine wpAny_bind (wpAny_mkText (wpAny_bind (wpAny_attempt (wpAny_holding (wpAny_bind (ty.at (wpAny_bind (ga.at ?_))))))))
  show wpAny _ _ (if (onTheHeap (Value.ref D) && Value.builtin "BaseException.__getattribute__" == Value.builtin "object.__getattribute__") = true then _ else _) _ _ _
  rw [n2, if_neg Bool.false_ne_true]
  unfold getAttrByItsOwn hookBefore
  refine wpAny_bind ?_
  have n4 : onTheHeap (Value.ref D) = true := rfl
  rw [if_pos n4]
  refine gt.at (wpAny_bind (wpAny_attempt (wpAny_holding ?_)))
  unfold callGetattribute
  rw [n3, if_neg Bool.false_ne_true]
  unfold boundAndCalled
  rw [bnd]
  refine wpAny_bind (wpAny_pure ?_)
  show wpAny _ _ (call (.builtin "BaseException.__getattribute__") [.ref a, .str "__class__" t]) _ _ _
  refine wpAny_call (codeAny_call_builtin PySem.F.excAttr_ValueError.ga.plain PySem.F.entry_bexc_ga (@check_slot (model prog w) _ _ ⟨hp, g, d, t + 1, os⟩ "BaseException.__getattribute__" "BaseException" "__getattribute__" (.ref a) [.str "__class__" t] [] _ (by decide +kernel) (by decide +kernel) be (PySem.F.args_bexc_ga (.ref a) (.str "__class__" t)) ?_))
  unfold Builtin.«object.__getattribute__»
  refine wpAny_bind (wpAny_of_eq (a := ((Value.ref a : Value), [Value.str "__class__" t])) (by first | rfl | (simp only [slotArgs]; rfl)) (wpAny_bind (wpAny_pure (wpAny_bind (ty.at (wpAny_bind (fo.at ?_)))))))
  show wpAny _ _ (holding [Value.builtin "object.__class__"] (call (.builtin "getset_descriptor.__get__") [.builtin "object.__class__", .ref a, .ref D]) >>= ret) _ _ _
  refine wpAny_bind (wpAny_holding (wpAny_call (class_get (s := ⟨hp, g, d, t + 1, os⟩) (ox := o) (od := od) X I C.hm (wpAny_pure ?_))))
  show wpAny _ _ (handedOut (.ref D)) _ _ _
  have ho : handedOut (.ref D) = _ := handedOut_of (v := .ref D) rfl
  rw [ho]
  first
    | exact wpAny_pure (wpAny_pure r)
    | exact wpAny_pure r
    | exact wpAny_pure (wpAny_bind (wpAny_pure (wpAny_pure r)))
theorem kit_od (C : ExcC K D) : KitX K (.ref a) (.ref D) (fun h => ∃ od, InstAt h a o D od) where
  ty := fun _ _ _ ⟨_, I⟩ => I.type
  it := fun _ _ X _ => by
    obtain ⟨cd, hc, _⟩ := any_some C.hd
    unfold clsIn at hc
    split at hc
    · rename_i lk
      intro A' Q' E' s' k q
      unfold isType loadHead
      exact wpAny_bind (wpAny_loadPart (k _ _ (X _ _ lk)) (wpAny_pure q))
    · cases hc
  ne := fun h tp dd its n sl X htp => by
    obtain ⟨cd, hc, _⟩ := any_some C.hd
    unfold clsIn at hc
    split at hc
    · rename_i lk
      refine Bool.eq_false_iff.mpr fun q => ?_
      have e : D = tp := Value.ref.inj (beq_iff_eq.mp q)
      rw [← e, X _ _ lk] at htp
      cases htp
    · cases hc
  ca := fun X ⟨_, I⟩ k => cls_asked C X I k
end
/-- isinstance(e, c): e is caught, has fields -/
theorem call_isF {X : Cx} {a D dd : Addr} {oe : Obj} {pn : List (Addr × Obj)} (C : ExcC X.K D) (hz : Zc (.ref D) (some dd) oe) (hf : ∃ vs, oe.data = .fields vs) :
    CallR (X.suite a ((a, oe) :: pn)) (.builtin "isinstance") (fun xs H Q => (∃ fs, H dd = some (.xd fs)) ∧ rIsE X.K D a xs H Q) := by
  intro pins s σ H xs us Q I r h
  obtain ⟨⟨fs, hfs⟩, c, cv, b, rfl, hcv, e, q⟩ := h
  cases r with
  | cons rx rr =>
    cases rr with
    | cons rt rr =>
      cases rr
      cases rx
      have ec := hcv _ rt
      subst ec
      obtain ⟨hget, _⟩ := I.pin (a, oe) (List.mem_append.mpr (.inl List.mem_cons_self))
      have hx : ObjOk X.prog X.w H s.heap dd (.xd fs) := I.hok dd _ hfs
      obtain ⟨mA, hns, hr⟩ := hx
      obtain ⟨ob, ho, hl⟩ := lookIn_ns hns
      obtain ⟨vs, hv⟩ := hf
      have J : InstAt s.heap a oe D (some ob) := ⟨hget, hz.1, by unfold notCls; rw [hv] <;> rfl, by rw [hz.2]; exact ho⟩
      exact kia_one (kit_od C) I.kIn ⟨_, J⟩ e (fun z => nomatch z) fun tk => ⟨.bl b, H, I.kept (t' := tk) fun _ _ z => z, rfl, q⟩
end SU

-- part HdSup
set_option Elab.async false
set_option linter.all false
set_option maxRecDepth 100000
set_option maxHeartbeats 2000000
/-! a Hook that tells the exceptions whose __init__ calls super() -/
namespace Hd
open PySem PySem.Spec PyProof.Rows L2 He SU
structure SuD where
  cls : Str
  x : Str
  fld : Str
  qual : Str
  params : Arguments
  body : List Stmt
  scope : Scope
abbrev SuV : Type := Option (Str × Str × Arguments × FuncBody × Scope × Addr × List Str × Addr)
def suA (K : PySem.W.Frag) (d : SuD) : Addr := ma K (ga K d.cls) "__init__"
def suO (K : PySem.W.Frag) (d : SuD) : SuV := match K.lookup (suA K d) with
  | some ⟨_, _, .func fd, _⟩ => some (fd.name, fd.qualname, fd.params, fd.body, fd.scope, fd.globals, fd.closure.map (·.1), fd.builtins)
  | _ => none
def SuD.val (d : SuD) : SuV := some ("__init__", d.qual, d.params, .stmts d.body, d.scope, mainGlobals, [("__class__" : Str)], builtinsNs)
/-- the class -/
def clsB (K : PySem.W.Frag) (C : Addr) : Bool := match K.lookup C with
  | some ⟨.type "type", _, .cls cd, sl⟩ => (match cd.mro, sl.toList with
    | .ref C' :: bm, [_, _, _, _, some (.builtin n), _] => decide (C' = C) && (decide (n = "ValueError.__new__") && (!cd.hasDel && (cd.hasDict && (PySem.HandSPX.refsVE bm && eqO (PySem.W.alongIn K "__init__" bm) (some (some vi))))))
    | _, _ => false)
  | _ => false
/-- its def's code and cell -/
def codB (P : Program) (K : PySem.W.Frag) (C : Addr) (qual : Str) (fd : FuncData) : Bool := PySem.W.codeIn K fd.code qual && (decide (fd.defaults = .none) && ((match fd.code with
  | .ref kc => (match K.lookup kc with
    | some ⟨_, _, .fields vs, _⟩ => (match (vs[2]? : Option Value) with
      | some (Value.str file _) => ((P.main.file : Str) == file)
      | _ => false)
    | _ => false)
  | _ => false) && (match fd.closure with
    | [(_, cc)] => (match K.lookup cc with
      | some ⟨_, _, .cell (some (.ref C')), _⟩ => decide (C' = C)
      | _ => false)
    | _ => false)))
def SuD.ok (P : Program) (K : PySem.W.Frag) (d : SuD) : Bool := clsB K (ga K d.cls) && (eqO (PySem.W.findIn K (.ref (ga K d.cls)) "__setattr__") (some (some (.builtin "object.__setattr__"))) &&
  (decide (PySem.W.subIn K (.ref (ga K d.cls)) (.type "BaseException") = some true) && (decide (PySem.W.typeIn K (.ref (ga K d.cls)) = some (.type "type")) && (PySem.W.keepIn K (.ref (ga K d.cls)) &&
  (decide (PySem.W.subIn K (.ref (ga K d.cls)) (.ref (ga K d.cls)) = some true) && (decide (PySem.W.subIn K (.ref (ga K d.cls)) (.type "ValueError") = some true) && (eqO (PySem.W.nsIn K cStatics "thirdparty.any") (some none) &&
  (eqO (PySem.W.findIn K (.ref (ga K d.cls)) "__init__") (some (some (.ref (suA K d)))) && (decide (PySem.W.typeIn K (.ref (suA K d)) = some (.type "function")) && (eqO (PySem.W.findIn K (.ref (ga K d.cls)) d.fld) (some none) &&
  (match K.lookup (suA K d) with
    | some ⟨_, _, .func fd, _⟩ => codB P K (ga K d.cls) d.qual fd
    | _ => false)))))))))))
theorem clsB_ok {K : PySem.W.Frag} {C : Addr} (h : clsB K C = true) : (∃ nm q N bs bm sn sub ab col dd k0 k1 k2 k3 k5, K.lookup C = some (excClassObj nm q C N bs bm true sn sub ab col dd k0 k1 k2 k3 k5 "ValueError.__new__") ∧ PySem.HandSPX.refsVE bm = true) ∧
    ∀ cd, PySem.W.clsIn K C = some cd → PySem.W.alongIn K "__init__" (cd.mro.drop 1) = some (some vi) := by
  unfold clsB at h
  split at h
  · rename_i dd cd sl lk
    split at h
    · rename_i C' bm k0 k1 k2 k3 n k5 hm hs
      obtain ⟨h1, h⟩ := ba h
      obtain ⟨h2, h⟩ := ba h
      obtain ⟨h3, h⟩ := ba h
      obtain ⟨h4, h⟩ := ba h
      obtain ⟨h5, h6⟩ := ba h
      have e1 : C' = C := of_decide_eq_true h1
      have e2 : n = "ValueError.__new__" := of_decide_eq_true h2
      obtain ⟨nm, bs, mro, ns, qn, hd, sn, sub, ab, col, del⟩ := cd
      dsimp only at hm h3 h4
      have e3 : del = false := by simpa using h3
      have e4 : sl = #[k0, k1, k2, k3, some (.builtin n), k5] := by
        apply Array.ext'
        exact hs
      subst e1 e2 hm e3 e4 h4
      refine ⟨⟨nm, qn, ns, bs, bm, sn, sub, ab, col, dd, k0, k1, k2, k3, k5, lk, h5⟩, fun cd hc => ?_⟩
      unfold PySem.W.clsIn at hc
      rw [lk] at hc
      cases hc
      exact eqO_ok h6
    · cases h
  · cases h
theorem SuD.sup {P : Program} {K : PySem.W.Frag} {d : SuD} (e : suO K d = d.val) (c : d.ok P K = true) (par : ∃ ar : Arg, (d.params.posonlyargs ++ d.params.args).head? = some ar ∧ ar.arg = "self") (top : (P.main.scope.names.lookup ("super" : Str)).isSome = false)
    (kind : d.scope.kind = .function) (co : d.scope.isCoroutine = false) (gen : d.scope.isGenerator = false) (sf : d.scope.names.lookup ("self" : Str) = some .local) (sx : d.scope.names.lookup d.x = some .local) (sc : d.scope.names.lookup ("__class__" : Str) = some .free) (ss : d.scope.names.lookup ("super" : Str) = some .globalImplicit)
    (nx : d.x ≠ "self") (only : ∀ y ∈ d.scope.names, y.2 ≠ .cell ∧ (y.2 = .free → y.1 = "__class__"))
    (bind : ∀ (clo : List (Str × Addr)) (kV doc pm : Value) (an : Option Addr) (cdv ct : Value) (us : List Value), us.length = 2 → bindArgs { name := "__init__", qualname := d.qual, params := d.params, body := .stmts d.body, scope := d.scope, globals := mainGlobals, closure := clo, defaults := .none, kwdefaults := kV, doc, pyModule := pm, annotations := an, code := cdv, closureTuple := ct, builtins := builtinsNs } ⟨us, []⟩ = pure ((["self", d.x] : List Str).zip us)) :
    ∃ cc fd, Sup P K (ga K d.cls) (suA K d) cc fd d.qual d.x d.scope ∧ fd.body = .stmts d.body ∧ Binds K fd ["self", d.x] [] ∧ PySem.W.findIn K (.ref (ga K d.cls)) "__init__" = some (some (.ref (suA K d))) ∧ PySem.W.typeIn K (.ref (suA K d)) = some (.type "function") ∧ PySem.W.findIn K (.ref (ga K d.cls)) d.fld = some none := by
  obtain ⟨c1, c⟩ := ba c
  obtain ⟨c2, c⟩ := ba c
  obtain ⟨c3, c⟩ := ba c
  obtain ⟨c4, c⟩ := ba c
  obtain ⟨c5, c⟩ := ba c
  obtain ⟨c6, c⟩ := ba c
  obtain ⟨c7, c⟩ := ba c
  obtain ⟨c8, c⟩ := ba c
  obtain ⟨c9, c⟩ := ba c
  obtain ⟨c10, c⟩ := ba c
  obtain ⟨c11, c12⟩ := ba c
  obtain ⟨k1, k2⟩ := clsB_ok c1
  unfold suO at e
  cases q : K.lookup (suA K d) with
  | none =>
    rw [q] at c12
    cases c12
  | some o =>
    obtain ⟨oc, od, dt, osl⟩ := o
    rw [q] at c12 e
    cases dt with
    | func fd =>
      obtain ⟨n1, n2, n3, n4, n5, n6, n7, n8, n9, n10, n11, n12, n13, n14, n15⟩ := fd
      have e2 : (some (n1, n2, n3, n4, n5, n6, n7.map (·.1), n15) : SuV) = some (("__init__" : Str), d.qual, d.params, FuncBody.stmts d.body, d.scope, mainGlobals, [("__class__" : Str)], builtinsNs) := e
      simp only [Option.some.injEq, Prod.mk.injEq] at e2
      obtain ⟨h1, h2, h3, h4, h5, h6, h7, h9⟩ := e2
      obtain ⟨z1, z2⟩ := ba c12
      obtain ⟨z3, z4⟩ := ba z2
      obtain ⟨z5, z6⟩ := ba z4
      have y3 : n8 = .none := of_decide_eq_true z3
      dsimp only at z1 z5 z6
      subst h1 h2 h3 h4 h5 h6 h9 y3
      split at z6
      · rename_i nc cc
        have h7 : nc = ("__class__" : Str) := by simpa using h7
        subst h7
        split at z6
        · rename_i o1 o2 C' o3 lc
          have e5 : C' = ga K d.cls := of_decide_eq_true z6
          subst e5
          split at z5
          · rename_i kc
            split at z5
            · rename_i o4 o5 vs o6 lk
              split at z5
              · rename_i file tf hv
                refine ⟨cc, _, ⟨⟨oc, od, osl, q⟩, rfl, rfl, par, rfl, rfl, rfl, z1, ⟨kc, _, vs, file, tf, rfl, lk, rfl, hv, z5⟩, top, ⟨_, lc, rfl⟩, kind, co, gen, sf, sx, sc, ss, nx, only, ⟨k1, eqO_ok c2, of_decide_eq_true c3, of_decide_eq_true c4, c5⟩, of_decide_eq_true c6, of_decide_eq_true c7, eqO_ok c8, k2⟩, rfl, .all fun us hu => bind _ _ _ _ _ _ _ us hu, eqO_ok c9, of_decide_eq_true c10, eqO_ok c11⟩
              · cases z5
            · cases z5
          · cases z5
        · cases z6
      · cases z6
    | _ => cases c12
theorem says_at {fa : List Fa} {fn : List DefD} {ts : List Tab} {tf : List Defn} {ex : PySem.W.Frag → Bool} {w : World} {h : Heap} {as : List Addr} (e1 : obsT fa fn ts (frT h.get? as) = valT fn ts w)
    (e2 : (ex (frT h.get? as) && tabsB h.get? tf (frT h.get? as)) = true) : SaysX fa fn ts tf ex w h (frT h.get? as) := by
  obtain ⟨g1, g2⟩ := ba e2
  have each : ∀ p ∈ tf, PySem.W.codeHdIn (frT h.get? as) (cT (frT h.get? as) p).1 (cT (frT h.get? as) p).2 = true ∧ ∃ o, h.get? (cT (frT h.get? as) p).2 = some o ∧ emptyTab o = true := fun p hp => by
    obtain ⟨g3, g4⟩ := ba (List.all_eq_true.mp g2 p hp)
    refine ⟨g3, ?_⟩
    split at g4
    · rename_i o q
      exact ⟨o, q, g4⟩
    · cases g4
  refine ⟨e1, g1, fun p hp => (each p hp).1, fun p hp => ?_, fun p hp => ?_⟩
  · obtain ⟨_, o, q, z⟩ := each p hp
    exact frT_none q z
  · obtain ⟨_, o, q, z⟩ := each p hp
    rw [q, emptyTab_eq z]
def asS (g : Addr → Option Obj) (n : Nat) : List Addr := cStatics :: asD g n
abbrev AlS : Type := AlP × List SuV
section
variable (P : Program) (n : Nat) (fa : List Fa) (fn : List DefD) (ts : List Tab) (tf : List Defn) (ex : PySem.W.Frag → Bool) (ps : List PrD) (ss : List SuD)
def exS (K : PySem.W.Frag) : Bool := ex K && ss.all fun d => d.ok P K
def obsAt (g : Addr → Option Obj) (as : List Addr) : AlS := (((obsT fa fn ts (frT g as), (exS P ex ss (frT g as) && ps.all fun d => d.ok (frT g as)) && tabsB g tf (frT g as)), ps.map fun d => fnP (frT g as) (gtrA (frT g as) d.cls d.f)), ss.map (suO (frT g as)))
def obsS (g : Addr → Option Obj) : AlS := obsAt P fa fn ts tf ex ps ss g (asS g n)
def valS (w : World) : AlS := (valP fn ts ps w, ss.map SuD.val)
structure SaysS (w : World) (h : Heap) (K : PySem.W.Frag) : Prop where
  p : SaysP fa fn ts tf (exS P ex ss) ps w h K
  s : ss.map (suO K) = ss.map SuD.val
def hookS : PySem.W.Hook where
  α := AlS
  obs := fun s => obsS P n fa fn ts tf ex ps ss s.heap.get?
  val := fun w => valS fn ts ps ss w
  says := fun w h => ∃ K : PySem.W.Frag, K.In h ∧ SaysS P fa fn ts tf ex ps ss w h K
  of := fun _ _ e => ⟨_, frT_in, ⟨says_at (congrArg (fun z : AlS => z.1.1.1) e) (congrArg (fun z : AlS => z.1.1.2) e), congrArg (fun z : AlS => z.1.2) e⟩, congrArg (fun z : AlS => z.2) e⟩
  keeps := fun _ _ _ ⟨K, hK, c⟩ k => ⟨K, PySem.W.Frag.In.keeps hK k, ⟨⟨c.p.x.t, c.p.x.more, c.p.x.hd, c.p.x.out, fun p hp => k _ _ (c.p.x.empty p hp)⟩, c.p.p⟩, c.s⟩
end
section
variable {P : Program} {n : Nat} {fa : List Fa} {fn : List DefD} {ts : List Tab} {tf : List Defn} {ex : PySem.W.Frag → Bool} {ps : List PrD} {ss : List SuD} {w : World} {h : Heap} {K : PySem.W.Frag}
theorem obsS_eq {g : Addr → Option Obj} {s : Shared} (h : ∀ a, g a = s.heap.get? a) : obsS P n fa fn ts tf ex ps ss g = (hookS P n fa fn ts tf ex ps ss).obs s := by
  have e : g = s.heap.get? := funext h
  rw [e] <;> rfl
theorem SaysS.su (c : SaysS P fa fn ts tf ex ps ss w h K) (i : Nat) {d : SuD} (e : ss[i]? = some d := by rfl) : suO K d = d.val ∧ d.ok P K = true := by
  refine ⟨?_, List.all_eq_true.mp (ba c.p.exB).2 d (List.mem_of_getElem? e)⟩
  have e2 : (ss.map (suO K))[i]? = (ss.map SuD.val)[i]? := by rw [c.s]
  rw [List.getElem?_map, List.getElem?_map, e] at e2
  exact Option.some.inj e2
end
section
variable {P : Program} {n : Nat} {fa : List Fa} {fn : List DefD} {ts : List Tab} {tf : List Defn} {ex ek : PySem.W.Frag → Bool} {ps : List PrD} {ss : List SuD} {w : World} {h : Heap} {K : PySem.W.Frag}
theorem SaysS.weak (c : SaysS P fa fn ts tf (fun K => ex K && ek K) ps ss w h K) : SaysP fa fn ts tf ex ps w h K := by
  refine ⟨⟨c.p.x.t, ?_, c.p.x.hd, c.p.x.out, c.p.x.empty⟩, c.p.p⟩
  obtain ⟨h1, h2⟩ := ba c.p.x.more
  obtain ⟨h3, _⟩ := ba h1
  obtain ⟨h4, _⟩ := ba h3
  show (ex K && ps.all fun d => d.ok K) = true
  rw [h4, h2]
  rfl
theorem SaysS.more (c : SaysS P fa fn ts tf (fun K => ex K && ek K) ps ss w h K) : ek K = true := (ba (ba c.p.exB).1).2
end
/-- what isinstance asks of the class -/
def excB (K : PySem.W.Frag) (C : Addr) : Bool := xfB K C && (eqO (PySem.W.findIn K (.ref C) "__class__") (some (some (.builtin "object.__class__"))) && (eqO (PySem.W.specialIn K (.builtin "object.__class__") "__get__") (some (some (.builtin "getset_descriptor.__get__"))) &&
  (decide (PySem.W.takesIn K (.builtin "object.__class__") = some true) && decide (PySem.W.mroIn K C (.type "object") = some true))))
theorem excB_ok {K : PySem.W.Frag} {C : Addr} (h : excB K C = true) : XfC K C ∧ ExcC K C := by
  obtain ⟨h1, h⟩ := ba h
  obtain ⟨h2, h⟩ := ba h
  obtain ⟨h3, h⟩ := ba h
  obtain ⟨h4, h5⟩ := ba h
  have x := xfB_ok h1
  exact ⟨x, ⟨x.ga, x.gg, x.exC, x.hdC, eqO_ok h2, eqO_ok h3, of_decide_eq_true h4, of_decide_eq_true h5⟩⟩
end Hd

-- part HdTup
set_option Elab.async false
set_option linter.all false
set_option maxRecDepth 100000
set_option maxHeartbeats 2000000
/-! a tuple of texts in the module -/
namespace Hd
open PySem PySem.Spec PyProof.Rows L2
def strTupB (K : PySem.W.Frag) (a : Addr) (ss : List Str) : Bool := match K.lookup a with
  | some ⟨.type c, none, .seq its _, sl⟩ => decide (c = "tuple") && (sl.isEmpty && decide ((its.toList.map fun u => match u with | .str y _ => some y | _ => none) = ss.map some))
  | _ => false
theorem strTup_vals : ∀ {us : List Value} {ss : List Str}, (us.map fun u => match u with | .str y _ => some y | _ => none) = ss.map some → Vals (ss.map V.str) us
  | [], [], _ => .nil
  | [], s :: r, h => by cases h
  | u :: r, [], h => by cases h
  | u :: r, s :: t, h => by
    rw [List.map_cons, List.map_cons, List.cons.injEq] at h
    obtain ⟨h1, h2⟩ := h
    refine .cons ?_ (strTup_vals h2)
    cases u with
    | str y tk => cases h1; exact ⟨tk, rfl⟩
    | _ => cases h1
theorem strTup_ok {K : PySem.W.Frag} {a : Addr} {ss : List Str} (h : strTupB K a ss = true) (hz : ss.length ≤ sizeLine) (H : Hp) : SqT K H a (ss.map V.str) := by
  unfold strTupB at h
  split at h
  · rename_i c its n sl q
    obtain ⟨h1, h2⟩ := He.ba h
    obtain ⟨h2, h3⟩ := He.ba h2
    have e1 : c = "tuple" := of_decide_eq_true h1
    have h3 := of_decide_eq_true h3
    subst e1
    refine .inr ⟨_, its, n, q, rfl, rfl, ?_, strTup_vals h3⟩
    have := congrArg List.length h3
    rw [List.length_map, List.length_map, Array.length_toList] at this
    omega
  · cases h
end Hd

-- part DL1
set_option Elab.async false
set_option linter.all false
set_option maxRecDepth 100000
set_option maxHeartbeats 2000000
/-! data without a heap, what stands for it, states of a def -/
namespace DL
open PySem PySem.Spec PyProof.Rows L2 GxR GS GA GD
/-- data -/
inductive D where
  | non | bl (b : Bool) | int (i : Int) | str (s : Str)
  | lst (xs : List D) | tup (xs : List D)
  | ins (C : Str) (ns : List Str) (xs : List D)
  | dct (ks : List Key) (xs : List D)
  | scr (ns : List Int)
  | xc (a dd : Addr) (f : Str) (z : D)
  | xn (a : Addr)
/-- an address that may be written -/
def isM : HO → Prop
  | .lst _ => True
  | .dK _ => True
  | .ins .. => True
  | _ => False
abbrev AP := Addr → Prop
/-- a list that is locked, or one of the written part -/
def ScrAt (K : PySem.W.Frag) (H : Hp) (a : Addr) (xs : List V) : Prop := (∃ o, H a = some (.frz o (.lst xs))) ∨ SqL K (fun _ => none) a xs
theorem scr_keep {K : PySem.W.Frag} {H H' : Hp} {a : Addr} {xs : List V} (k : ∀ o u, H a = some (.frz o u) → H' a = some (.frz o u)) (r : ScrAt K H a xs) : ScrAt K H' a xs := r.imp (fun ⟨o, h⟩ => ⟨o, k o _ h⟩) id
theorem ScrAt.sq {K : PySem.W.Frag} {H : Hp} {a : Addr} {xs : List V} (r : ScrAt K H a xs) : SqL K H a xs := by
  rcases r with ⟨o, h⟩ | (h | ⟨o, h⟩) | h
  · exact .inl (.inr ⟨o, h⟩)
  · cases h
  · cases h
  · exact .inr h
mutual
/-- v stands for the data at H; no list, dict, instance in it is at an address of A -/
def Rp (K : PySem.W.Frag) (H : Hp) (A : AP) : D → V → Prop
  | .non, v => v = .non
  | .bl b, v => v = .bl b
  | .int i, v => v = .int i
  | .str s, v => v = .str s
  | .lst xs, v => ∃ a vs, v = .ref a ∧ H a = some (.lst vs) ∧ ¬ A a ∧ RpL K H A xs vs
  | .tup xs, v => ∃ a vs, v = .ref a ∧ SqT K H a vs ∧ RpL K H A xs vs
  | .ins C ns xs, v => ∃ a dx vs, v = .ref a ∧ H a = some (.ins (He.ga K C) dx (ns.zip vs)) ∧ ¬ A a ∧ ns.length = vs.length ∧ RpL K H A xs vs
  | .dct ks xs, v => ∃ a vs, v = .ref a ∧ H a = some (.dK (ks.zip vs)) ∧ ¬ A a ∧ ks.length = vs.length ∧ RpL K H A xs vs
  | .scr ns, v => ∃ a, v = .ref a ∧ ScrAt K H a (ns.map V.int)
  | .xc a dd f z, v => v = .ref a ∧ ∃ w, H dd = some (.xd [(f, w)]) ∧ Rp K H A z w
  | .xn a, v => v = .ref a
def RpL (K : PySem.W.Frag) (H : Hp) (A : AP) : List D → List V → Prop
  | [], vs => vs = []
  | d :: r, vs => ∃ v t, vs = v :: t ∧ Rp K H A d v ∧ RpL K H A r t
end
/-- all stands but what is at an address of O; tables may have grown -/
structure Kp (O : AP) (H H' : Hp) : Prop where
  st : ∀ b o, H b = some o → (isM o → ¬ O b) → (∀ ps, o ≠ .tbl ps) → H' b = some o
  tb : ∀ P, TabG H P → TabG H' P
  fr : ∀ b, H' b = none → H b = none
section
variable {O O' : AP} {H H' H'' : Hp}
theorem Kp.refl : Kp O H H := ⟨fun _ _ e _ _ => e, fun _ t => t, fun _ e => e⟩
theorem Kp.of (s : Sm H H') : Kp O H H' := ⟨fun b o e _ n => s.st b o e n, s.tb, s.fr⟩
theorem Kp.sm (k : Kp (fun _ => False) H H') : Sm H H' := ⟨fun b o e n => k.st b o e (fun _ z => z) n, k.tb, k.fr⟩
theorem Kp.trans (k : Kp O H H') (k' : Kp O' H' H'') (h : ∀ b, O' b → O b ∨ H b = none) : Kp O H H'' :=
  ⟨fun b o e m n => k'.st b o (k.st b o e m n) (fun z q => (h b q).elim (m z) fun y => by rw [e] at y; cases y) n, fun P t => k'.tb P (k.tb P t), fun b e => k.fr b (k'.fr b e)⟩
end
/-- from one state to a later one: A what is kept apart, O what is one's own -/
structure Tr (A O : AP) (H : Hp) (A' O' : AP) (H' : Hp) : Prop where
  kp : Kp O H H'
  new : ∀ b, A' b → A b ∨ H b = none
  old : ∀ b, A b → ¬ O b → A' b
  own : ∀ b, O' b → O b ∨ H b = none
section
variable {A O A' O' A'' O'' : AP} {H H' H'' : Hp}
theorem Tr.refl : Tr A O H A O H := ⟨Kp.refl, fun _ h => .inl h, fun _ h _ => h, fun _ h => .inl h⟩
theorem Tr.of (s : Sm H H') : Tr A O H A O H' := ⟨Kp.of s, fun _ h => .inl h, fun _ h _ => h, fun _ h => .inl h⟩
theorem Tr.trans (t : Tr A O H A' O' H') (t' : Tr A' O' H' A'' O'' H'') (tk : ∀ b, A b → H b ≠ none) : Tr A O H A'' O'' H'' :=
  ⟨t.kp.trans t'.kp t.own, fun b h => (t'.new b h).elim (t.new b) fun z => .inr (t.kp.fr b z), fun b h n => t'.old b (t.old b h n) fun z => (t.own b z).elim n (tk b h),
    fun b h => (t'.own b h).elim (t.own b) fun z => .inr (t.kp.fr b z)⟩
end
section
variable {K : PySem.W.Frag} {A A' O : AP} {H H' : Hp}
/-- lists, dicts, instances that stand for data stand on -/
theorem Rd.keep {a : Addr} {o : HO} (ht : ∀ ps, o ≠ .tbl ps) (k : ∀ u, (u = o ∨ ∃ x, u = .frz x o) → H a = some u → H' a = some u) (r : Rd H a o) : Rd H' a o := by
  rcases r with r | ⟨x, r⟩
  · exact .inl (k _ (.inl rfl) r)
  · exact .inr ⟨x, k _ (.inr ⟨x, rfl⟩) r⟩
theorem sqt_keep {a : Addr} {xs : List V} (k : ∀ u, (u = .tup xs ∨ ∃ x, u = .frz x (.tup xs)) → H a = some u → H' a = some u) (r : SqT K H a xs) : SqT K H' a xs := by
  rcases r with (r | ⟨x, r⟩) | r
  · exact .inl (.inl (k _ (.inl rfl) r))
  · exact .inl (.inr ⟨x, k _ (.inr ⟨x, rfl⟩) r⟩)
  · exact .inr r
mutual
theorem Rp.gen (k : ∀ b o, H b = some o → (isM o → ¬ A b) → (∀ ps, o ≠ .tbl ps) → H' b = some o) (n : ∀ b o, H b = some o → isM o → ¬ A b → ¬ A' b) : ∀ (d : D) (v : V), Rp K H A d v → Rp K H' A' d v
  | .non, _, h => by unfold Rp at h ⊢; exact h
  | .bl _, _, h => by unfold Rp at h ⊢; exact h
  | .int _, _, h => by unfold Rp at h ⊢; exact h
  | .str _, _, h => by unfold Rp at h ⊢; exact h
  | .lst xs, v, h => by
    unfold Rp at h ⊢
    obtain ⟨a, vs, e, r, na, t⟩ := h
    exact ⟨a, vs, e, k a _ r (fun _ => na) (fun ps z => by cases z), n a _ r trivial na, RpL.gen k n xs vs t⟩
  | .tup xs, v, h => by
    unfold Rp at h ⊢
    obtain ⟨a, vs, e, r, t⟩ := h
    refine ⟨a, vs, e, sqt_keep (fun u hu q => k a u q (fun m => ?_) (by rintro ps rfl; rcases hu with z | ⟨_, z⟩ <;> cases z)) r, RpL.gen k n xs vs t⟩
    rcases hu with rfl | ⟨x, rfl⟩ <;> exact m.elim
  | .ins C ns xs, v, h => by
    unfold Rp at h ⊢
    obtain ⟨a, dx, vs, e, r, na, l, t⟩ := h
    exact ⟨a, dx, vs, e, k a _ r (fun _ => na) (fun ps z => by cases z), n a _ r trivial na, l, RpL.gen k n xs vs t⟩
  | .dct ks xs, v, h => by
    unfold Rp at h ⊢
    obtain ⟨a, vs, e, r, na, l, t⟩ := h
    exact ⟨a, vs, e, k a _ r (fun _ => na) (fun ps z => by cases z), n a _ r trivial na, l, RpL.gen k n xs vs t⟩
  | .scr ns, v, h => by
    unfold Rp at h ⊢
    obtain ⟨a, e, r⟩ := h
    exact ⟨a, e, scr_keep (fun o u q => k a _ q (fun m => m.elim) (fun ps z => by cases z)) r⟩
  | .xn a, v, h => by unfold Rp at h ⊢; exact h
  | .xc a dd f z, v, h => by
    unfold Rp at h ⊢
    obtain ⟨e, w, r, q⟩ := h
    exact ⟨e, w, k dd _ r (fun m => m.elim) (fun ps z => by cases z), Rp.gen k n z w q⟩
theorem RpL.gen (k : ∀ b o, H b = some o → (isM o → ¬ A b) → (∀ ps, o ≠ .tbl ps) → H' b = some o) (n : ∀ b o, H b = some o → isM o → ¬ A b → ¬ A' b) : ∀ (ds : List D) (vs : List V), RpL K H A ds vs → RpL K H' A' ds vs
  | [], _, h => by unfold RpL at h ⊢; exact h
  | d :: r, vs, h => by
    unfold RpL at h ⊢
    obtain ⟨v, t, e, h1, h2⟩ := h
    exact ⟨v, t, e, Rp.gen k n d v h1, RpL.gen k n r t h2⟩
end
variable {d : D} {v : V} {ds : List D} {vs : List V}
theorem Rp.sm (s : Sm H H') (h : Rp K H A d v) : Rp K H' A d v := Rp.gen (fun b o e _ n => s.st b o e n) (fun _ _ _ _ z => z) d v h
theorem RpL.sm (s : Sm H H') (h : RpL K H A ds vs) : RpL K H' A ds vs := RpL.gen (fun b o e _ n => s.st b o e n) (fun _ _ _ _ z => z) ds vs h
/-- fewer addresses are kept apart -/
theorem Rp.less (n : ∀ b, A' b → A b) (h : Rp K H A d v) : Rp K H A' d v := Rp.gen (fun _ _ e _ _ => e) (fun b _ _ _ z q => z (n b q)) d v h
theorem RpL.less (n : ∀ b, A' b → A b) (h : RpL K H A ds vs) : RpL K H A' ds vs := RpL.gen (fun _ _ e _ _ => e) (fun b _ _ _ z q => z (n b q)) ds vs h
/-- a new address is kept apart -/
theorem Rp.fresh {p : Addr} (hp : H p = none) (h : Rp K H A d v) : Rp K H (fun b => A b ∨ b = p) d v := Rp.gen (fun _ _ e _ _ => e) (fun b o e _ z q => q.elim z fun y => by rw [y, hp] at e; cases e) d v h
theorem RpL.fresh {p : Addr} (hp : H p = none) (h : RpL K H A ds vs) : RpL K H (fun b => A b ∨ b = p) ds vs := RpL.gen (fun _ _ e _ _ => e) (fun b o e _ z q => q.elim z fun y => by rw [y, hp] at e; cases e) ds vs h
theorem Rp.tr {O' : AP} (t : Tr A O H A' O' H') (hO : ∀ b, O b → A b) (h : Rp K H A d v) : Rp K H' A' d v :=
  Rp.gen (fun b o e m n => t.kp.st b o e (fun z q => m z (hO b q)) n) (fun b o e _ z q => (t.new b q).elim z fun y => by rw [e] at y; cases y) d v h
theorem RpL.tr {O' : AP} (t : Tr A O H A' O' H') (hO : ∀ b, O b → A b) (h : RpL K H A ds vs) : RpL K H' A' ds vs :=
  RpL.gen (fun b o e m n => t.kp.st b o e (fun z q => m z (hO b q)) n) (fun b o e _ z q => (t.new b q).elim z fun y => by rw [e] at y; cases y) ds vs h
/-- what is one's own is written -/
theorem Rp.upd {a : Addr} {o : HO} (ha : A a) (hm : ∀ u, H a = some u → isM u) (h : Rp K H A d v) : Rp K (upd H a o) A d v :=
  Rp.gen (fun b u e m n => by rw [upd_ne (fun z => by subst z; exact m (hm u e) ha)]; exact e) (fun _ _ _ _ z => z) d v h
theorem RpL.upd {a : Addr} {o : HO} (ha : A a) (hm : ∀ u, H a = some u → isM u) (h : RpL K H A ds vs) : RpL K (upd H a o) A ds vs :=
  RpL.gen (fun b u e m n => by rw [upd_ne (fun z => by subst z; exact m (hm u e) ha)]; exact e) (fun _ _ _ _ z => z) ds vs h
theorem RpL.nil : RpL K H A [] [] := by unfold RpL; rfl
theorem RpL.cons (h : Rp K H A d v) (t : RpL K H A ds vs) : RpL K H A (d :: ds) (v :: vs) := by unfold RpL; exact ⟨v, vs, rfl, h, t⟩
theorem RpL.uncons (h : RpL K H A (d :: ds) vs) : ∃ v t, vs = v :: t ∧ Rp K H A d v ∧ RpL K H A ds t := by unfold RpL at h; exact h
theorem RpL.unnil (h : RpL K H A [] vs) : vs = [] := by unfold RpL at h; exact h
theorem RpL.len : ∀ {ds : List D} {vs : List V}, RpL K H A ds vs → ds.length = vs.length
  | [], vs, h => by rw [h.unnil]; rfl
  | d :: r, vs, h => by
    obtain ⟨v, t, rfl, _, h2⟩ := h.uncons
    rw [List.length_cons, List.length_cons, RpL.len h2]
theorem RpL.app : ∀ {ds es : List D} {vs ws : List V}, RpL K H A ds vs → RpL K H A es ws → RpL K H A (ds ++ es) (vs ++ ws)
  | [], es, vs, ws, h, g => by rw [h.unnil]; exact g
  | d :: r, es, vs, ws, h, g => by
    obtain ⟨v, t, rfl, h1, h2⟩ := h.uncons
    exact RpL.cons h1 (RpL.app h2 g)
theorem RpL.get : ∀ {ds : List D} {vs : List V} {i : Nat} {v : V}, RpL K H A ds vs → vs[i]? = some v → ∃ d, ds[i]? = some d ∧ Rp K H A d v
  | [], vs, i, v, h, e => by rw [h.unnil] at e; simp at e
  | d :: r, vs, 0, v, h, e => by
    obtain ⟨w, t, rfl, h1, h2⟩ := h.uncons
    have e : w = v := by simpa using e
    exact ⟨d, rfl, by rw [← e]; exact h1⟩
  | d :: r, vs, i + 1, v, h, e => by
    obtain ⟨w, t, rfl, h1, h2⟩ := h.uncons
    obtain ⟨x, e1, e2⟩ := RpL.get (i := i) h2 (by simpa using e)
    exact ⟨x, by simpa using e1, e2⟩
theorem RpL.get' {i : Nat} {d : D} (h : RpL K H A ds vs) (e : ds[i]? = some d) : ∃ v, vs[i]? = some v ∧ Rp K H A d v := by
  have l := h.len
  have hi : i < vs.length := by rw [← l]; exact (List.getElem?_eq_some_iff.mp e).1
  obtain ⟨x, e1, e2⟩ := h.get (i := i) (List.getElem?_eq_getElem hi)
  rw [e] at e1
  cases e1
  exact ⟨_, List.getElem?_eq_getElem hi, e2⟩
theorem RpL.take : ∀ {ds : List D} {vs : List V} (n : Nat), RpL K H A ds vs → RpL K H A (ds.take n) (vs.take n)
  | _, _, 0, _ => by rw [List.take_zero, List.take_zero]; exact RpL.nil
  | [], vs, n + 1, h => by rw [h.unnil, List.take_nil, List.take_nil]; exact RpL.nil
  | d :: r, vs, n + 1, h => by
    obtain ⟨w, t, rfl, h1, h2⟩ := h.uncons
    rw [List.take_succ_cons, List.take_succ_cons]
    exact RpL.cons h1 (RpL.take n h2)
theorem RpL.drop : ∀ {ds : List D} {vs : List V} (n : Nat), RpL K H A ds vs → RpL K H A (ds.drop n) (vs.drop n)
  | _, _, 0, h => h
  | [], vs, n + 1, h => by rw [h.unnil, List.drop_nil, List.drop_nil]; exact RpL.nil
  | d :: r, vs, n + 1, h => by
    obtain ⟨w, t, rfl, h1, h2⟩ := h.uncons
    rw [List.drop_succ_cons, List.drop_succ_cons]
    exact RpL.drop n h2
theorem RpL.rev {ds : List D} : ∀ {vs : List V}, RpL K H A ds vs → RpL K H A ds.reverse vs.reverse := by
  induction ds with
  | nil => intro vs h; rw [h.unnil]; exact RpL.nil
  | cons d r ih =>
    intro vs h
    obtain ⟨w, t, rfl, h1, h2⟩ := h.uncons
    rw [List.reverse_cons, List.reverse_cons]
    exact RpL.app (ih h2) (RpL.cons h1 RpL.nil)
theorem RpL.strs {ss : List Str} : RpL K H A (ss.map .str) (ss.map V.str) := by
  induction ss with
  | nil => exact RpL.nil
  | cons s r ih => exact RpL.cons (by unfold Rp; rfl) ih
theorem RpL.ints {ss : List Int} : RpL K H A (ss.map .int) (ss.map V.int) := by
  induction ss with
  | nil => exact RpL.nil
  | cons s r ih => exact RpL.cons (by unfold Rp; rfl) ih
end
/-- a slot of a def: unknown, data, a list of one's own that may be changed -/
inductive Sl where
  | no | va (d : D) | ow (ds : List D)
/-- the state at H, σ: Ts the tables of the program's defs -/
structure Mt (K : PySem.W.Frag) (Ts : AP) (H : Hp) (A O : AP) (ρ : List Sl) (σ : L2.St) : Prop where
  tab : ∀ P, Ts P → TabG H P
  sub : ∀ b, O b → A b
  trk : ∀ b, A b → H b ≠ none
  len : ρ.length = σ.length
  va : ∀ (i : Nat) (d : D), ρ[i]? = some (Sl.va d) → ∃ v, σ[i]? = some (some v) ∧ Rp K H A d v
  ow : ∀ (i : Nat) (ds : List D), ρ[i]? = some (Sl.ow ds) → ∃ a vs, σ[i]? = some (some (V.ref a)) ∧ O a ∧ H a = some (.lst vs) ∧ RpL K H A ds vs
  ne : ∀ (i j : Nat) (ds es : List D) (a : Addr), ρ[i]? = some (Sl.ow ds) → ρ[j]? = some (Sl.ow es) → σ[i]? = some (some (V.ref a)) → σ[j]? = some (some (V.ref a)) → i = j
  ox : ∀ b, O b → ∃ (i : Nat) (ds : List D), ρ[i]? = some (Sl.ow ds) ∧ σ[i]? = some (some (V.ref b))
/-- O without the list of slot i -/
def Om (O : AP) (ρ : List Sl) (σ : L2.St) (i : Nat) : AP := fun b => O b ∧ ¬ ∃ ds, ρ[i]? = some (Sl.ow ds) ∧ σ[i]? = some (some (V.ref b))
section
variable {K : PySem.W.Frag} {Ts A O A' O' : AP} {H H' : Hp} {ρ : List Sl} {σ : L2.St} {i : Nat} {d : D} {ds : List D}
theorem Mt.sm (m : Mt K Ts H A O ρ σ) (s : Sm H H') : Mt K Ts H' A O ρ σ where
  tab := fun P h => s.tb P (m.tab P h)
  sub := m.sub
  trk := fun b h z => m.trk b h (s.fr b z)
  len := m.len
  va := fun i d e => let ⟨v, h1, h2⟩ := m.va i d e; ⟨v, h1, h2.sm s⟩
  ow := fun i ds e => let ⟨a, vs, h1, h2, h3, h4⟩ := m.ow i ds e; ⟨a, vs, h1, h2, s.st a _ h3 (fun _ z => by cases z), h4.sm s⟩
  ne := m.ne
  ox := m.ox
/-- a new address is kept apart -/
theorem Mt.fresh {p : Addr} (m : Mt K Ts H A O ρ σ) (hp : H p = none) (s : Sm H H') (h' : H' p ≠ none) : Mt K Ts H' (fun b => A b ∨ b = p) O ρ σ where
  tab := fun P h => s.tb P (m.tab P h)
  sub := fun b h => .inl (m.sub b h)
  trk := fun b h z => h.elim (fun q => m.trk b q (s.fr b z)) fun q => by subst q; exact h' z
  len := m.len
  va := fun i d e => let ⟨v, h1, h2⟩ := m.va i d e; ⟨v, h1, (h2.fresh hp).sm s⟩
  ow := fun i ds e => let ⟨a, vs, h1, h2, h3, h4⟩ := m.ow i ds e; ⟨a, vs, h1, h2, s.st a _ h3 (fun _ z => by cases z), (h4.fresh hp).sm s⟩
  ne := m.ne
  ox := m.ox
theorem getElem?_set_ne' {α : Type} {xs : List α} {i j : Nat} {x : α} (h : i ≠ j) : (xs.set i x)[j]? = xs[j]? := by rw [List.getElem?_set, if_neg h]
/-- a slot is forgotten -/
theorem Mt.drop (i : Nat) (m : Mt K Ts H A O ρ σ) : Mt K Ts H A (Om O ρ σ i) (ρ.set i .no) σ ∧ Tr A O H A (Om O ρ σ i) H := by
  have bk : ∀ {j : Nat} {x : Sl}, x ≠ .no → (ρ.set i .no)[j]? = some x → i ≠ j ∧ ρ[j]? = some x := fun {j x} nx q => by
    by_cases hij : i = j
    · rw [List.getElem?_set, if_pos hij] at q
      split at q
      · exact absurd (Option.some.inj q).symm nx
      · cases q
    · exact ⟨hij, by rw [getElem?_set_ne' hij] at q; exact q⟩
  refine ⟨⟨m.tab, fun b h => m.sub b h.1, m.trk, by rw [List.length_set, m.len], fun j e q => ?_, fun j es q => ?_, fun j k es fs a q1 q2 e1 e2 => ?_, fun b h => ?_⟩, ⟨Kp.refl, fun _ h => .inl h, fun _ h _ => h, fun _ h => .inl h.1⟩⟩
  · exact m.va j e (bk (by simp) q).2
  · obtain ⟨n, q⟩ := bk (by simp) q
    obtain ⟨a, vs, h1, h2, h3, h4⟩ := m.ow j es q
    exact ⟨a, vs, h1, ⟨h2, fun ⟨ds, z1, z2⟩ => n (m.ne i j ds es a z1 q z2 h1)⟩, h3, h4⟩
  · exact m.ne j k es fs a (bk (by simp) q1).2 (bk (by simp) q2).2 e1 e2
  · obtain ⟨j, ds, h1, h2⟩ := m.ox b h.1
    by_cases hij : i = j
    · subst hij
      exact absurd ⟨ds, h1, h2⟩ h.2
    · exact ⟨j, ds, by rw [getElem?_set_ne' hij]; exact h1, h2⟩
/-- an unknown slot takes a value: what is then known of it is told by a slot of its own -/
theorem Mt.fill (i : Nat) {x : Option V} (m : Mt K Ts H A O ρ σ) (hn : ∀ ds, ρ[i]? ≠ some (Sl.ow ds)) (hv : ∀ d, ρ[i]? ≠ some (Sl.va d)) : Mt K Ts H A O ρ (σ.set i x) := by
  refine ⟨m.tab, m.sub, m.trk, by rw [List.length_set, m.len], fun j e q => ?_, fun j es q => ?_, fun j k es fs a q1 q2 e1 e2 => ?_, fun b h => ?_⟩
  · have hij : i ≠ j := fun z => by subst z; exact hv e q
    rw [getElem?_set_ne' hij]
    exact m.va j e q
  · have hij : i ≠ j := fun z => by subst z; exact hn es q
    rw [getElem?_set_ne' hij]
    exact m.ow j es q
  · have hij : i ≠ j := fun z => by subst z; exact hn es q1
    have hik : i ≠ k := fun z => by subst z; exact hn fs q2
    rw [getElem?_set_ne' hij] at e1
    rw [getElem?_set_ne' hik] at e2
    exact m.ne j k es fs a q1 q2 e1 e2
  · obtain ⟨j, ds, h1, h2⟩ := m.ox b h
    have hij : i ≠ j := fun z => by subst z; exact hn ds h1
    exact ⟨j, ds, h1, by rw [getElem?_set_ne' hij]; exact h2⟩
theorem set_no {ρ : List Sl} {i : Nat} {x : Sl} (nx : x ≠ .no) : (ρ.set i .no)[i]? ≠ some x := by
  rw [List.getElem?_set, if_pos rfl]
  split
  · exact fun z => nx (Option.some.inj z).symm
  · exact fun z => by cases z
/-- a slot takes anything -/
theorem Mt.setNo {x : Option V} (m : Mt K Ts H A O ρ σ) : Mt K Ts H A (Om O ρ σ i) (ρ.set i .no) (σ.set i x) ∧ Tr A O H A (Om O ρ σ i) H :=
  ⟨(m.drop i).1.fill i (fun _ => set_no (by simp)) fun _ => set_no (by simp), (m.drop i).2⟩
/-- a slot takes data -/
theorem Mt.setVa {v : V} (m : Mt K Ts H A O ρ σ) (h : Rp K H A d v) : Mt K Ts H A (Om O ρ σ i) (ρ.set i (Sl.va d)) (σ.set i (some v)) ∧ Tr A O H A (Om O ρ σ i) H := by
  obtain ⟨n, t⟩ := m.setNo (i := i) (x := some v)
  refine ⟨⟨n.tab, n.sub, n.trk, by rw [List.length_set, List.length_set, m.len], fun j e q => ?_, fun j es q => ?_, fun j k es fs a q1 q2 e1 e2 => ?_, fun b h => ?_⟩, t⟩
  · by_cases hij : i = j
    · subst hij
      rw [List.getElem?_set, if_pos rfl] at q
      rw [List.getElem?_set, if_pos rfl]
      split at q
      · rename_i hl
        rw [if_pos (by rw [← m.len]; exact hl)]
        cases q
        exact ⟨v, rfl, h⟩
      · cases q
    · rw [getElem?_set_ne' hij] at q
      exact n.va j e (by rw [getElem?_set_ne' hij]; exact q)
  · by_cases hij : i = j
    · subst hij
      rw [List.getElem?_set, if_pos rfl] at q
      split at q <;> cases q
    · rw [getElem?_set_ne' hij] at q
      exact n.ow j es (by rw [getElem?_set_ne' hij]; exact q)
  · have f : ∀ {j : Nat} {fs : List D}, (ρ.set i (Sl.va d))[j]? = some (Sl.ow fs) → (ρ.set i .no)[j]? = some (Sl.ow fs) := fun {j fs} q => by
      by_cases hij : i = j
      · subst hij
        rw [List.getElem?_set, if_pos rfl] at q
        split at q <;> cases q
      · rw [getElem?_set_ne' hij] at q ⊢
        exact q
    exact n.ne j k es fs a (f q1) (f q2) e1 e2
  · obtain ⟨j, ds, h1, h2⟩ := n.ox b h
    have hij : i ≠ j := fun z => by subst z; exact set_no (by simp) h1
    refine ⟨j, ds, ?_, h2⟩
    rw [getElem?_set_ne' hij] at h1 ⊢
    exact h1
/-- a slot takes a new list -/
theorem Mt.setOw {p : Addr} {vs : List V} (m : Mt K Ts H (fun b => A b ∨ b = p) O ρ σ) (hi : i < ρ.length) (nO : ¬ O p) (h' : H p = some (.lst vs)) (r : RpL K H (fun b => A b ∨ b = p) ds vs) :
    Mt K Ts H (fun b => A b ∨ b = p) (fun b => Om O ρ σ i b ∨ b = p) (ρ.set i (Sl.ow ds)) (σ.set i (some (V.ref p))) := by
  obtain ⟨n, t⟩ := m.setNo (i := i) (x := some (V.ref p))
  have hs : (σ.set i (some (V.ref p)))[i]? = some (some (V.ref p)) := by rw [List.getElem?_set_self (by rw [← m.len]; exact hi)]
  have f : ∀ {j : Nat} {x : Sl}, i ≠ j → (ρ.set i (Sl.ow ds))[j]? = some x → (ρ.set i .no)[j]? = some x := fun {j x} hij q => by
    rw [getElem?_set_ne' hij] at q ⊢
    exact q
  have no : ∀ {j es}, i ≠ j → (ρ.set i (Sl.ow ds))[j]? = some (Sl.ow es) → (σ.set i (some (V.ref p)))[j]? ≠ some (some (V.ref p)) := fun {j es} hij q z => by
    obtain ⟨a, ws, h1, h2, h3, _⟩ := n.ow j es (f hij q)
    rw [h1] at z
    cases z
    exact nO h2.1
  refine ⟨n.tab, fun b h => h.elim (fun q => n.sub b q) .inr, n.trk, by rw [List.length_set, List.length_set, m.len], fun j e q => ?_, fun j es q => ?_, fun j k es fs a q1 q2 e1 e2 => ?_, fun b h => ?_⟩
  · have hij : i ≠ j := fun z => by subst z; rw [List.getElem?_set_self hi] at q; cases q
    exact n.va j e (f hij q)
  · by_cases hij : i = j
    · subst hij
      rw [List.getElem?_set_self hi] at q
      cases q
      exact ⟨p, vs, hs, .inr rfl, h', r⟩
    · obtain ⟨a, ws, h1, h2, h3, h4⟩ := n.ow j es (f hij q)
      exact ⟨a, ws, h1, .inl h2, h3, h4⟩
  · by_cases hij : i = j
    · by_cases hik : i = k
      · rw [← hij, ← hik]
      · subst hij
        rw [hs] at e1
        cases e1
        exact absurd e2 (no hik q2)
    · by_cases hik : i = k
      · subst hik
        rw [hs] at e2
        cases e2
        exact absurd e1 (no hij q1)
      · exact n.ne j k es fs a (f hij q1) (f hik q2) e1 e2
  · rcases h with h | rfl
    · obtain ⟨j, es, h1, h2⟩ := n.ox b h
      have hij : i ≠ j := fun z => by subst z; exact set_no (by simp) h1
      refine ⟨j, es, ?_, h2⟩
      rw [getElem?_set_ne' hij] at h1 ⊢
      exact h1
    · exact ⟨i, ds, List.getElem?_set_self hi, hs⟩
/-- the list of a slot is changed -/
theorem Mt.put {a : Addr} {es : List D} {us vs : List V} (m : Mt K Ts H A O ρ σ) (hi : ρ[i]? = some (Sl.ow ds)) (hs : σ[i]? = some (some (V.ref a))) (ha : H a = some (.lst us)) (hO : O a) (r : RpL K H A es vs) :
    Mt K Ts (upd H a (.lst vs)) A O (ρ.set i (Sl.ow es)) σ ∧ Tr A O H A O (upd H a (.lst vs)) := by
  have hm : ∀ u, H a = some u → isM u := fun u e => by rw [ha] at e; cases e; trivial
  have hl : i < ρ.length := (List.getElem?_eq_some_iff.mp hi).1
  have k : Kp O H (upd H a (.lst vs)) := by
    refine ⟨fun b o e z n => ?_, fun P ⟨ps, e, t⟩ => ⟨ps, ?_, t⟩, fun b e => ?_⟩
    · rw [upd_ne (fun q => by subst q; exact z (hm o e) hO)]; exact e
    · rw [upd_ne (fun q => by rw [q, ha] at e; cases e)]; exact e
    · by_cases hb : b = a
      · rw [hb, upd_same] at e; cases e
      · rw [upd_ne hb] at e; exact e
  refine ⟨⟨fun P h => k.tb P (m.tab P h), m.sub, fun b h z => m.trk b h (k.fr b z), by rw [List.length_set, m.len], fun j e q => ?_, fun j fs q => ?_, fun j l fs gs b q1 q2 e1 e2 => ?_, fun b h => ?_⟩, ⟨k, fun _ h => .inl h, fun _ h _ => h, fun _ h => .inl h⟩⟩
  · by_cases hij : i = j
    · subst hij
      rw [List.getElem?_set_self hl] at q
      cases q
    · rw [getElem?_set_ne' hij] at q
      obtain ⟨v, h1, h2⟩ := m.va j e q
      exact ⟨v, h1, h2.upd (m.sub a hO) hm⟩
  · by_cases hij : i = j
    · subst hij
      rw [List.getElem?_set_self hl] at q
      cases q
      exact ⟨a, vs, hs, hO, upd_same, r.upd (m.sub a hO) hm⟩
    · rw [getElem?_set_ne' hij] at q
      obtain ⟨b, ws, h1, h2, h3, h4⟩ := m.ow j fs q
      have nb : b ≠ a := fun z => hij (m.ne i j ds fs a hi q hs (by rw [← z]; exact h1))
      exact ⟨b, ws, h1, h2, by rw [upd_ne nb]; exact h3, h4.upd (m.sub a hO) hm⟩
  · have f : ∀ {j : Nat} {fs : List D}, (ρ.set i (Sl.ow es))[j]? = some (Sl.ow fs) → ∃ gs, ρ[j]? = some (Sl.ow gs) := fun {j fs} q => by
      by_cases hij : i = j
      · exact ⟨ds, by rw [← hij]; exact hi⟩
      · rw [getElem?_set_ne' hij] at q
        exact ⟨fs, q⟩
    obtain ⟨_, q1⟩ := f q1
    obtain ⟨_, q2⟩ := f q2
    exact m.ne j l _ _ b q1 q2 e1 e2
  · obtain ⟨j, fs, h1, h2⟩ := m.ox b h
    by_cases hij : i = j
    · subst hij
      exact ⟨i, es, List.getElem?_set_self hl, h2⟩
    · exact ⟨j, fs, by rw [getElem?_set_ne' hij]; exact h1, h2⟩
/-- a list of one's own is given away -/
theorem Mt.give {a : Addr} {us : List V} (m : Mt K Ts H A O ρ σ) (hi : ρ[i]? = some (Sl.ow ds)) (hs : σ[i]? = some (some (V.ref a))) (ha : H a = some (.lst us)) (hr : RpL K H A ds us) :
    Mt K Ts H (fun b => A b ∧ b ≠ a) (fun b => O b ∧ b ≠ a) (ρ.set i (Sl.va (.lst ds))) σ ∧ Rp K H (fun b => A b ∧ b ≠ a) (.lst ds) (.ref a) := by
  have hl : i < ρ.length := (List.getElem?_eq_some_iff.mp hi).1
  have r : Rp K H (fun b => A b ∧ b ≠ a) (.lst ds) (.ref a) := by
    unfold Rp
    exact ⟨a, us, rfl, ha, fun z => z.2 rfl, hr.less fun b z => z.1⟩
  refine ⟨⟨m.tab, fun b h => ⟨m.sub b h.1, h.2⟩, fun b h => m.trk b h.1, by rw [List.length_set, m.len], fun j e q => ?_, fun j fs q => ?_, fun j l fs gs b q1 q2 e1 e2 => ?_, fun b h => ?_⟩, r⟩
  · by_cases hij : i = j
    · subst hij
      rw [List.getElem?_set_self hl] at q
      cases q
      exact ⟨_, hs, r⟩
    · rw [getElem?_set_ne' hij] at q
      obtain ⟨v, h1, h2⟩ := m.va j e q
      exact ⟨v, h1, h2.less fun b z => z.1⟩
  · by_cases hij : i = j
    · subst hij
      rw [List.getElem?_set_self hl] at q
      cases q
    · rw [getElem?_set_ne' hij] at q
      obtain ⟨b, ws, h1, h2, h3, h4⟩ := m.ow j fs q
      have nb : b ≠ a := fun z => hij (m.ne i j ds fs a hi q hs (by rw [← z]; exact h1))
      exact ⟨b, ws, h1, ⟨h2, nb⟩, h3, h4.less fun b z => z.1⟩
  · have f : ∀ {j : Nat} {fs : List D}, (ρ.set i (Sl.va (.lst ds)))[j]? = some (Sl.ow fs) → ρ[j]? = some (Sl.ow fs) := fun {j fs} q => by
      by_cases hij : i = j
      · subst hij
        rw [List.getElem?_set_self hl] at q
        cases q
      · rw [getElem?_set_ne' hij] at q
        exact q
    exact m.ne j l _ _ b (f q1) (f q2) e1 e2
  · obtain ⟨j, fs, h1, h2⟩ := m.ox b h.1
    by_cases hij : i = j
    · subst hij
      rw [hs] at h2
      cases h2
      exact absurd rfl h.2
    · exact ⟨j, fs, by rw [getElem?_set_ne' hij]; exact h1, h2⟩
end
end DL

-- part DL2
set_option Elab.async false
set_option linter.all false
set_option maxRecDepth 100000
set_option maxHeartbeats 2000000
/-! readings over data; names, constants, operators, tests, blocks -/
namespace DL
open PySem PySem.Spec PyProof.Rows L2 GxR GS GA GD
/-- sh: shared, fr: a new list, bo: lent (a list of one's own that is only looked at) -/
inductive Kd where | sh | fr | bo
/-- an exception: its class, its field -/
structure Xc where
  cls : Str
  arg : Option (Str × D)
abbrev XF := Xc → List Sl → Prop
abbrev DE := XF → List Sl → (D → Kd → List Sl → Prop) → Prop
abbrev DA := XF → List Sl → (List D → List Sl → Prop) → Prop
abbrev DT := XF → List Sl → (Bool → List Sl → Prop) → Prop
structure DN where
  nx : List Sl → Prop
  rt : D → Prop
  bk : List Sl → Prop
  ct : List Sl → Prop
abbrev DS := XF → DN → List Sl → Prop
/-- as Rp, but the list itself may be kept apart -/
def Wk (K : PySem.W.Frag) (H : Hp) (A : AP) (d : D) (v : V) : Prop := match d with
  | .lst ds => ∃ a vs, v = .ref a ∧ H a = some (.lst vs) ∧ RpL K H A ds vs
  | d => Rp K H A d v
def Rs (K : PySem.W.Frag) (Ts : AP) (H H' : Hp) (A O : AP) (ρ : List Sl) (σ : L2.St) (κ : Kd) (d : D) (v : V) : Prop := match κ with
  | .sh => Rp K H' A d v
  | .bo => Wk K H' A d v
  | .fr => ∃ ds p vs, d = .lst ds ∧ v = .ref p ∧ H p = none ∧ H' p = some (.lst vs) ∧ ¬ A p ∧ RpL K H' (fun b => A b ∨ b = p) ds vs ∧ Mt K Ts H' (fun b => A b ∨ b = p) O ρ σ
/-- what an exception bears -/
def XR (K : PySem.W.Frag) (H : Hp) (A : AP) (x : Xc) (cls : Value) (od : Option Addr) : Prop :=
  cls = .ref (He.ga K x.cls) ∧ match x.arg with
  | none => od = none
  | some (f, d) => ∃ a v, od = some a ∧ H a = some (.xd [(f, v)]) ∧ Rp K H A d v
structure Cn (K : PySem.W.Frag) (Ts : AP) (W : WX) (σ : L2.St) (H : Hp) (A O : AP) (X : XF) (Qd : D → Kd → List Sl → Prop) (Q : VK) : Prop where
  q : ∀ d κ ρ' v H' A' O', Qd d κ ρ' → Sm H H' → Tr A O H A' O' H' → Mt K Ts H' A' O' ρ' σ → Rs K Ts H H' A' O' ρ' σ κ d v → Q v H'
  x : ∀ x ρ' cls od H' A' O', X x ρ' → Tr A O H A' O' H' → Mt K Ts H' A' O' ρ' σ → XR K H' A' x cls od → W cls od σ H'
def upE (K : PySem.W.Frag) (Ts : AP) (W : WX) (t : DE) : TE := fun σ H Q => ∃ A O ρ X Qd, Mt K Ts H A O ρ σ ∧ t X ρ Qd ∧ Cn K Ts W σ H A O X Qd Q
structure CnB (K : PySem.W.Frag) (Ts : AP) (W : WX) (σ : L2.St) (H : Hp) (A O : AP) (X : XF) (Qd : Bool → List Sl → Prop) (Q : Bool → Hp → Prop) : Prop where
  q : ∀ b ρ' H' A' O', Qd b ρ' → Sm H H' → Tr A O H A' O' H' → Mt K Ts H' A' O' ρ' σ → Q b H'
  x : ∀ x ρ' cls od H' A' O', X x ρ' → Tr A O H A' O' H' → Mt K Ts H' A' O' ρ' σ → XR K H' A' x cls od → W cls od σ H'
def upT (K : PySem.W.Frag) (Ts : AP) (W : WX) (t : DT) : TT := fun σ H Q => ∃ A O ρ X Qd, Mt K Ts H A O ρ σ ∧ t X ρ Qd ∧ CnB K Ts W σ H A O X Qd Q
structure CnA (K : PySem.W.Frag) (Ts : AP) (W : WX) (σ : L2.St) (H : Hp) (A O : AP) (X : XF) (Qd : List D → List Sl → Prop) (Q : List V → Hp → Prop) : Prop where
  q : ∀ ds ρ' vs H' A' O', Qd ds ρ' → Sm H H' → Tr A O H A' O' H' → Mt K Ts H' A' O' ρ' σ → RpL K H' A' ds vs → Q vs H'
  x : ∀ x ρ' cls od H' A' O', X x ρ' → Tr A O H A' O' H' → Mt K Ts H' A' O' ρ' σ → XR K H' A' x cls od → W cls od σ H'
def upA (K : PySem.W.Frag) (Ts : AP) (W : WX) (t : DA) : TA := fun σ H Q => ∃ A O ρ X Qd, Mt K Ts H A O ρ σ ∧ t X ρ Qd ∧ CnA K Ts W σ H A O X Qd Q
structure CnS (K : PySem.W.Frag) (Ts : AP) (W : WX) (H : Hp) (A O : AP) (X : XF) (N : DN) (E : Ends) : Prop where
  nx : ∀ ρ' σ' H' A' O', N.nx ρ' → Tr A O H A' O' H' → Mt K Ts H' A' O' ρ' σ' → E.nx σ' H'
  bk : ∀ ρ' σ' H' A' O', N.bk ρ' → Tr A O H A' O' H' → Mt K Ts H' A' O' ρ' σ' → E.bk σ' H'
  ct : ∀ ρ' σ' H' A' O', N.ct ρ' → Tr A O H A' O' H' → Mt K Ts H' A' O' ρ' σ' → E.ct σ' H'
  rt : ∀ d v H' A' O', N.rt d → Tr A O H A' O' H' → Rp K H' A' d v → E.rt v H'
  x : ∀ x ρ' cls od σ' H' A' O', X x ρ' → Tr A O H A' O' H' → Mt K Ts H' A' O' ρ' σ' → XR K H' A' x cls od → W cls od σ' H'
def upS (K : PySem.W.Frag) (Ts : AP) (W : WX) (t : DS) : TS := fun E σ H => ∃ A O ρ X N, Mt K Ts H A O ρ σ ∧ t X N ρ ∧ CnS K Ts W H A O X N E

theorem _root_.L2.PE.imp {X : Cx} {e : Expr} {t t' : TE} (h : PE X e t) (i : ∀ σ H Q, t' σ H Q → t σ H Q) : PE X e t' := ⟨fun pins s σ H Q I q => h.run pins s σ H Q I (i σ H Q q)⟩
theorem _root_.L2.PT.imp {X : Cx} {e : Expr} {t t' : TT} (h : PT X e t) (i : ∀ σ H Q, t' σ H Q → t σ H Q) : PT X e t' := ⟨fun pins s σ H Q I q => h.run pins s σ H Q I (i σ H Q q)⟩
theorem _root_.L2.PW.imp {X : Cx} {e : Expr} {t t' : TT} (h : PW X e t) (i : ∀ σ H Q, t' σ H Q → t σ H Q) : PW X e t' := ⟨fun wh pins s σ H Q I q => h.run wh pins s σ H Q I (i σ H Q q)⟩
theorem _root_.L2.PA.imp {X : Cx} {e : List Expr} {t t' : TA} (h : PA X e t) (i : ∀ σ H Q, t' σ H Q → t σ H Q) : PA X e t' := ⟨fun pos pins s σ H Q I q => h.run pos pins s σ H Q I (i σ H Q q)⟩
theorem _root_.L2.PS.imp {X : Cx} {e : Stmt} {t t' : TS} (h : PS X e t) (i : ∀ D σ H, t' D σ H → t D σ H) : PS X e t' := ⟨fun pins s σ H D I q => h.run pins s σ H D I (i D σ H q)⟩
theorem _root_.L2.PSs.imp {X : Cx} {e : List Stmt} {t t' : TS} (h : PSs X e t) (i : ∀ D σ H, t' D σ H → t D σ H) : PSs X e t' := ⟨fun pins s σ H D I q => h.run pins s σ H D I (i D σ H q)⟩

section
variable {K : PySem.W.Frag} {Ts : AP} {W : WX} {σ : L2.St} {H H1 H' : Hp} {A O A1 O1 A' O' : AP} {X : XF} {ρ : List Sl} {Q : VK} {Qd : D → Kd → List Sl → Prop} {d : D} {v : V} {κ : Kd}
theorem Wk.of (h : Rp K H A d v) : Wk K H A d v := by
  unfold Wk
  split
  · unfold Rp at h
    obtain ⟨a, vs, e, r, _, t⟩ := h
    exact ⟨a, vs, e, r, t⟩
  · exact h
theorem Wk.tr (h : Wk K H A d v) (s : Sm H H') (t : Tr A O H A' O' H') (hO : ∀ b, O b → A b) : Wk K H' A' d v := by
  unfold Wk at h ⊢
  split at h
  · obtain ⟨a, vs, e, r, q⟩ := h
    exact ⟨a, vs, e, s.st a _ r (fun _ z => by cases z), q.tr t hO⟩
  · exact h.tr t hO
theorem Rs.wk (h : Rs K Ts H H' A O ρ σ κ d v) : Wk K H' A d v := by
  unfold Rs at h
  split at h
  · exact Wk.of h
  · exact h
  · obtain ⟨ds, p, vs, rfl, rfl, _, h2, _, h3, _⟩ := h
    exact ⟨p, vs, rfl, h2, h3.less fun b z => .inl z⟩
theorem Rs.rp (h : Rs K Ts H H' A O ρ σ κ d v) (n : κ ≠ .bo) : Rp K H' A d v := by
  unfold Rs at h
  split at h
  · exact h
  · exact absurd rfl n
  · obtain ⟨ds, p, vs, rfl, rfl, _, h2, h3, h4, _⟩ := h
    unfold Rp
    exact ⟨p, vs, rfl, h2, h3, h4.less fun b z => .inl z⟩
theorem Rs.back (s : Sm H H1) (h : Rs K Ts H1 H' A O ρ σ κ d v) : Rs K Ts H H' A O ρ σ κ d v := by
  unfold Rs at h ⊢
  split at h
  · exact h
  · exact h
  · obtain ⟨ds, p, vs, e1, e2, e3, r⟩ := h
    exact ⟨ds, p, vs, e1, e2, s.fr _ e3, r⟩
theorem Cn.move (c : Cn K Ts W σ H A O X Qd Q) (s : Sm H H1) (t : Tr A O H A1 O1 H1) (m : Mt K Ts H A O ρ σ) : Cn K Ts W σ H1 A1 O1 X Qd Q where
  q := fun d κ ρ' v H' A' O' h s' t' m' r => c.q d κ ρ' v H' A' O' h (s.trans s') (t.trans t' m.trk) m' (r.back s)
  x := fun x ρ' cls od H' A' O' h t' m' r => c.x x ρ' cls od H' A' O' h (t.trans t' m.trk) m' r
theorem CnB.move {Qd : Bool → List Sl → Prop} {Q : Bool → Hp → Prop} (c : CnB K Ts W σ H A O X Qd Q) (s : Sm H H1) (t : Tr A O H A1 O1 H1) (m : Mt K Ts H A O ρ σ) : CnB K Ts W σ H1 A1 O1 X Qd Q where
  q := fun b ρ' H' A' O' h s' t' m' => c.q b ρ' H' A' O' h (s.trans s') (t.trans t' m.trk) m'
  x := fun x ρ' cls od H' A' O' h t' m' r => c.x x ρ' cls od H' A' O' h (t.trans t' m.trk) m' r
theorem CnA.move {Qd : List D → List Sl → Prop} {Q : List V → Hp → Prop} (c : CnA K Ts W σ H A O X Qd Q) (s : Sm H H1) (t : Tr A O H A1 O1 H1) (m : Mt K Ts H A O ρ σ) : CnA K Ts W σ H1 A1 O1 X Qd Q where
  q := fun b ρ' v H' A' O' h s' t' m' r => c.q b ρ' v H' A' O' h (s.trans s') (t.trans t' m.trk) m' r
  x := fun x ρ' cls od H' A' O' h t' m' r => c.x x ρ' cls od H' A' O' h (t.trans t' m.trk) m' r
theorem CnS.move {N : DN} {E : Ends} (c : CnS K Ts W H A O X N E) (t : Tr A O H A1 O1 H1) (m : Mt K Ts H A O ρ σ) : CnS K Ts W H1 A1 O1 X N E where
  nx := fun ρ' σ' H' A' O' h t' m' => c.nx ρ' σ' H' A' O' h (t.trans t' m.trk) m'
  bk := fun ρ' σ' H' A' O' h t' m' => c.bk ρ' σ' H' A' O' h (t.trans t' m.trk) m'
  ct := fun ρ' σ' H' A' O' h t' m' => c.ct ρ' σ' H' A' O' h (t.trans t' m.trk) m'
  rt := fun d v H' A' O' h t' r => c.rt d v H' A' O' h (t.trans t' m.trk) r
  x := fun x ρ' cls od σ' H' A' O' h t' m' r => c.x x ρ' cls od σ' H' A' O' h (t.trans t' m.trk) m' r
/-- the value is shared, the heap may have grown -/
theorem Cn.sh (c : Cn K Ts W σ H A O X Qd Q) (m : Mt K Ts H A O ρ σ) (s : Sm H H') (h : Qd d .sh ρ) (r : Rp K H' A d v) : Q v H' := c.q d .sh ρ v H' A O h s (Tr.of s) (m.sm s) r
theorem Cn.flat (c : Cn K Ts W σ H A O X Qd Q) (m : Mt K Ts H A O ρ σ) (h : Qd d .sh ρ) (r : Rp K H A d v) : Q v H := c.sh m Sm.refl h r
/-- the value is a new list -/
theorem Cn.fr {ds : List D} {p : Addr} {vs : List V} (c : Cn K Ts W σ H A O X Qd Q) (m : Mt K Ts H A O ρ σ) (hp : H p = none) (h : Qd (.lst ds) .fr ρ) (r : RpL K H A ds vs) : Q (.ref p) (upd H p (.lst vs)) := by
  have s := Sm.new (o := .lst vs) hp
  refine c.q _ .fr ρ _ _ A O h s (Tr.of s) (m.sm s) ⟨ds, p, vs, rfl, rfl, hp, upd_same, fun z => m.trk p z hp, (r.fresh hp).sm s, m.fresh hp s (by rw [upd_same]; exact fun z => by cases z)⟩
theorem CnB.fin {Qd : Bool → List Sl → Prop} {Q : Bool → Hp → Prop} {b : Bool} (c : CnB K Ts W σ H A O X Qd Q) (m : Mt K Ts H A O ρ σ) (s : Sm H H') (h : Qd b ρ) : Q b H' := c.q b ρ H' A O h s (Tr.of s) (m.sm s)
end

/-! ### names and constants -/
section
variable {X : Cx} {Ts : AP} {W : WX} {i : Nat} {x : Str} {pos : Pos}
/-- a name's value -/
def dVar (i : Nat) : DE := fun _ ρ Q => match ρ[i]? with
  | some (.va d) => Q d .sh ρ
  | some (.ow ds) => Q (.lst ds) .sh (ρ.set i (.va (.lst ds)))
  | _ => False
/-- .. looked at -/
def dVarB (i : Nat) : DE := fun _ ρ Q => match ρ[i]? with
  | some (.va d) => Q d .sh ρ
  | some (.ow ds) => Q (.lst ds) .bo ρ
  | _ => False
theorem de_var (hN : X.N[i]? = some x) (hv : Vis X.env.scope x) (hd : (x == ("__debug__" : Str)) = false := by decide) (hcd : (x == ("__classdict__" : Str)) = false := by decide) : PE X (.Name x pos) (upE X.K Ts W (dVar i)) := by
  refine (pe_var hN hv hd hcd).imp fun σ H Q h => ?_
  obtain ⟨A, O, ρ, Xf, Qd, m, h, c⟩ := h
  unfold dVar at h
  split at h
  · rename_i d e
    obtain ⟨v, h1, h2⟩ := m.va i d e
    exact ⟨v, h1, c.flat m h h2⟩
  · rename_i ds e
    obtain ⟨a, vs, h1, h2, h3, h4⟩ := m.ow i ds e
    obtain ⟨m2, r⟩ := m.give e h1 h3 h4
    refine ⟨_, h1, c.q _ .sh _ _ H _ _ h Sm.refl ⟨Kp.refl, fun b z => .inl z.1, fun b z n => ⟨z, fun q => n (by rw [q]; exact h2)⟩, fun b z => .inl z.1⟩ m2 r⟩
  · exact h.elim
theorem de_varB (hN : X.N[i]? = some x) (hv : Vis X.env.scope x) (hd : (x == ("__debug__" : Str)) = false := by decide) (hcd : (x == ("__classdict__" : Str)) = false := by decide) : PE X (.Name x pos) (upE X.K Ts W (dVarB i)) := by
  refine (pe_var hN hv hd hcd).imp fun σ H Q h => ?_
  obtain ⟨A, O, ρ, Xf, Qd, m, h, c⟩ := h
  unfold dVarB at h
  split at h
  · rename_i d e
    obtain ⟨v, h1, h2⟩ := m.va i d e
    exact ⟨v, h1, c.flat m h h2⟩
  · rename_i ds e
    obtain ⟨a, vs, h1, h2, h3, h4⟩ := m.ow i ds e
    exact ⟨_, h1, c.q _ .bo _ _ H _ _ h Sm.refl Tr.refl m ⟨a, vs, rfl, h3, h4⟩⟩
  · exact h.elim
/-- a value that is known -/
def dC (d : D) : DE := fun _ ρ Q => Q d .sh ρ
theorem de_int {n : Int} {j pos} : PE X (.Constant (.int n) j pos) (upE X.K Ts W (dC (.int n))) := pe_int.imp fun σ H Q ⟨A, O, ρ, Xf, Qd, m, h, c⟩ => c.flat m h (by unfold Rp; rfl)
theorem de_bl {n : Bool} {j pos} : PE X (.Constant (.bool n) j pos) (upE X.K Ts W (dC (.bl n))) := pe_bl.imp fun σ H Q ⟨A, O, ρ, Xf, Qd, m, h, c⟩ => c.flat m h (by unfold Rp; rfl)
theorem de_non {j pos} : PE X (.Constant .none j pos) (upE X.K Ts W (dC .non)) := pe_non.imp fun σ H Q ⟨A, O, ρ, Xf, Qd, m, h, c⟩ => c.flat m h (by unfold Rp; rfl)
theorem de_str {n : Str} {j pos} : PE X (.Constant (.str n) j pos) (upE X.K Ts W (dC (.str n))) := pe_str.imp fun σ H Q ⟨A, O, ρ, Xf, Qd, m, h, c⟩ => c.flat m h (by unfold Rp; rfl)
/-- a constant of the module -/
theorem de_glob {v : V} {u : Value} {d : D} (hg : Gl X x) (hm : X.mg x = some u) (r : RelV v u) (hr : ∀ H A, Rp X.K H A d v) (hd : (x == ("__debug__" : Str)) = false := by decide) : PE X (.Name x pos) (upE X.K Ts W (dC d)) :=
  (pe_glob hg hm r hd).imp fun σ H Q ⟨A, O, ρ, Xf, Qd, m, h, c⟩ => c.flat m h (hr H A)
end

/-! ### operators -/
/-- an operator over data -/
def DOp (X : Cx) (Ts : AP) (f : Value → Value → Sem Value) (g : D → D → (D → Kd → Prop) → Prop) : Prop := ∃ r : R2, OpR X f r ∧
  ∀ (W : WX) (σ : L2.St) (H : Hp) (A O : AP) (ρ : List Sl) (Xf : XF) (Qd : D → Kd → List Sl → Prop) (Q : VK) (d e : D) (v w : V), Wk X.K H A d v → Wk X.K H A e w → Mt X.K Ts H A O ρ σ → Cn X.K Ts W σ H A O Xf Qd Q → g d e (fun z κ => Qd z κ ρ) → r v w H Q
def dBin (g : D → D → (D → Kd → Prop) → Prop) (ta tb : DE) : DE := fun X ρ Q => ta X ρ fun d _ ρ1 => tb X ρ1 fun e _ ρ2 => g d e fun z κ => Q z κ ρ2
section
variable {X : Cx} {Ts : AP} {W : WX} {a b : Expr} {ta tb : DE} {pos : Pos} {g : D → D → (D → Kd → Prop) → Prop}
theorem up_bin {r : R2} (ho : ∀ (W : WX) (σ : L2.St) (H : Hp) (A O : AP) (ρ : List Sl) (Xf : XF) (Qd : D → Kd → List Sl → Prop) (Q : VK) (d e : D) (v w : V), Wk X.K H A d v → Wk X.K H A e w → Mt X.K Ts H A O ρ σ → Cn X.K Ts W σ H A O Xf Qd Q → g d e (fun z κ => Qd z κ ρ) → r v w H Q)
    {σ : L2.St} {H : Hp} {Q : VK} (h : upE X.K Ts W (dBin g ta tb) σ H Q) : tOp r (upE X.K Ts W ta) (upE X.K Ts W tb) σ H Q := by
  obtain ⟨A, O, ρ, Xf, Qd, m, h, c⟩ := h
  refine ⟨A, O, ρ, Xf, _, m, h, fun d κ ρ1 v H1 A1 O1 h1 s1 t1 m1 r1 => ?_, c.x⟩
  have c1 := c.move s1 t1 m
  refine ⟨A1, O1, ρ1, Xf, _, m1, h1, fun e κ2 ρ2 w H2 A2 O2 h2 s2 t2 m2 r2 => ?_, c1.x⟩
  exact ho W σ H2 A2 O2 ρ2 Xf Qd Q d e v w (r1.wk.tr s2 t2 m1.sub) r2.wk m2 (c1.move s2 t2 m1) h2
theorem de_bin {op : Operator} (ho : DOp X Ts (binaryOp op) g) (ha : PE X a (upE X.K Ts W ta)) (hb : PE X b (upE X.K Ts W tb)) : PE X (.BinOp a op b pos) (upE X.K Ts W (dBin g ta tb)) := by
  obtain ⟨r, h1, h2⟩ := ho
  exact (pe_op h1 ha hb).imp fun σ H Q h => up_bin h2 h
theorem de_cmp {op : CmpOp} (ho : DOp X Ts (compareOp op) g) (ha : PE X a (upE X.K Ts W ta)) (hb : PE X b (upE X.K Ts W tb)) (hm : behindInMarks op b = false) : PE X (.Compare a [op] [b] pos) (upE X.K Ts W (dBin g ta tb)) := by
  obtain ⟨r, h1, h2⟩ := ho
  exact (pe_cmpR h1 ha hb hm).imp fun σ H Q h => up_bin h2 h
/-- a test -/
def dTst (t : DE) : DT := fun X ρ Q => t X ρ fun d _ ρ1 => match d with
  | .bl b => Q b ρ1
  | _ => False
theorem up_tst {t : DE} {σ : L2.St} {H : Hp} {Q : Bool → Hp → Prop} (h : upT X.K Ts W (dTst t) σ H Q) : upE X.K Ts W t σ H fun x H1 => ∃ c, x = .bl c ∧ Q c H1 := by
  obtain ⟨A, O, ρ, Xf, Qd, m, h, c⟩ := h
  refine ⟨A, O, ρ, Xf, _, m, h, fun d κ ρ1 v H1 A1 O1 h1 s1 t1 m1 r1 => ?_, c.x⟩
  split at h1
  · rename_i b
    have r2 := r1.wk
    unfold Wk Rp at r2
    exact ⟨b, r2, c.q b ρ1 H1 A1 O1 h1 s1 t1 m1⟩
  · exact h1.elim
theorem dt_cmp {op : CmpOp} (ho : DOp X Ts (compareOp op) g) (ha : PE X a (upE X.K Ts W ta)) (hb : PE X b (upE X.K Ts W tb)) (hm : behindInMarks op b = false) : PT X (.Compare a [op] [b] pos) (upT X.K Ts W (dTst (dBin g ta tb))) := by
  obtain ⟨r, h1, h2⟩ := ho
  refine (pt_cmpR h1 ha hb hm).imp fun σ H Q h => ?_
  have q := up_bin h2 (up_tst h)
  exact q
theorem dt_val {e : Expr} {t : DE} (h : PE X e (upE X.K Ts W t)) (he : ∀ whole, isTrue e X.env whole = (do let v ← whole; standAt e.pos; holding [v] (truthy v)) := by intro _; rfl) : PT X e (upT X.K Ts W (dTst t)) :=
  (pt_val h he).imp fun σ H Q h => up_tst h
/-- a chain a op b op' c -/
def dChain (g g' : D → D → (D → Kd → Prop) → Prop) (ta tb tc : DE) : DT := fun X ρ Q => ta X ρ fun d _ ρ1 => tb X ρ1 fun e _ ρ2 => g d e fun z _ => match z with
  | .bl true => tc X ρ2 fun f _ ρ3 => g' e f fun y _ => match y with
    | .bl b => Q b ρ3
    | _ => False
  | .bl false => Q false ρ2
  | _ => False
def dAnd (t u : DT) : DT := fun X ρ Q => t X ρ fun b ρ1 => if b = true then u X ρ1 Q else Q false ρ1
def dOr (t u : DT) : DT := fun X ρ Q => t X ρ fun b ρ1 => if b = true then Q true ρ1 else u X ρ1 Q
def dNot (t : DT) : DT := fun X ρ Q => t X ρ fun b ρ1 => Q (!b) ρ1
variable {tA tB : DT} {rest : List Expr}
theorem dw_and1 (ha : PT X a (upT X.K Ts W tA)) : PW X (.BoolOp .And [a] pos) (upT X.K Ts W tA) := pw_and1 ha
theorem dw_or1 (ha : PT X a (upT X.K Ts W tA)) : PW X (.BoolOp .Or [a] pos) (upT X.K Ts W tA) := pw_or1 ha
theorem dw_and (ha : PT X a (upT X.K Ts W tA)) (hb : PW X (.BoolOp .And (b :: rest) pos) (upT X.K Ts W tB)) : PW X (.BoolOp .And (a :: b :: rest) pos) (upT X.K Ts W (dAnd tA tB)) := by
  refine (pw_and ha hb).imp fun σ H Q h => ?_
  obtain ⟨A, O, ρ, Xf, Qd, m, h, c⟩ := h
  refine ⟨A, O, ρ, Xf, _, m, h, fun b ρ1 H1 A1 O1 h1 s1 t1 m1 => ?_, c.x⟩
  cases b with
  | true => exact ⟨A1, O1, ρ1, Xf, Qd, m1, h1, c.move s1 t1 m⟩
  | false => exact c.q false ρ1 H1 A1 O1 h1 s1 t1 m1
theorem dw_or (ha : PT X a (upT X.K Ts W tA)) (hb : PW X (.BoolOp .Or (b :: rest) pos) (upT X.K Ts W tB)) : PW X (.BoolOp .Or (a :: b :: rest) pos) (upT X.K Ts W (dOr tA tB)) := by
  refine (pw_or ha hb).imp fun σ H Q h => ?_
  obtain ⟨A, O, ρ, Xf, Qd, m, h, c⟩ := h
  refine ⟨A, O, ρ, Xf, _, m, h, fun b ρ1 H1 A1 O1 h1 s1 t1 m1 => ?_, c.x⟩
  cases b with
  | true => exact c.q true ρ1 H1 A1 O1 h1 s1 t1 m1
  | false => exact ⟨A1, O1, ρ1, Xf, Qd, m1, h1, c.move s1 t1 m⟩
theorem dt_not (ha : PT X a (upT X.K Ts W tA)) : PT X (.UnaryOp .Not a pos) (upT X.K Ts W (dNot tA)) := by
  refine (pt_not ha).imp fun σ H Q h => ?_
  obtain ⟨A, O, ρ, Xf, Qd, m, h, c⟩ := h
  exact ⟨A, O, ρ, Xf, _, m, h, fun b ρ1 H1 A1 O1 h1 s1 t1 m1 => c.q _ ρ1 H1 A1 O1 h1 s1 t1 m1, c.x⟩
/-- and, or, not as values of bools -/
def dAndV (ta tb : DE) : DE := fun X ρ Q => ta X ρ fun d _ ρ1 => match d with
  | .bl true => tb X ρ1 Q
  | .bl false => Q (.bl false) .sh ρ1
  | _ => False
def dOrV (ta tb : DE) : DE := fun X ρ Q => ta X ρ fun d _ ρ1 => match d with
  | .bl true => Q (.bl true) .sh ρ1
  | .bl false => tb X ρ1 Q
  | _ => False
def dNotV (ta : DE) : DE := fun X ρ Q => ta X ρ fun d _ ρ1 => match d with
  | .bl b => Q (.bl (!b)) .sh ρ1
  | _ => False
theorem Rs.bl {K : PySem.W.Frag} {H H' : Hp} {A O : AP} {ρ : List Sl} {σ : L2.St} {κ : Kd} {b : Bool} {v : V} (r : Rs K Ts H H' A O ρ σ κ (.bl b) v) : v = .bl b := by
  have r2 := r.wk
  unfold Wk Rp at r2
  exact r2
theorem de_one {op} {t : DE} (h : PE X a (upE X.K Ts W t)) : PE X (.BoolOp op [a] pos) (upE X.K Ts W t) := pe_one h
theorem de_and (ha : PE X a (upE X.K Ts W ta)) (hb : PE X (.BoolOp .And (b :: rest) pos) (upE X.K Ts W tb)) : PE X (.BoolOp .And (a :: b :: rest) pos) (upE X.K Ts W (dAndV ta tb)) := by
  refine (pe_and ha hb).imp fun σ H Q h => ?_
  obtain ⟨A, O, ρ, Xf, Qd, m, h, c⟩ := h
  refine ⟨A, O, ρ, Xf, _, m, h, fun d κ ρ1 v H1 A1 O1 h1 s1 t1 m1 r1 => ?_, c.x⟩
  split at h1
  · exact ⟨true, r1.bl, A1, O1, ρ1, Xf, Qd, m1, h1, c.move s1 t1 m⟩
  · exact ⟨false, r1.bl, (c.move s1 t1 m).flat m1 h1 (by unfold Rp; rfl)⟩
  · exact h1.elim
theorem de_or (ha : PE X a (upE X.K Ts W ta)) (hb : PE X (.BoolOp .Or (b :: rest) pos) (upE X.K Ts W tb)) : PE X (.BoolOp .Or (a :: b :: rest) pos) (upE X.K Ts W (dOrV ta tb)) := by
  refine (pe_or ha hb).imp fun σ H Q h => ?_
  obtain ⟨A, O, ρ, Xf, Qd, m, h, c⟩ := h
  refine ⟨A, O, ρ, Xf, _, m, h, fun d κ ρ1 v H1 A1 O1 h1 s1 t1 m1 r1 => ?_, c.x⟩
  split at h1
  · exact ⟨true, r1.bl, (c.move s1 t1 m).flat m1 h1 (by unfold Rp; rfl)⟩
  · exact ⟨false, r1.bl, A1, O1, ρ1, Xf, Qd, m1, h1, c.move s1 t1 m⟩
  · exact h1.elim
theorem de_not (ha : PE X a (upE X.K Ts W ta)) : PE X (.UnaryOp .Not a pos) (upE X.K Ts W (dNotV ta)) := by
  refine (pe_not ha).imp fun σ H Q h => ?_
  obtain ⟨A, O, ρ, Xf, Qd, m, h, c⟩ := h
  refine ⟨A, O, ρ, Xf, _, m, h, fun d κ ρ1 v H1 A1 O1 h1 s1 t1 m1 r1 => ?_, c.x⟩
  split at h1
  · exact ⟨_, r1.bl, (c.move s1 t1 m).flat m1 h1 (by unfold Rp; rfl)⟩
  · exact h1.elim
/-- a if t else b -/
def dIf (t : DT) (ta tb : DE) : DE := fun X ρ Q => t X ρ fun b ρ1 => if b = true then ta X ρ1 Q else tb X ρ1 Q
theorem de_if {e : Expr} (hc : PT X e (upT X.K Ts W tA)) (ha : PE X a (upE X.K Ts W ta)) (hb : PE X b (upE X.K Ts W tb)) : PE X (.IfExp e a b pos) (upE X.K Ts W (dIf tA ta tb)) := by
  refine (pe_ifExp hc ha hb).imp fun σ H Q h => ?_
  obtain ⟨A, O, ρ, Xf, Qd, m, h, c⟩ := h
  refine ⟨A, O, ρ, Xf, _, m, h, fun b ρ1 H1 A1 O1 h1 s1 t1 m1 => ?_, c.x⟩
  cases b with
  | true => exact ⟨A1, O1, ρ1, Xf, Qd, m1, h1, c.move s1 t1 m⟩
  | false => exact ⟨A1, O1, ρ1, Xf, Qd, m1, h1, c.move s1 t1 m⟩
end

/-! ### blocks -/
section
variable {X : Cx} {Ts : AP} {W : WX} {st : Stmt} {rest : List Stmt} {t u : DS} {e : Expr} {te : DE} {pos : Pos}
def dNext : DS := fun _ N ρ => N.nx ρ
def dSeq (t u : DS) : DS := fun X N ρ => t X { N with nx := u X N } ρ
theorem ds_nil : PSs X [] (upS X.K Ts W dNext) := pss_nil.imp fun E σ H ⟨A, O, ρ, Xf, N, m, h, c⟩ => c.nx ρ σ H A O h Tr.refl m
theorem ds_one (h1 : PS X st (upS X.K Ts W t)) : PSs X [st] (upS X.K Ts W t) := pss_one h1
theorem ds_cons (h1 : PS X st (upS X.K Ts W t)) (h2 : PSs X rest (upS X.K Ts W u)) : PSs X (st :: rest) (upS X.K Ts W (dSeq t u)) := by
  refine (pss_cons h1 h2).imp fun E σ H h => ?_
  obtain ⟨A, O, ρ, Xf, N, m, h, c⟩ := h
  exact ⟨A, O, ρ, Xf, _, m, h, fun ρ1 σ1 H1 A1 O1 h1 t1 m1 => ⟨A1, O1, ρ1, Xf, N, m1, h1, c.move t1 m⟩, c.bk, c.ct, c.rt, c.x⟩
theorem ds_pass : PS X (.Pass pos) (upS X.K Ts W dNext) := ps_pass.imp fun E σ H ⟨A, O, ρ, Xf, N, m, h, c⟩ => c.nx ρ σ H A O h Tr.refl m
def dBreak : DS := fun _ N ρ => N.bk ρ
def dCont : DS := fun _ N ρ => N.ct ρ
theorem ds_break : PS X (.Break pos) (upS X.K Ts W dBreak) := ps_break.imp fun E σ H ⟨A, O, ρ, Xf, N, m, h, c⟩ => c.bk ρ σ H A O h Tr.refl m
theorem ds_cont : PS X (.Continue pos) (upS X.K Ts W dCont) := ps_continue.imp fun E σ H ⟨A, O, ρ, Xf, N, m, h, c⟩ => c.ct ρ σ H A O h Tr.refl m
theorem ds_doc {x j pos pos'} : PS X (.Expr (.Constant (.str x) j pos) pos') (upS X.K Ts W dNext) := ps_doc.imp fun E σ H ⟨A, O, ρ, Xf, N, m, h, c⟩ => c.nx ρ σ H A O h Tr.refl m
def dRet (te : DE) : DS := fun X N ρ => te X ρ fun d κ _ => κ ≠ .bo ∧ N.rt d
theorem ds_ret (he : PE X e (upE X.K Ts W te)) : PS X (.Return (some e) pos) (upS X.K Ts W (dRet te)) := by
  refine (ps_ret he).imp fun E σ H h => ?_
  obtain ⟨A, O, ρ, Xf, N, m, h, c⟩ := h
  exact ⟨A, O, ρ, Xf, _, m, h, fun d κ ρ1 v H1 A1 O1 h1 s1 t1 m1 r1 => c.rt d v H1 A1 O1 h1.2 t1 (r1.rp h1.1), fun x ρ' cls od H' A' O' => c.x x ρ' cls od σ H' A' O'⟩
def dRetN : DS := fun _ N _ => N.rt .non
theorem ds_retN : PS X (.Return none pos) (upS X.K Ts W dRetN) := ps_retN.imp fun E σ H ⟨A, O, ρ, Xf, N, m, h, c⟩ => c.rt .non _ H A O h Tr.refl (by unfold Rp; rfl)
def dIfS (c : DT) (t u : DS) : DS := fun X N ρ => c X ρ fun b ρ1 => if b = true then t X N ρ1 else u X N ρ1
theorem ds_if {c : Expr} {a b : List Stmt} {tc : DT} (hc : PT X c (upT X.K Ts W tc)) (ha : PSs X a (upS X.K Ts W t)) (hb : PSs X b (upS X.K Ts W u)) : PS X (.If c a b pos) (upS X.K Ts W (dIfS tc t u)) := by
  refine (ps_if hc ha hb).imp fun E σ H h => ?_
  obtain ⟨A, O, ρ, Xf, N, m, h, c⟩ := h
  refine ⟨A, O, ρ, Xf, _, m, h, fun b ρ1 H1 A1 O1 h1 s1 t1 m1 => ?_, fun x ρ' cls od H' A' O' => c.x x ρ' cls od σ H' A' O'⟩
  cases b with
  | true => exact ⟨A1, O1, ρ1, Xf, N, m1, h1, c.move t1 m⟩
  | false => exact ⟨A1, O1, ρ1, Xf, N, m1, h1, c.move t1 m⟩
/-- name = value: a new list is one's own -/
def slOf : D → Kd → Sl
  | .lst ds, .fr => .ow ds
  | d, _ => .va d
def dSet (i : Nat) (te : DE) : DS := fun X N ρ => te X ρ fun d κ ρ1 => κ ≠ .bo ∧ i < ρ1.length ∧ N.nx (ρ1.set i (slOf d κ))
/-- what a value is behind its storing -/
theorem stored {K : PySem.W.Frag} {H H1 : Hp} {A O A1 O1 : AP} {ρ1 : List Sl} {σ : L2.St} {i : Nat} {d : D} {κ : Kd} {v : V} (t1 : Tr A O H A1 O1 H1) (m1 : Mt K Ts H1 A1 O1 ρ1 σ) (s1 : Sm H H1) (trk : ∀ b, A b → H b ≠ none) (sub : ∀ b, O b → A b) (r1 : Rs K Ts H H1 A1 O1 ρ1 σ κ d v) (nb : κ ≠ .bo) (hi : i < ρ1.length) :
    ∃ A2 O2, Tr A O H A2 O2 H1 ∧ Mt K Ts H1 A2 O2 (ρ1.set i (slOf d κ)) (σ.set i (some v)) := by
  cases κ with
  | sh =>
    have e : slOf d .sh = .va d := by cases d <;> rfl
    rw [e]
    obtain ⟨m2, t2⟩ := m1.setVa (i := i) (show Rp K H1 A1 d v from r1)
    exact ⟨_, _, t1.trans t2 trk, m2⟩
  | bo => exact absurd rfl nb
  | fr =>
    obtain ⟨ds, p, vs, rfl, rfl, hp, h2, nA, r, mm⟩ := r1
    refine ⟨_, _, ?_, mm.setOw hi (fun z => nA (m1.sub _ z)) h2 r⟩
    exact ⟨t1.kp, fun b z => z.elim (t1.new b) fun q => by rw [q]; exact .inr hp, fun b z n => .inl (t1.old b z n), fun b z => z.elim (fun q => t1.own b q.1) fun q => by rw [q]; exact .inr hp⟩
theorem ds_set {i : Nat} {x : Str} {pos' : Pos} (hN : X.N.Nodup) (hi : X.N[i]? = some x) (hx : Loc X.env.scope x) (he : PE X e (upE X.K Ts W te)) (hs : swapsWith e (some (.Name x pos')) pos.line X.env = pure false := by rfl) (hf : X.fn x = true ∨ X.env.scope.names.lookup x = some .local := by first | exact .inl rfl | exact .inr rfl | assumption) :
    PS X (.Assign [.Name x pos'] e pos) (upS X.K Ts W (dSet i te)) := by
  refine (ps_set hN hi hx he hs hf).imp fun E σ H h => ?_
  obtain ⟨A, O, ρ, Xf, N, m, h, c⟩ := h
  refine ⟨A, O, ρ, Xf, _, m, h, fun d κ ρ1 v H1 A1 O1 h1 s1 t1 m1 r1 => ?_, fun x ρ' cls od H' A' O' => c.x x ρ' cls od σ H' A' O'⟩
  obtain ⟨A2, O2, t2, m2⟩ := stored (i := i) t1 m1 s1 m.trk m.sub r1 h1.1 h1.2.1
  exact c.nx _ _ _ _ _ h1.2.2 t2 m2
def dDrop (te : DE) : DS := fun X N ρ => te X ρ fun _ _ ρ1 => N.nx ρ1
theorem ds_expr (he : PE X e (upE X.K Ts W te)) (hs : swapsWith e none pos.line X.env = pure false := by rfl) : PS X (.Expr e pos) (upS X.K Ts W (dDrop te)) := by
  refine (ps_expr he hs).imp fun E σ H h => ?_
  obtain ⟨A, O, ρ, Xf, N, m, h, c⟩ := h
  exact ⟨A, O, ρ, Xf, _, m, h, fun d κ ρ1 v H1 A1 O1 h1 s1 t1 m1 r1 => c.nx _ _ _ _ _ h1 t1 m1, fun x ρ' cls od H' A' O' => c.x x ρ' cls od σ H' A' O'⟩
end
end DL

-- part DL3
set_option Elab.async false
set_option linter.all false
set_option maxRecDepth 100000
set_option maxHeartbeats 2000000
/-! operators, calls of built-ins, lists, indexes over data -/
namespace DL
open PySem PySem.Spec PyProof.Rows L2 GxR GS GA GD
section
variable {K : PySem.W.Frag} {H : Hp} {A : AP} {v : V}
theorem Wk.int {i : Int} (h : Wk K H A (.int i) v) : v = .int i := by unfold Wk Rp at h; exact h
theorem Wk.str {i : Str} (h : Wk K H A (.str i) v) : v = .str i := by unfold Wk Rp at h; exact h
theorem Wk.bl {i : Bool} (h : Wk K H A (.bl i) v) : v = .bl i := by unfold Wk Rp at h; exact h
theorem Wk.non (h : Wk K H A .non v) : v = .non := by unfold Wk Rp at h; exact h
theorem Wk.lst {ds : List D} (h : Wk K H A (.lst ds) v) : ∃ a vs, v = .ref a ∧ H a = some (.lst vs) ∧ RpL K H A ds vs := by unfold Wk at h; exact h
theorem Wk.tup {ds : List D} (h : Wk K H A (.tup ds) v) : ∃ a vs, v = .ref a ∧ SqT K H a vs ∧ RpL K H A ds vs := by unfold Wk Rp at h; exact h
theorem Wk.scr {ns : List Int} (h : Wk K H A (.scr ns) v) : ∃ a, v = .ref a ∧ ScrAt K H a (ns.map V.int) := by unfold Wk Rp at h; exact h
theorem Rp.int {i : Int} : Rp K H A (.int i) (.int i) := by unfold Rp; rfl
theorem Rp.str {i : Str} : Rp K H A (.str i) (.str i) := by unfold Rp; rfl
theorem Rp.bl {i : Bool} : Rp K H A (.bl i) (.bl i) := by unfold Rp; rfl
theorem Rp.non : Rp K H A .non .non := by unfold Rp; rfl
theorem Rp.tup {ds : List D} {a : Addr} {vs : List V} (h : SqT K H a vs) (r : RpL K H A ds vs) : Rp K H A (.tup ds) (.ref a) := by unfold Rp; exact ⟨a, vs, rfl, h, r⟩
end
/-- a list of data of one's own, with a thing that is asked -/
def oK {α : Type} (o : Option α) (Q : α → Prop) : Prop := match o with
  | some x => Q x
  | none => False
theorem oK_some {α : Type} {x : α} {Q : α → Prop} : oK (some x) Q = Q x := rfl
theorem oK.get {α : Type} {o : Option α} {Q : α → Prop} (h : oK o Q) : ∃ x, o = some x ∧ Q x := by
  cases o with
  | none => exact h.elim
  | some x => exact ⟨x, rfl, h⟩
theorem oK.mk {α : Type} {o : Option α} {Q : α → Prop} {x : α} (e : o = some x) (h : Q x) : oK o Q := by rw [e]; exact h
section
variable {X : Cx} {Ts : AP}
/-- numbers -/
def numOp (C : Int → Int → Prop) (f : Int → Int → D) : D → D → (D → Kd → Prop) → Prop
  | .int i, .int j, Q => C i j ∧ Q (f i j) .sh
  | _, _, _ => False
theorem num_ok {f : Value → Value → Sem Value} {C : Int → Int → Prop} {g : Int → Int → V} {g' : Int → Int → D} (h : OpR X f (rI C g)) (hg : ∀ i j H A, Rp X.K H A (g' i j) (g i j)) : DOp X Ts f (numOp C g') := by
  refine ⟨_, h, fun W σ H A O ρ Xf Qd Q d e v w hd he m c q => ?_⟩
  unfold numOp at q
  split at q
  · exact ⟨_, _, hd.int, he.int, q.1, c.flat m q.2 (hg _ _ _ _)⟩
  · exact q.elim
theorem num_ok0 {f : Value → Value → Sem Value} {g : Int → Int → V} {g' : Int → Int → D} (h : OpR X f (rI0 g)) (hg : ∀ i j H A, Rp X.K H A (g' i j) (g i j)) : DOp X Ts f (numOp (fun _ _ => True) g') := by
  refine ⟨_, h, fun W σ H A O ρ Xf Qd Q d e v w hd he m c q => ?_⟩
  unfold numOp at q
  split at q
  · exact ⟨_, _, hd.int, he.int, c.flat m q.2 (hg _ _ _ _)⟩
  · exact q.elim
abbrev gSub' := numOp (fun _ _ => True) fun i j => .int (i - j)
abbrev gMul := numOp CMulB fun i j => .int (i * j)
abbrev gDiv := numOp CDiv fun i j => .int (i / j)
abbrev gMod := numOp (fun _ j => 0 < j) fun i j => .int (i % j)
abbrev gLt := numOp (fun _ _ => True) fun i j => .bl (decide (i < j))
abbrev gLe := numOp (fun _ _ => True) fun i j => .bl (decide (i ≤ j))
abbrev gGt := numOp (fun _ _ => True) fun i j => .bl (decide (j < i))
abbrev gGe := numOp (fun _ _ => True) fun i j => .bl (decide (j ≤ i))
theorem dop_sub : DOp X Ts (binaryOp .Sub) gSub' := num_ok0 op_sub fun _ _ _ _ => Rp.int
theorem dop_mul : DOp X Ts (binaryOp .Mult) gMul := num_ok op_mulB fun _ _ _ _ => Rp.int
theorem dop_div : DOp X Ts (binaryOp .FloorDiv) gDiv := num_ok op_fdiv fun _ _ _ _ => Rp.int
theorem dop_mod : DOp X Ts (binaryOp .Mod) gMod := num_ok op_mod fun _ _ _ _ => Rp.int
theorem dop_lt : DOp X Ts (compareOp .Lt) gLt := num_ok0 op_lt fun _ _ _ _ => Rp.bl
theorem dop_le : DOp X Ts (compareOp .LtE) gLe := num_ok0 op_le fun _ _ _ _ => Rp.bl
theorem dop_gt : DOp X Ts (compareOp .Gt) gGt := num_ok0 op_gt fun _ _ _ _ => Rp.bl
theorem dop_ge : DOp X Ts (compareOp .GtE) gGe := num_ok0 op_ge fun _ _ _ _ => Rp.bl
/-- + -/
def gAdd : D → D → (D → Kd → Prop) → Prop
  | .int i, .int j, Q => Q (.int (i + j)) .sh
  | .str a, .str b, Q => a.length + b.length ≤ sizeLine ∧ Q (.str (a ++ b)) .sh
  | .lst a, .lst b, Q => a.length + b.length ≤ sizeLine ∧ Q (.lst (a ++ b)) .fr
  | .tup a, .tup b, Q => a.length + b.length ≤ sizeLine ∧ Q (.tup (a ++ b)) .sh
  | _, _, _ => False
theorem dop_add : DOp X Ts (binaryOp .Add) gAdd := by
  refine ⟨_, OpR.or (OpR.or (OpR.or op_add op_add_str) op_cat) op_catA, fun W σ H A O ρ Xf Qd Q d e v w hd he m c q => ?_⟩
  unfold gAdd at q
  split at q
  · exact .inl (.inl (.inl ⟨_, _, hd.int, he.int, c.flat m q Rp.int⟩))
  · exact .inl (.inl (.inr ⟨_, _, hd.str, he.str, q.1, c.flat m q.2 Rp.str⟩))
  · obtain ⟨a, vs, rfl, ha, ra⟩ := hd.lst
    obtain ⟨b, ws, rfl, hb, rb⟩ := he.lst
    refine .inl (.inr ⟨a, b, vs, ws, rfl, rfl, ha, hb, by rw [← ra.len, ← rb.len]; exact q.1, fun p hp => c.fr m hp q.2 (ra.app rb)⟩)
  · obtain ⟨a, vs, rfl, ha, ra⟩ := hd.tup
    obtain ⟨b, ws, rfl, hb, rb⟩ := he.tup
    refine .inr ⟨a, b, vs, ws, rfl, rfl, ha, hb, by rw [← ra.len, ← rb.len]; exact q.1, fun e0 => ?_, fun _ e0 => ?_, fun _ _ p hp => ?_⟩
    · subst e0
      refine c.flat m q.2 (Rp.tup hb ?_)
      have := ra.app rb
      exact this
    · subst e0
      refine c.flat m q.2 (Rp.tup ha ?_)
      have := ra.app rb
      rw [List.append_nil] at this
      exact this
    · exact c.sh m (Sm.new hp) q.2 (Rp.tup (SqT.of upd_same) ((ra.app rb).sm (Sm.new hp)))
  · exact q.elim
/-! ### == -/
mutual
/-- as the library's data -/
def pd : D → PyData
  | .non => .none
  | .bl b => .bool b
  | .int i => .int i
  | .str s => .str s
  | .lst xs => .list (pdL xs)
  | .tup xs => .tuple (pdL xs)
  | _ => .none
def pdL : List D → List PyData
  | [] => []
  | d :: r => pd d :: pdL r
end
mutual
def okD : D → Bool
  | .non => true
  | .bl _ => true
  | .int _ => true
  | .str s => PyData.strOk s
  | .lst xs => okL xs
  | .tup xs => okL xs
  | _ => false
def okL : List D → Bool
  | [] => true
  | d :: r => okD d && okL r
end
mutual
def dpt : D → Nat
  | .lst xs => dptL xs + 1
  | .tup xs => dptL xs + 1
  | _ => 0
def dptL : List D → Nat
  | [] => 0
  | d :: r => max (dpt d) (dptL r)
end
/-- may be compared -/
def shp (d : D) : Bool := okD d && decide (dpt d ≤ 60)
def eqD (d e : D) : Bool := PyData.eqv (pd d) (pd e)
mutual
theorem lay_of : ∀ d : D, okD d = true → (pd d).canLay0 = true
  | .non, _ => by simp [pd, PyData.canLay0]
  | .bl _, _ => by simp [pd, PyData.canLay0]
  | .int _, _ => by simp [pd, PyData.canLay0]
  | .str s, h => by simp only [pd, PyData.canLay0]; exact h
  | .lst xs, h => by simp only [pd, PyData.canLay0]; exact layL_of xs h
  | .tup xs, h => by simp only [pd, PyData.canLay0]; exact layL_of xs h
  | .ins .., h => by simp [okD] at h
  | .dct .., h => by simp [okD] at h
  | .scr _, h => by simp [okD] at h
  | .xc .., h => by simp [okD] at h
  | .xn _, h => by simp [okD] at h
theorem layL_of : ∀ xs : List D, okL xs = true → PyData.canLayAll0 (pdL xs) = true
  | [], _ => by simp [pdL, PyData.canLayAll0]
  | d :: r, h => by
    simp only [okL, Bool.and_eq_true] at h
    simp only [pdL, PyData.canLayAll0, lay_of d h.1, layL_of r h.2, Bool.and_true]
end
mutual
theorem dpt_of : ∀ d : D, (pd d).depth ≤ dpt d + 1
  | .non => by simp [pd, PyData.depth]
  | .bl _ => by simp [pd, PyData.depth]
  | .int _ => by simp [pd, PyData.depth]
  | .str s => by simp [pd, PyData.depth]
  | .lst xs => by
    have := dptL_of xs
    simp only [pd, PyData.depth, dpt]; omega
  | .tup xs => by
    have := dptL_of xs
    simp only [pd, PyData.depth, dpt]; omega
  | .ins .. => by simp [pd, PyData.depth]
  | .dct .. => by simp [pd, PyData.depth]
  | .scr _ => by simp [pd, PyData.depth]
  | .xc .. => by simp [pd, PyData.depth]
  | .xn _ => by simp [pd, PyData.depth]
theorem dptL_of : ∀ xs : List D, PyData.depthAll (pdL xs) ≤ dptL xs + 1
  | [] => by simp [pdL, PyData.depthAll]
  | d :: r => by
    have h1 := dpt_of d
    have h2 := dptL_of r
    simp only [pdL, PyData.depthAll, dptL]
    omega
end
theorem shaped_of {d : D} (h : shp d = true) : SeqAt.shaped (pd d) = true := by
  obtain ⟨h1, h2⟩ := He.ba h
  have h2 := of_decide_eq_true h2
  have h3 := dpt_of d
  unfold SeqAt.shaped
  rw [lay_of d h1, decide_eq_true (by omega)]
  rfl
mutual
theorem dp_of {K : PySem.W.Frag} {H : Hp} {A : AP} : ∀ (d : D) (v : V), okD d = true → Rp K H A d v → Dp K H v (pd d)
  | .non, v, _, h => by unfold Rp at h; subst h; simp only [pd]; exact .non
  | .bl b, v, _, h => by unfold Rp at h; subst h; simp only [pd]; exact .bl b
  | .int i, v, _, h => by unfold Rp at h; subst h; simp only [pd]; exact .int i
  | .str s, v, _, h => by unfold Rp at h; subst h; simp only [pd]; exact .str s
  | .lst xs, v, o, h => by
    unfold Rp at h
    obtain ⟨a, vs, rfl, h1, _, h2⟩ := h
    simp only [pd]
    exact .lst (SqL.of h1) (dpL_of xs vs o h2)
  | .tup xs, v, o, h => by
    unfold Rp at h
    obtain ⟨a, vs, rfl, h1, h2⟩ := h
    simp only [pd]
    exact .tup h1 (dpL_of xs vs o h2)
  | .ins .., _, o, _ => by simp [okD] at o
  | .dct .., _, o, _ => by simp [okD] at o
  | .scr _, _, o, _ => by simp [okD] at o
  | .xc .., _, o, _ => by simp [okD] at o
  | .xn _, _, o, _ => by simp [okD] at o
theorem dpL_of {K : PySem.W.Frag} {H : Hp} {A : AP} : ∀ (ds : List D) (vs : List V), okL ds = true → RpL K H A ds vs → DpAll K H vs (pdL ds)
  | [], vs, _, h => by rw [h.unnil]; simp only [pdL]; exact .nil
  | d :: r, vs, o, h => by
    simp only [okL, Bool.and_eq_true] at o
    obtain ⟨v, t, rfl, h1, h2⟩ := h.uncons
    simp only [pdL]
    exact .cons (dp_of d v o.1 h1) (dpL_of r t o.2 h2)
end
theorem Wk.dp {K : PySem.W.Frag} {H : Hp} {A : AP} {d : D} {v : V} (o : okD d = true) (h : Wk K H A d v) : Dp K H v (pd d) := by
  unfold Wk at h
  split at h
  · obtain ⟨a, vs, rfl, h1, h2⟩ := h
    simp only [pd]
    exact .lst (SqL.of h1) (dpL_of _ vs o h2)
  · exact dp_of d v o h
/-- plain values that == tells apart -/
def sclr : D → D → Option Bool
  | .int i, .int j => some (decide (i = j))
  | .str a, .str b => some (decide (a = b))
  | .bl a, .bl b => some (decide (a = b))
  | .non, .non => some true
  | .non, .str _ => some false
  | .str _, .non => some false
  | .non, .int _ => some false
  | .int _, .non => some false
  | .int _, .str _ => some false
  | .str _, .int _ => some false
  | _, _ => none
theorem sclr_ok {K : PySem.W.Frag} {H : Hp} {A : AP} {d e : D} {v w : V} {b : Bool} (hd : Wk K H A d v) (he : Wk K H A e w) (h : sclr d e = some b) : scal v w = true ∧ b = decide (v = w) := by
  unfold sclr at h
  split at h
  · rw [hd.int, he.int]; cases h; exact ⟨rfl, decide_eq_decide.mpr ⟨congrArg _, V.int.inj⟩⟩
  · rw [hd.str, he.str]; cases h; exact ⟨rfl, decide_eq_decide.mpr ⟨congrArg _, V.str.inj⟩⟩
  · rw [hd.bl, he.bl]; cases h; exact ⟨rfl, decide_eq_decide.mpr ⟨congrArg _, V.bl.inj⟩⟩
  · rw [hd.non, he.non]; cases h; exact ⟨rfl, rfl⟩
  · rw [hd.non, he.str]; cases h; exact ⟨rfl, rfl⟩
  · rw [hd.str, he.non]; cases h; exact ⟨rfl, rfl⟩
  · rw [hd.non, he.int]; cases h; exact ⟨rfl, rfl⟩
  · rw [hd.int, he.non]; cases h; exact ⟨rfl, rfl⟩
  · rw [hd.int, he.str]; cases h; exact ⟨rfl, rfl⟩
  · rw [hd.str, he.int]; cases h; exact ⟨rfl, rfl⟩
  · cases h
/-- == : the plain ones, else what may be compared -/
def gEqB (d e : D) (Q : Bool → Prop) : Prop := match sclr d e with
  | some b => Q b
  | none => shp d = true ∧ shp e = true ∧ Q (eqD d e)
def gEq (d e : D) (Q : D → Kd → Prop) : Prop := gEqB d e fun b => Q (.bl b) .sh
def gNe (d e : D) (Q : D → Kd → Prop) : Prop := gEqB d e fun b => Q (.bl (!b)) .sh
theorem dop_eq (hu : X.A.units + 64 < cLine) : DOp X Ts (compareOp .Eq) gEq := by
  refine ⟨_, OpR.or op_eq (op_eqD hu), fun W σ H A O ρ Xf Qd Q d e v w hd he m c q => ?_⟩
  unfold gEq gEqB at q
  split at q
  · rename_i b hb
    obtain ⟨h1, h2⟩ := sclr_ok hd he hb
    exact .inl ⟨h1, by rw [← h2]; exact c.flat m q Rp.bl⟩
  · obtain ⟨h1, h2, q⟩ := q
    exact .inr ⟨pd d, pd e, hd.dp (He.ba h1).1, he.dp (He.ba h2).1, shaped_of h1, shaped_of h2, c.flat m q Rp.bl⟩
theorem dop_ne (hu : X.A.units + 64 < cLine) : DOp X Ts (compareOp .NotEq) gNe := by
  refine ⟨_, OpR.or op_ne (op_neD hu), fun W σ H A O ρ Xf Qd Q d e v w hd he m c q => ?_⟩
  unfold gNe gEqB at q
  split at q
  · rename_i b hb
    obtain ⟨h1, h2⟩ := sclr_ok hd he hb
    exact .inl ⟨h1, by rw [← h2]; exact c.flat m q Rp.bl⟩
  · obtain ⟨h1, h2, q⟩ := q
    exact .inr ⟨pd d, pd e, hd.dp (He.ba h1).1, he.dp (He.ba h2).1, shaped_of h1, shaped_of h2, c.flat m q Rp.bl⟩
/-! ### is None, in -/
def gIsN (d e : D) (Q : D → Kd → Prop) : Prop := match d, e with
  | .non, .non => Q (.bl true) .sh
  | _, .non => Q (.bl false) .sh
  | _, _ => False
def gNotN (d e : D) (Q : D → Kd → Prop) : Prop := match d, e with
  | .non, .non => Q (.bl false) .sh
  | _, .non => Q (.bl true) .sh
  | _, _ => False
theorem Wk.nn {K : PySem.W.Frag} {H : Hp} {A : AP} {d : D} {v : V} (h : Wk K H A d v) (n : d ≠ .non) : v ≠ .non := by
  rintro rfl
  unfold Wk at h
  split at h
  · obtain ⟨a, vs, e, _⟩ := h
    cases e
  · unfold Rp at h
    split at h
    · exact n rfl
    · cases h
    · cases h
    · cases h
    · obtain ⟨_, _, e, _⟩ := h; cases e
    · obtain ⟨_, _, e, _⟩ := h; cases e
    · obtain ⟨_, _, _, e, _⟩ := h; cases e
    · obtain ⟨_, _, e, _⟩ := h; cases e
    · obtain ⟨_, e, _⟩ := h; cases e
    · obtain ⟨e, _⟩ := h; cases e
    · cases h
theorem dop_isN : DOp X Ts (compareOp .Is) gIsN := by
  refine ⟨_, op_isN, fun W σ H A O ρ Xf Qd Q d e v w hd he m c q => ?_⟩
  unfold gIsN at q
  split at q
  · rw [hd.non, he.non]; exact ⟨rfl, c.flat m q Rp.bl⟩
  · rename_i n
    refine ⟨he.non, ?_⟩
    rw [decide_eq_false (hd.nn fun z => n z)]
    exact c.flat m q Rp.bl
  · exact q.elim
theorem dop_notN : DOp X Ts (compareOp .IsNot) gNotN := by
  refine ⟨_, op_notN, fun W σ H A O ρ Xf Qd Q d e v w hd he m c q => ?_⟩
  unfold gNotN at q
  split at q
  · rw [hd.non, he.non]; exact ⟨rfl, c.flat m q Rp.bl⟩
  · rename_i n
    refine ⟨he.non, ?_⟩
    rw [decide_eq_false (hd.nn fun z => n z)]
    exact c.flat m q Rp.bl
  · exact q.elim
def flD : D → Bool
  | .non => true
  | .bl _ => true
  | .int _ => true
  | .str _ => true
  | _ => false
def vD : D → V
  | .non => .non
  | .bl b => .bl b
  | .int i => .int i
  | .str s => .str s
  | _ => .non
theorem Wk.vD {K : PySem.W.Frag} {H : Hp} {A : AP} {d : D} {v : V} (h : Wk K H A d v) (f : flD d = true) : v = vD d ∧ flatV v = true := by
  cases d with
  | non => rw [h.non]; exact ⟨rfl, rfl⟩
  | bl => rw [h.bl]; exact ⟨rfl, rfl⟩
  | int => rw [h.int]; exact ⟨rfl, rfl⟩
  | str => rw [h.str]; exact ⟨rfl, rfl⟩
  | _ => cases f
theorem RpL.vDs {K : PySem.W.Frag} {H : Hp} {A : AP} : ∀ {ds : List D} {vs : List V}, RpL K H A ds vs → ds.all flD = true → vs = ds.map vD ∧ vs.all flatV = true
  | [], vs, h, _ => by rw [h.unnil]; exact ⟨rfl, rfl⟩
  | d :: r, vs, h, f => by
    obtain ⟨v, t, rfl, h1, h2⟩ := h.uncons
    rw [List.all_cons, Bool.and_eq_true] at f
    obtain ⟨e1, e2⟩ := (Wk.of h1).vD f.1
    obtain ⟨e3, e4⟩ := RpL.vDs h2 f.2
    rw [e1, e3]
    refine ⟨rfl, ?_⟩
    rw [List.all_cons, ← e1, e2, ← e3, e4]
    rfl
/-- is it one of these -/
def hasD (x : D) (ds : List D) : Bool := inV (vD x) (ds.map vD)
theorem has_strs (x : Str) (ss : List Str) : hasD (.str x) (ss.map .str) = ss.contains x := by
  unfold hasD inV
  rw [List.map_map, List.any_map, Bool.eq_iff_iff, List.any_eq_true]
  constructor
  · rintro ⟨y, hy, e⟩
    have e : (y == x) = true := e
    rw [← beq_iff_eq.mp e]
    simpa using hy
  · intro h
    exact ⟨x, by simpa using h, by show (x == x) = true; simp⟩
def gInB (x y : D) (Q : Bool → Prop) : Prop := match y with
  | .lst ds => flD x = true ∧ ds.all flD = true ∧ Q (hasD x ds)
  | .tup ds => flD x = true ∧ ds.all flD = true ∧ Q (hasD x ds)
  | _ => False
def gIn (d e : D) (Q : D → Kd → Prop) : Prop := gInB d e fun b => Q (.bl b) .sh
def gNin (d e : D) (Q : D → Kd → Prop) : Prop := gInB d e fun b => Q (.bl (!b)) .sh
theorem in_ok {neg : Bool} {W : WX} {σ : L2.St} {H : Hp} {A O : AP} {ρ : List Sl} {Xf : XF} {Qd : D → Kd → List Sl → Prop} {Q : VK} {d e : D} {v w : V} (hd : Wk X.K H A d v) (he : Wk X.K H A e w) (m : Mt X.K Ts H A O ρ σ) (c : Cn X.K Ts W σ H A O Xf Qd Q)
    (q : gInB d e fun b => Qd (.bl (if neg then !b else b)) .sh ρ) : rIn X.K neg v w H Q := by
  unfold gInB at q
  split at q
  · obtain ⟨f1, f2, q⟩ := q
    obtain ⟨a, vs, rfl, h1, h2⟩ := he.lst
    obtain ⟨e1, e2⟩ := hd.vD f1
    obtain ⟨e3, e4⟩ := h2.vDs f2
    refine ⟨a, vs, rfl, .inl (SqL.of h1), e2, e4, ?_⟩
    have := c.flat m q Rp.bl
    unfold hasD at this
    rw [← e1, ← e3] at this
    cases neg <;> exact this
  · obtain ⟨f1, f2, q⟩ := q
    obtain ⟨a, vs, rfl, h1, h2⟩ := he.tup
    obtain ⟨e1, e2⟩ := hd.vD f1
    obtain ⟨e3, e4⟩ := h2.vDs f2
    refine ⟨a, vs, rfl, .inr h1, e2, e4, ?_⟩
    have := c.flat m q Rp.bl
    unfold hasD at this
    rw [← e1, ← e3] at this
    cases neg <;> exact this
  · exact q.elim
theorem dop_in : DOp X Ts (compareOp .In) gIn := ⟨_, op_in_seq, fun W σ H A O ρ Xf Qd Q d e v w hd he m c q => in_ok hd he m c q⟩
theorem dop_nin : DOp X Ts (compareOp .NotIn) gNin := ⟨_, op_notIn_seq, fun W σ H A O ρ Xf Qd Q d e v w hd he m c q => in_ok (neg := true) hd he m c q⟩
/-! ### indexes, slices -/
def gIx : D → D → (D → Kd → Prop) → Prop
  | .lst ds, .int i, Q => oK (atI ds i) fun d => Q d .sh
  | .tup ds, .int i, Q => oK (atI ds i) fun d => Q d .sh
  | .str z, .int i, Q => z.length ≤ sizeLine ∧ oK (atI z.cps.toList i) fun c => Q (.str ⟨#[c]⟩) .sh
  | _, _, _ => False
theorem RpL.atI {K : PySem.W.Frag} {A : AP} {H : Hp} {ds : List D} {vs : List V} {i : Int} {d : D} (h : RpL K H A ds vs) (e : L2.atI ds i = some d) : ∃ v, L2.atI vs i = some v ∧ Rp K H A d v := by
  unfold L2.atI at e ⊢
  rw [h.len] at e
  cases q : ixN vs.length i with
  | none => rw [q] at e; cases e
  | some j =>
    rw [q] at e
    exact h.get' (i := j) e
theorem de_ix {W : WX} {a b : Expr} {ta tb : DE} {pos : Pos} (ha : PE X a (upE X.K Ts W ta)) (hb : PE X b (upE X.K Ts W tb)) (hs : PlainIx b) : PE X (.Subscript a b pos) (upE X.K Ts W (dBin gIx ta tb)) := by
  refine (pe_ix (IxR.or (IxR.or ix_list ix_tup) ix_str) ha hb hs).imp fun σ H Q h => up_bin (fun W σ H A O ρ Xf Qd Q d e v w hd he m c q => ?_) h
  unfold gIx at q
  split at q
  · obtain ⟨x, e1, q⟩ := q.get
    obtain ⟨a, vs, rfl, h1, h2⟩ := hd.lst
    obtain ⟨y, e2, r⟩ := h2.atI e1
    exact .inl (.inl ⟨a, vs, _, y, rfl, he.int, SqL.of h1, e2, c.flat m q r⟩)
  · obtain ⟨x, e1, q⟩ := q.get
    obtain ⟨a, vs, rfl, h1, h2⟩ := hd.tup
    obtain ⟨y, e2, r⟩ := h2.atI e1
    exact .inl (.inr ⟨a, vs, _, y, rfl, he.int, h1, e2, c.flat m q r⟩)
  · obtain ⟨h1, q⟩ := q
    obtain ⟨x, e1, q⟩ := q.get
    exact .inr ⟨_, _, x, hd.str, he.int, h1, e1, c.flat m q Rp.str⟩
  · exact q.elim
def cutD (xs : List D) (lo hi : Option Int) : List D := (xs.drop (HT.sIx xs.length 0 lo)).take (HT.sIx xs.length xs.length hi - HT.sIx xs.length 0 lo)
theorem RpL.cut {K : PySem.W.Frag} {A : AP} {H : Hp} {ds : List D} {vs : List V} (h : RpL K H A ds vs) (lo hi : Option Int) : RpL K H A (cutD ds lo hi) (cutV vs lo hi) := by
  unfold cutD cutV
  rw [h.len]
  exact (h.drop _).take _
/-- the bounds of a slice -/
abbrev DO := XF → List Sl → (Option Int → List Sl → Prop) → Prop
def dNoPart : DO := fun _ ρ Q => Q none ρ
def dPart (t : DE) : DO := fun X ρ Q => t X ρ fun d _ ρ1 => match d with
  | .int i => Q (some i) ρ1
  | _ => False
structure CnO (K : PySem.W.Frag) (Ts : AP) (W : WX) (σ : L2.St) (H : Hp) (A O : AP) (X : XF) (Qd : Option Int → List Sl → Prop) (Q : Option Int → Hp → Prop) : Prop where
  q : ∀ b ρ' H' A' O', Qd b ρ' → Sm H H' → Tr A O H A' O' H' → Mt K Ts H' A' O' ρ' σ → Q b H'
  x : ∀ x ρ' cls od H' A' O', X x ρ' → Tr A O H A' O' H' → Mt K Ts H' A' O' ρ' σ → XR K H' A' x cls od → W cls od σ H'
def upO (K : PySem.W.Frag) (Ts : AP) (W : WX) (t : DO) : TO := fun σ H Q => ∃ A O ρ X Qd, Mt K Ts H A O ρ σ ∧ t X ρ Qd ∧ CnO K Ts W σ H A O X Qd Q
theorem _root_.L2.PO.imp {X : Cx} {e : Option Expr} {t t' : TO} (h : PO X e t) (i : ∀ σ H Q, t' σ H Q → t σ H Q) : PO X e t' := ⟨fun pins s σ H Q I q => h.run pins s σ H Q I (i σ H Q q)⟩
theorem do_none {W : WX} : PO X none (upO X.K Ts W dNoPart) := po_none.imp fun σ H Q ⟨A, O, ρ, Xf, Qd, m, h, c⟩ => c.q none ρ H A O h Sm.refl Tr.refl m
theorem do_some {W : WX} {e : Expr} {te : DE} (he : PE X e (upE X.K Ts W te)) : PO X (some e) (upO X.K Ts W (dPart te)) := by
  refine (po_some he).imp fun σ H Q h => ?_
  obtain ⟨A, O, ρ, Xf, Qd, m, h, c⟩ := h
  refine ⟨A, O, ρ, Xf, _, m, h, fun d κ ρ1 v H1 A1 O1 h1 s1 t1 m1 r1 => ?_, c.x⟩
  split at h1
  · exact ⟨_, r1.wk.int, c.q _ ρ1 H1 A1 O1 h1 s1 t1 m1⟩
  · exact h1.elim
def dSl (te : DE) (tl th : DO) : DE := fun X ρ Q => te X ρ fun d _ ρ1 => tl X ρ1 fun lo ρ2 => th X ρ2 fun hi ρ3 => match d with
  | .lst ds => Q (.lst (cutD ds lo hi)) .fr ρ3
  | .scr ns => Q (.lst (cutD (ns.map .int) lo hi)) .fr ρ3
  | .tup ds => Q (.tup (cutD ds lo hi)) .sh ρ3
  | .str z => z.length ≤ sizeLine ∧ Q (.str (cutS z lo hi)) .sh ρ3
  | _ => False
theorem de_slice {W : WX} {e : Expr} {te : DE} {lo hi : Option Expr} {tl th : DO} {pos p2 : Pos} (he : PE X e (upE X.K Ts W te)) (hl : PO X lo (upO X.K Ts W tl)) (hu : PO X hi (upO X.K Ts W th)) : PE X (.Subscript e (.Slice lo hi none p2) pos) (upE X.K Ts W (dSl te tl th)) := by
  refine (pe_slice (SlR.or (SlR.or sl_list sl_tupA) sl_str) he hl hu).imp fun σ H Q h => ?_
  obtain ⟨A, O, ρ, Xf, Qd, m, h, c⟩ := h
  refine ⟨A, O, ρ, Xf, _, m, h, fun d κ ρ1 v H1 A1 O1 h1 s1 t1 m1 r1 => ?_, c.x⟩
  have c1 := c.move s1 t1 m
  refine ⟨A1, O1, ρ1, Xf, _, m1, h1, fun lo ρ2 H2 A2 O2 h2 s2 t2 m2 => ?_, c1.x⟩
  have c2 := c1.move s2 t2 m1
  have w2 := r1.wk.tr s2 t2 m1.sub
  refine ⟨A2, O2, ρ2, Xf, _, m2, h2, fun hi ρ3 H3 A3 O3 h3 s3 t3 m3 => ?_, c2.x⟩
  have c3 := c2.move s3 t3 m2
  have w3 := w2.tr s3 t3 m2.sub
  split at h3
  · obtain ⟨a, vs, rfl, g1, g2⟩ := w3.lst
    exact .inl (.inl ⟨a, vs, rfl, SqL.of g1, fun p hp => c3.fr m3 hp h3 (g2.cut lo hi)⟩)
  · obtain ⟨a, rfl, g1⟩ := w3.scr
    exact .inl (.inl ⟨a, _, rfl, g1.sq, fun p hp => c3.fr m3 hp h3 (RpL.ints.cut lo hi)⟩)
  · obtain ⟨a, vs, rfl, g1, g2⟩ := w3.tup
    refine .inl (.inr ⟨a, vs, rfl, g1, fun z => ?_, fun _ p hp => c3.sh m3 (Sm.new hp) h3 (Rp.tup (SqT.of upd_same) ((g2.cut lo hi).sm (Sm.new hp)))⟩)
    refine c3.flat m3 h3 (Rp.tup g1 ?_)
    have := g2.cut lo hi
    have e : cutV vs lo hi = vs := by
      unfold cutV
      rw [z.1, z.2, List.drop_zero, Nat.sub_zero, List.take_length]
    rw [e] at this
    exact this
  · exact .inr ⟨_, w3.str, h3.1, c3.flat m3 h3.2 Rp.str⟩
  · exact h3.elim
end
end DL

-- part DL4
set_option Elab.async false
set_option linter.all false
set_option maxRecDepth 100000
set_option maxHeartbeats 2000000
/-! arguments, calls of built-ins, displays, append, for, comprehensions, all and any -/
namespace DL
open PySem PySem.Spec PyProof.Rows L2 GxR GS GA GD
/-! ### arguments: kept (strong), looked at (weak) -/
def WkL (K : PySem.W.Frag) (H : Hp) (A : AP) : List D → List V → Prop
  | [], vs => vs = []
  | d :: r, vs => ∃ v t, vs = v :: t ∧ Wk K H A d v ∧ WkL K H A r t
structure CnW (K : PySem.W.Frag) (Ts : AP) (W : WX) (σ : L2.St) (H : Hp) (A O : AP) (X : XF) (Qd : List D → List Sl → Prop) (Q : List V → Hp → Prop) : Prop where
  q : ∀ ds ρ' vs H' A' O', Qd ds ρ' → Sm H H' → Tr A O H A' O' H' → Mt K Ts H' A' O' ρ' σ → WkL K H' A' ds vs → Q vs H'
  x : ∀ x ρ' cls od H' A' O', X x ρ' → Tr A O H A' O' H' → Mt K Ts H' A' O' ρ' σ → XR K H' A' x cls od → W cls od σ H'
def upW (K : PySem.W.Frag) (Ts : AP) (W : WX) (t : DA) : TA := fun σ H Q => ∃ A O ρ X Qd, Mt K Ts H A O ρ σ ∧ t X ρ Qd ∧ CnW K Ts W σ H A O X Qd Q
def dNil : DA := fun _ ρ Q => Q [] ρ
def dCons (te : DE) (ta : DA) : DA := fun X ρ Q => te X ρ fun d κ ρ1 => κ ≠ .bo ∧ ta X ρ1 fun ds ρ2 => Q (d :: ds) ρ2
def dConsW (te : DE) (ta : DA) : DA := fun X ρ Q => te X ρ fun d _ ρ1 => ta X ρ1 fun ds ρ2 => Q (d :: ds) ρ2
/-- the items of a list or tuple -/
def itsD : D → Option (List D)
  | .lst ds => some ds
  | .tup ds => some ds
  | _ => none
def dStar (te : DE) (ta : DA) : DA := fun X ρ Q => te X ρ fun d _ ρ1 => oK (itsD d) fun xs => ta X ρ1 fun ds ρ2 => Q (xs ++ ds) ρ2
section
variable {X : Cx} {Ts : AP} {W : WX} {e : Expr} {es : List Expr} {te : DE} {ta : DA} {pos : Pos}
theorem da_nil : PA X [] (upA X.K Ts W dNil) := pa_nil.imp fun σ H Q ⟨A, O, ρ, Xf, Qd, m, h, c⟩ => c.q [] ρ [] H A O h Sm.refl Tr.refl m RpL.nil
theorem dw_nil : PA X [] (upW X.K Ts W dNil) := pa_nil.imp fun σ H Q ⟨A, O, ρ, Xf, Qd, m, h, c⟩ => c.q [] ρ [] H A O h Sm.refl Tr.refl m (by unfold WkL; rfl)
theorem da_cons (he : PE X e (upE X.K Ts W te)) (ha : PA X es (upA X.K Ts W ta)) (hs : starEach (e :: es) X.env = (false, eval e X.env) :: starEach es X.env := by rfl) : PA X (e :: es) (upA X.K Ts W (dCons te ta)) := by
  refine (pa_cons he ha hs).imp fun σ H Q h => ?_
  obtain ⟨A, O, ρ, Xf, Qd, m, h, c⟩ := h
  refine ⟨A, O, ρ, Xf, _, m, h, fun d κ ρ1 v H1 A1 O1 h1 s1 t1 m1 r1 => ?_, c.x⟩
  have c1 := c.move s1 t1 m
  refine ⟨A1, O1, ρ1, Xf, _, m1, h1.2, fun ds ρ2 vs H2 A2 O2 h2 s2 t2 m2 r2 => ?_, c1.x⟩
  exact c1.q _ ρ2 _ H2 A2 O2 h2 s2 t2 m2 (RpL.cons ((r1.rp h1.1).tr t2 m1.sub) r2)
theorem da_consW (he : PE X e (upE X.K Ts W te)) (ha : PA X es (upW X.K Ts W ta)) (hs : starEach (e :: es) X.env = (false, eval e X.env) :: starEach es X.env := by rfl) : PA X (e :: es) (upW X.K Ts W (dConsW te ta)) := by
  refine (pa_cons he ha hs).imp fun σ H Q h => ?_
  obtain ⟨A, O, ρ, Xf, Qd, m, h, c⟩ := h
  refine ⟨A, O, ρ, Xf, _, m, h, fun d κ ρ1 v H1 A1 O1 h1 s1 t1 m1 r1 => ?_, c.x⟩
  refine ⟨A1, O1, ρ1, Xf, _, m1, h1, fun ds ρ2 vs H2 A2 O2 h2 s2 t2 m2 r2 => ?_, fun x ρ' cls od H' A' O' z t' => c.x x ρ' cls od H' A' O' z (t1.trans t' m.trk)⟩
  refine c.q _ ρ2 _ H2 A2 O2 h2 (s1.trans s2) (t1.trans t2 m.trk) m2 ?_
  unfold WkL
  exact ⟨v, vs, rfl, r1.wk.tr s2 t2 m1.sub, r2⟩
theorem da_star {p : Pos} (he : PE X e (upE X.K Ts W te)) (ha : PA X es (upA X.K Ts W ta)) (hs : starEach (.Starred e p :: es) X.env = (true, eval e X.env) :: starEach es X.env := by rfl) : PA X (.Starred e p :: es) (upA X.K Ts W (dStar te ta)) := by
  refine (StX.pa_star he ha hs).imp fun σ H Q h => ?_
  obtain ⟨A, O, ρ, Xf, Qd, m, h, c⟩ := h
  refine ⟨A, O, ρ, Xf, _, m, h, fun d κ ρ1 v H1 A1 O1 h1 s1 t1 m1 r1 => ?_, c.x⟩
  have c1 := c.move s1 t1 m
  obtain ⟨xs, ex, h1⟩ := h1.get
  have w := r1.wk
  have fin : ∀ vs, RpL X.K H1 A1 xs vs → upA X.K Ts W ta σ H1 fun ys H2 => Q (vs ++ ys) H2 := fun vs rx => by
    refine ⟨A1, O1, ρ1, Xf, _, m1, h1, fun ds ρ2 ws H2 A2 O2 h2 s2 t2 m2 r2 => ?_, c1.x⟩
    exact c1.q _ ρ2 _ H2 A2 O2 h2 s2 t2 m2 ((rx.tr t2 m1.sub).app r2)
  unfold itsD at ex
  split at ex
  · cases ex
    obtain ⟨a, vs, rfl, g1, g2⟩ := w.lst
    exact ⟨a, vs, rfl, .inr (SqL.of g1), fin vs g2⟩
  · cases ex
    obtain ⟨a, vs, rfl, g1, g2⟩ := w.tup
    exact ⟨a, vs, rfl, .inl g1, fin vs g2⟩
  · cases ex
/-! ### displays -/
def dLst (ta : DA) : DE := fun X ρ Q => ta X ρ fun ds ρ1 => ds.length ≤ sizeLine ∧ Q (.lst ds) .fr ρ1
def dTup (ta : DA) : DE := fun X ρ Q => ta X ρ fun ds ρ1 => ds.length ≤ sizeLine ∧ Q (.tup ds) .sh ρ1
theorem de_lst (ha : PA X es (upA X.K Ts W ta)) : PE X (.List es pos) (upE X.K Ts W (dLst ta)) := by
  refine (pe_lst ha).imp fun σ H Q h => ?_
  obtain ⟨A, O, ρ, Xf, Qd, m, h, c⟩ := h
  refine ⟨A, O, ρ, Xf, _, m, h, fun ds ρ1 vs H1 A1 O1 h1 s1 t1 m1 r1 => ?_, c.x⟩
  exact ⟨by rw [← r1.len]; exact h1.1, fun p hp => (c.move s1 t1 m).fr m1 hp h1.2 r1⟩
theorem de_tup {x1} (ha : PA X es (upA X.K Ts W ta)) : PE X (.Tuple es x1 pos) (upE X.K Ts W (dTup ta)) := by
  refine (pe_tup ha).imp fun σ H Q h => ?_
  obtain ⟨A, O, ρ, Xf, Qd, m, h, c⟩ := h
  refine ⟨A, O, ρ, Xf, _, m, h, fun ds ρ1 vs H1 A1 O1 h1 s1 t1 m1 r1 => ?_, c.x⟩
  exact ⟨by rw [← r1.len]; exact h1.1, fun p hp => (c.move s1 t1 m).sh m1 (Sm.new hp) h1.2 (Rp.tup (SqT.of upd_same) (r1.sm (Sm.new hp)))⟩
/-! ### built-ins called -/
def DCl (X : Cx) (Ts : AP) (f : Value) (g : List D → (D → Kd → Prop) → Prop) : Prop := ∃ r : List V → Hp → VK → Prop, CallR X f r ∧
  ∀ (W : WX) (σ : L2.St) (H : Hp) (A O : AP) (ρ : List Sl) (Xf : XF) (Qd : D → Kd → List Sl → Prop) (Q : VK) (ds : List D) (vs : List V), WkL X.K H A ds vs → Mt X.K Ts H A O ρ σ → Cn X.K Ts W σ H A O Xf Qd Q → g ds (fun z κ => Qd z κ ρ) → r vs H Q
def dBlt (g : List D → (D → Kd → Prop) → Prop) (ta : DA) : DE := fun X ρ Q => ta X ρ fun ds ρ1 => g ds fun z κ => Q z κ ρ1
theorem up_blt {g : List D → (D → Kd → Prop) → Prop} {r : List V → Hp → VK → Prop} (ho : ∀ (W : WX) (σ : L2.St) (H : Hp) (A O : AP) (ρ : List Sl) (Xf : XF) (Qd : D → Kd → List Sl → Prop) (Q : VK) (ds : List D) (vs : List V), WkL X.K H A ds vs → Mt X.K Ts H A O ρ σ → Cn X.K Ts W σ H A O Xf Qd Q → g ds (fun z κ => Qd z κ ρ) → r vs H Q)
    {σ : L2.St} {H : Hp} {Q : VK} (h : upE X.K Ts W (dBlt g ta) σ H Q) : tCB r (upW X.K Ts W ta) σ H Q := by
  obtain ⟨A, O, ρ, Xf, Qd, m, h, c⟩ := h
  exact ⟨A, O, ρ, Xf, _, m, h, fun ds ρ1 vs H1 A1 O1 h1 s1 t1 m1 r1 => ho W σ H1 A1 O1 ρ1 Xf Qd Q ds vs r1 m1 (c.move s1 t1 m) h1, c.x⟩
theorem de_callB {x : Str} {id : String} {p : Pos} {g : List D → (D → Kd → Prop) → Prop} (hc : DCl X Ts (.builtin id) g) (hg : Gl X x) (hm : X.mg x = none) (hv : bootBuiltins x = some (.builtin id)) (ha : PA X (e :: es) (upW X.K Ts W ta)) (hn : x ≠ "__name__" := by decide) (hdb : (x == ("__debug__" : Str)) = false := by decide)
    (hs : starEach (e :: es) X.env = (false, eval e X.env) :: starEach es X.env := by rfl) (hb : (backTo pos (starEach es X.env)).any (·.1) = false := by rfl) : PE X (.Call (.Name x p) (e :: es) [] pos) (upE X.K Ts W (dBlt g ta)) := by
  obtain ⟨r, h1, h2⟩ := hc
  exact (pe_callB h1 hg hm hv ha hn hdb hs hb).imp fun σ H Q h => up_blt h2 h
theorem de_callTy {x : Str} {T : String} {p : Pos} {g : List D → (D → Kd → Prop) → Prop} (hc : DCl X Ts (.type T) g) (hg : Gl X x) (hm : X.mg x = none) (hv : bootBuiltins x = some (.type T)) (ha : PA X (e :: es) (upW X.K Ts W ta)) (hn : x ≠ "__name__" := by decide) (hdb : (x == ("__debug__" : Str)) = false := by decide)
    (hs : starEach (e :: es) X.env = (false, eval e X.env) :: starEach es X.env := by rfl) (hb : (backTo pos (starEach es X.env)).any (·.1) = false := by rfl) : PE X (.Call (.Name x p) (e :: es) [] pos) (upE X.K Ts W (dBlt g ta)) := by
  obtain ⟨r, h1, h2⟩ := hc
  exact (pe_callTy h1 hg hm hv ha hn hdb hs hb).imp fun σ H Q h => up_blt h2 h
theorem WkL.one {K : PySem.W.Frag} {H : Hp} {A : AP} {d : D} {vs : List V} (h : WkL K H A [d] vs) : ∃ v, vs = [v] ∧ Wk K H A d v := by
  simp only [WkL] at h
  obtain ⟨v, t, rfl, h1, rfl⟩ := h
  exact ⟨v, rfl, h1⟩
theorem WkL.two {K : PySem.W.Frag} {H : Hp} {A : AP} {d e : D} {vs : List V} (h : WkL K H A [d, e] vs) : ∃ v w, vs = [v, w] ∧ Wk K H A d v ∧ Wk K H A e w := by
  simp only [WkL] at h
  obtain ⟨v, t, rfl, h1, w, t2, rfl, h2, rfl⟩ := h
  exact ⟨v, w, rfl, h1, h2⟩
def gLen : List D → (D → Kd → Prop) → Prop
  | [.lst ds], Q => Q (.int ds.length) .sh
  | [.tup ds], Q => Q (.int ds.length) .sh
  | [.scr ds], Q => Q (.int ds.length) .sh
  | [.str z], Q => z.length ≤ sizeLine ∧ Q (.int (z.length : Nat)) .sh
  | _, _ => False
theorem dcl_len : DCl X Ts (.builtin "len") gLen := by
  refine ⟨_, call_len, fun W σ H A O ρ Xf Qd Q ds vs hd m c q => ?_⟩
  unfold gLen at q
  split at q
  · obtain ⟨v, rfl, w⟩ := hd.one
    obtain ⟨a, ws, rfl, h1, h2⟩ := w.lst
    exact ⟨_, ws.length, rfl, .inl ⟨ws, SqL.of h1, rfl⟩, by rw [← h2.len]; exact c.flat m q Rp.int⟩
  · obtain ⟨v, rfl, w⟩ := hd.one
    obtain ⟨a, ws, rfl, h1, h2⟩ := w.tup
    exact ⟨_, ws.length, rfl, .inr ⟨ws, h1, rfl⟩, by rw [← h2.len]; exact c.flat m q Rp.int⟩
  · obtain ⟨v, rfl, w⟩ := hd.one
    obtain ⟨a, rfl, h1⟩ := w.scr
    exact ⟨_, _, rfl, .inl ⟨_, h1.sq, rfl⟩, by rw [List.length_map]; exact c.flat m q Rp.int⟩
  · obtain ⟨v, rfl, w⟩ := hd.one
    rw [w.str]
    exact ⟨_, _, rfl, ⟨q.1, rfl⟩, c.flat m q.2 Rp.int⟩
  · exact q.elim
def gInt : List D → (D → Kd → Prop) → Prop
  | [.int i], Q => Q (.int i) .sh
  | [.bl k], Q => Q (.int (if k then 1 else 0)) .sh
  | _, _ => False
theorem dcl_int : DCl X Ts (.type "int") gInt := by
  refine ⟨_, call_int1, fun W σ H A O ρ Xf Qd Q ds vs hd m c q => ?_⟩
  unfold gInt at q
  split at q
  · obtain ⟨v, rfl, w⟩ := hd.one
    rw [w.int]; exact .inl ⟨_, rfl, c.flat m q Rp.int⟩
  · obtain ⟨v, rfl, w⟩ := hd.one
    rw [w.bl]; exact .inr ⟨_, rfl, c.flat m q Rp.int⟩
  · exact q.elim
def gAbs : List D → (D → Kd → Prop) → Prop
  | [.int i], Q => Q (.int (if i < 0 then -i else i)) .sh
  | _, _ => False
theorem dcl_abs : DCl X Ts (.builtin "abs") gAbs := by
  refine ⟨_, call_abs, fun W σ H A O ρ Xf Qd Q ds vs hd m c q => ?_⟩
  unfold gAbs at q
  split at q
  · obtain ⟨v, rfl, w⟩ := hd.one
    rw [w.int]; exact ⟨_, rfl, c.flat m q Rp.int⟩
  · exact q.elim
def gMax : List D → (D → Kd → Prop) → Prop
  | [.int i, .int j], Q => Q (.int (if j > i then j else i)) .sh
  | _, _ => False
def gMin : List D → (D → Kd → Prop) → Prop
  | [.int i, .int j], Q => Q (.int (if j < i then j else i)) .sh
  | _, _ => False
theorem dcl_max (hc : X.calm = true) : DCl X Ts (.builtin "max") gMax := by
  refine ⟨_, call_max2 hc, fun W σ H A O ρ Xf Qd Q ds vs hd m c q => ?_⟩
  unfold gMax at q
  split at q
  · obtain ⟨v, w, rfl, h1, h2⟩ := hd.two
    rw [h1.int, h2.int]; exact ⟨_, _, rfl, c.flat m q Rp.int⟩
  · exact q.elim
theorem dcl_min (hc : X.calm = true) : DCl X Ts (.builtin "min") gMin := by
  refine ⟨_, call_min2 hc, fun W σ H A O ρ Xf Qd Q ds vs hd m c q => ?_⟩
  unfold gMin at q
  split at q
  · obtain ⟨v, w, rfl, h1, h2⟩ := hd.two
    rw [h1.int, h2.int]; exact ⟨_, _, rfl, c.flat m q Rp.int⟩
  · exact q.elim
def gTuple : List D → (D → Kd → Prop) → Prop
  | [.lst ds], Q => Q (.tup ds) .sh
  | [.tup ds], Q => Q (.tup ds) .sh
  | _, _ => False
def gList : List D → (D → Kd → Prop) → Prop
  | [.lst ds], Q => Q (.lst ds) .fr
  | [.tup ds], Q => Q (.lst ds) .fr
  | _, _ => False
theorem dcl_tuple : DCl X Ts (.type "tuple") gTuple := by
  refine ⟨_, call_tuple_of, fun W σ H A O ρ Xf Qd Q ds vs hd m c q => ?_⟩
  unfold gTuple at q
  split at q
  · obtain ⟨v, rfl, w⟩ := hd.one
    obtain ⟨a, ws, rfl, h1, h2⟩ := w.lst
    exact ⟨a, ws, rfl, .inl ⟨SqL.of h1, fun p hp => c.sh m (Sm.new hp) q (Rp.tup (SqT.of upd_same) (h2.sm (Sm.new hp)))⟩⟩
  · obtain ⟨v, rfl, w⟩ := hd.one
    obtain ⟨a, ws, rfl, h1, h2⟩ := w.tup
    exact ⟨a, ws, rfl, .inr ⟨h1, c.flat m q (Rp.tup h1 h2)⟩⟩
  · exact q.elim
theorem dcl_list : DCl X Ts (.type "list") gList := by
  refine ⟨_, call_list_of, fun W σ H A O ρ Xf Qd Q ds vs hd m c q => ?_⟩
  unfold gList at q
  split at q
  · obtain ⟨v, rfl, w⟩ := hd.one
    obtain ⟨a, ws, rfl, h1, h2⟩ := w.lst
    exact ⟨a, ws, rfl, .inl (SqL.of h1), fun p hp => c.fr m hp q h2⟩
  · obtain ⟨v, rfl, w⟩ := hd.one
    obtain ⟨a, ws, rfl, h1, h2⟩ := w.tup
    exact ⟨a, ws, rfl, .inr h1, fun p hp => c.fr m hp q h2⟩
  · exact q.elim
/-! ### x.append(e), x a list of one's own -/
def owAt (ρ : List Sl) (i : Nat) (Q : List D → Prop) : Prop := match ρ[i]? with
  | some (.ow ds) => Q ds
  | _ => False
theorem owAt.get {ρ : List Sl} {i : Nat} {Q : List D → Prop} (h : owAt ρ i Q) : ∃ ds, ρ[i]? = some (.ow ds) ∧ Q ds := by
  unfold owAt at h
  split at h
  · exact ⟨_, by assumption, h⟩
  · exact h.elim
def dApp (i : Nat) (te : DE) : DS := fun X N ρ => owAt ρ i fun _ => te X ρ fun d κ ρ1 => κ ≠ .bo ∧ owAt ρ1 i fun ds => ds.length < sizeLine ∧ N.nx (ρ1.set i (.ow (ds ++ [d])))
theorem ds_append {i : Nat} {x : Str} {p apos cpos pos' : Pos} (hN : X.N[i]? = some x) (hv : Vis X.env.scope x) (he : PE X e (upE X.K Ts W te)) (hd : (x == ("__debug__" : Str)) = false := by decide) (hcd : (x == ("__classdict__" : Str)) = false := by decide)
    (hbase : attributeBase (.Name x p) "append" X.env (eval (.Name x p) X.env) = eval (.Name x p) X.env := by rfl)
    (hfew : ((backTo cpos (starEach [e] X.env)).all (fun x => !x.1) && (backToKw cpos (keywordEach [] X.env)).all (fun x => x.1.isSome) && decide (([e] : List Expr).length + ([] : List Keyword).length + (if ([] : List Keyword).isEmpty then 0 else 1) < 30)) = true := by rfl)
    (hline : (apos.endLine == cpos.line) = true := by rfl) (hs : starEach [e] X.env = (false, eval e X.env) :: starEach [] X.env := by rfl) (hplain : (backTo cpos (starEach [] X.env)).any (·.1) = false := by rfl)
    (hsw : swapsWith (.Call (.Attribute (.Name x p) "append" apos) [e] [] cpos) none pos'.line X.env = pure false := by rfl) :
    PS X (.Expr (.Call (.Attribute (.Name x p) "append" apos) [e] [] cpos) pos') (upS X.K Ts W (dApp i te)) := by
  refine (ps_expr (pe_bm PySem.F.plainAttrs_list PySem.F.slot_list_append PySem.F.type_list_append mt_append (pe_var hN hv hd hcd) (pa_cons he pa_nil hs) hbase hfew hline hs hplain) hsw).imp fun E σ H h => ?_
  obtain ⟨A, O, ρ, Xf, N, m, h, c⟩ := h
  obtain ⟨ds0, e0, h⟩ := h.get
  obtain ⟨a, vs0, h1, h2, h3, h4⟩ := m.ow i ds0 e0
  refine ⟨_, h1, .inl ⟨rfl, vs0, SqL.of h3⟩, ?_⟩
  refine ⟨A, O, ρ, Xf, _, m, h, fun d κ ρ1 v H1 A1 O1 q s1 t1 m1 r1 => ?_, fun x ρ' cls od H' A' O' => c.x x ρ' cls od σ H' A' O'⟩
  obtain ⟨nb, q⟩ := q
  obtain ⟨ds, e1, q⟩ := q.get
  obtain ⟨b, vs, g1, g2, g3, g4⟩ := m1.ow i ds e1
  rw [h1] at g1
  cases g1
  refine ⟨a, vs, v, rfl, rfl, g3, by rw [← g4.len]; exact q.1, ?_⟩
  obtain ⟨m2, t2⟩ := m1.put (es := ds ++ [d]) (vs := vs ++ [v]) e1 h1 g3 g2 (g4.app (RpL.cons (r1.rp nb) RpL.nil))
  exact c.nx _ σ _ _ _ q.2 (t1.trans t2 m.trk) m2
end
/-! ### what is walked -/
structure Wlk (K : PySem.W.Frag) (H : Hp) (A O : AP) (lent : Bool) (J : It) (ds : List D) : Prop where
  ex : ∃ (G : Hp → Prop) (Y : Nat → Hp → V → Hp → Prop), Walk J ds.length G Y ∧ (∀ H1 A1 O1, Tr A O H A1 O1 H1 → (lent = true → Sm H H1) → G H1) ∧
    ∀ i H1 A1 O1 x H2, i < ds.length → Tr A O H A1 O1 H1 → (lent = true → Sm H H1) → Y i H1 x H2 → Sm H1 H2 ∧ ∃ d, ds[i]? = some d ∧ Rp K H2 A1 d x
abbrev DI := XF → List Sl → (List D → Bool → List Sl → Prop) → Prop
structure CnI (K : PySem.W.Frag) (Ts : AP) (W : WX) (σ : L2.St) (H : Hp) (A O : AP) (X : XF) (Qd : List D → Bool → List Sl → Prop) (R : It → Hp → Prop) : Prop where
  q : ∀ ds lent ρ' J H' A' O', Qd ds lent ρ' → Sm H H' → Tr A O H A' O' H' → Mt K Ts H' A' O' ρ' σ → Wlk K H' A' O' lent J ds → R J H'
  x : ∀ x ρ' cls od H' A' O', X x ρ' → Tr A O H A' O' H' → Mt K Ts H' A' O' ρ' σ → XR K H' A' x cls od → W cls od σ H'
def upI (K : PySem.W.Frag) (Ts : AP) (W : WX) (t : DI) : TI := fun σ H R => ∃ A O ρ X Qd, Mt K Ts H A O ρ σ ∧ t X ρ Qd ∧ CnI K Ts W σ H A O X Qd R
theorem _root_.L2.PI.imp {X : Cx} {tg e : Expr} {t t' : TI} (h : PI X tg e t) (i : ∀ σ H R, t' σ H R → t σ H R) : PI X tg e t' := ⟨fun pins s σ H R I q => h.run pins s σ H R I (i σ H R q)⟩
section
variable {X : Cx} {Ts : AP} {W : WX} {e tg : Expr} {es : List Expr} {te : DE} {ta : DA} {pos p : Pos}
/-- a list, a tuple, a text -/
def iAny (K : PySem.W.Frag) (tl : TE) : TI := fun σ H R => tl σ H fun x H1 => (∃ a, x = .ref a ∧ ((∃ xs, SqL K H1 a xs) ∧ R (Itl K a) H1 ∨ (∃ xs, SqT K H1 a xs) ∧ R (Itt K a) H1)) ∨ ∃ z, x = .str z ∧ R (Its z) H1
theorem pi_any {l : Expr} {tl : TE} (hl : PE X l tl) : PI X tg l (iAny X.K tl) := by
  refine ⟨fun pins s σ H R I h => ?_⟩
  refine thn (hl.run pins s σ H _ I h) fun v s1 ⟨x, H1, I1, r1, q⟩ => ?_
  rcases q with ⟨a, rfl, q⟩ | ⟨z, rfl, q⟩
  · obtain rfl : v = Value.ref a := r1
    rcases q with ⟨⟨xs, hq⟩, q⟩ | ⟨⟨xs, hq⟩, q⟩
    · obtain ⟨its, rv, p, hz⟩ := I1.list hq
      refine wpAny_pyIter_list p.isList ?_
      refine ⟨s1.heap.objs.size, [s1.heap.objs.size], _, _, H1, rfl, I1.kept (t' := s1.toks) fun b o e => Heap.get?_push_of_some _ e, turn_list a _, ⟨_, Heap.get?_push_size _ rfl, rfl, rfl⟩, fun b hb => ?_, q⟩
      rw [List.mem_singleton.mp hb]
      exact I1.fpOk (Nat.le_refl _) (I1.hok.fresh (Nat.le_refl _))
    · obtain ⟨its, rv, p, hz⟩ := I1.tuple hq
      refine wpAny_pyIter_tuple (show s1.heap.IsTuple a its.toArray from p) ?_
      refine ⟨s1.heap.objs.size, [s1.heap.objs.size], _, _, H1, rfl, I1.kept (t' := s1.toks) fun b o e => Heap.get?_push_of_some _ e, turn_tuple a _, ⟨_, Heap.get?_push_size _ rfl, rfl, rfl⟩, fun b hb => ?_, q⟩
      rw [List.mem_singleton.mp hb]
      exact I1.fpOk (Nat.le_refl _) (I1.hok.fresh (Nat.le_refl _))
  · obtain ⟨t, rfl⟩ := r1
    cases ha : z.cps.all (· < 128)
    · exact wpAny_pyIter_wide ha (pi_one (tk := s1.toks) I1 _ (turn_str _ z t "str_iterator" (.inr rfl)) ⟨_, Heap.get?_push_size _ rfl, rfl, rfl⟩ q)
    · exact wpAny_pyIter_ascii ha (pi_one (tk := s1.toks) I1 _ (turn_str _ z t "str_ascii_iterator" (.inl rfl)) ⟨_, Heap.get?_push_size _ rfl, rfl, rfl⟩ q)
theorem yat_len {xs : List V} {n : Nat} (e : xs.length = n) {J : It} {G : Hp → Prop} {Y : Nat → Hp → V → Hp → Prop} (w : Walk J xs.length G Y) : Walk J n G Y := by rw [← e]; exact w
theorem wlk_list {K : PySem.W.Frag} {H : Hp} {A O : AP} {lent : Bool} {a : Addr} {vs : List V} {ds : List D} (h : H a = some (.lst vs)) (r : RpL K H A ds vs) (hO : ∀ b, O b → A b) (hl : lent = true ∨ ¬ A a) : Wlk K H A O lent (Itl K a) ds := by
  refine ⟨_, _, yat_len r.len.symm walk_list, fun H1 A1 O1 t l => ?_, fun i H1 A1 O1 x H2 hi t l y => ?_⟩
  · rcases hl with hl | hl
    · exact SqL.of ((l hl).st a _ h fun _ z => by cases z)
    · exact SqL.of (t.kp.st a _ h (fun _ z => hl (hO a z)) fun _ z => by cases z)
  · obtain ⟨rfl, y⟩ := y
    obtain ⟨d, e, q⟩ := r.get y
    exact ⟨Sm.refl, d, e, q.tr t hO⟩
theorem wlk_tup {K : PySem.W.Frag} {H : Hp} {A O : AP} {lent : Bool} {a : Addr} {vs : List V} {ds : List D} (h : SqT K H a vs) (r : RpL K H A ds vs) (hO : ∀ b, O b → A b) : Wlk K H A O lent (Itt K a) ds := by
  refine ⟨_, _, yat_len r.len.symm walk_tup, fun H1 A1 O1 t l => ?_, fun i H1 A1 O1 x H2 hi t l y => ?_⟩
  · exact sqt_keep (fun u hu q => t.kp.st a u q (fun m => by rcases hu with rfl | ⟨x, rfl⟩ <;> exact m.elim) (by rintro ps rfl; rcases hu with z | ⟨_, z⟩ <;> cases z)) h
  · obtain ⟨rfl, y⟩ := y
    obtain ⟨d, e, q⟩ := r.get y
    exact ⟨Sm.refl, d, e, q.tr t hO⟩
theorem wlk_scr {K : PySem.W.Frag} {H : Hp} {A O : AP} {lent : Bool} {a : Addr} {ns : List Int} (h : ScrAt K H a (ns.map V.int)) (hO : ∀ b, O b → A b) : Wlk K H A O lent (Itl K a) (ns.map .int) := by
  have r : RpL K H A (ns.map D.int) (ns.map V.int) := RpL.ints
  refine ⟨_, _, yat_len r.len.symm walk_list, fun H1 A1 O1 t l => ?_, fun i H1 A1 O1 x H2 hi t l y => ?_⟩
  · exact ScrAt.sq (scr_keep (fun o u q => t.kp.st a _ q (fun m => m.elim) (fun ps z => by cases z)) h)
  · obtain ⟨rfl, y⟩ := y
    obtain ⟨d, e, q⟩ := r.get y
    exact ⟨Sm.refl, d, e, q.tr t hO⟩
def chD (z : Str) : List D := z.cps.toList.map fun c => .str ⟨#[c]⟩
theorem wlk_str {K : PySem.W.Frag} {H : Hp} {A O : AP} {lent : Bool} {z : Str} : Wlk K H A O lent (Its z) (chD z) := by
  have e : z.cps.size = (chD z).length := by unfold chD; rw [List.length_map, Array.length_toList]
  refine ⟨_, _, e ▸ walk_str, fun H1 A1 O1 t l => trivial, fun i H1 A1 O1 x H2 hi t l y => ?_⟩
  obtain ⟨rfl, c, hc, rfl⟩ := y
  refine ⟨Sm.refl, .str ⟨#[c]⟩, ?_, Rp.str⟩
  unfold chD
  rw [List.getElem?_map, Array.getElem?_toList, hc]
  rfl
/-- over a value; lent: it is a list of one's own -/
def diVal (te : DE) : DI := fun X ρ Q => te X ρ fun d κ ρ1 => match d with
  | .lst ds => Q ds (match κ with | .bo => true | _ => false) ρ1
  | .tup ds => Q ds false ρ1
  | .scr ns => Q (ns.map .int) false ρ1
  | .str z => Q (chD z) false ρ1
  | _ => False
theorem di_val (he : PE X e (upE X.K Ts W te)) : PI X tg e (upI X.K Ts W (diVal te)) := by
  refine (pi_any he).imp fun σ H R h => ?_
  obtain ⟨A, O, ρ, Xf, Qd, m, h, c⟩ := h
  refine ⟨A, O, ρ, Xf, _, m, h, fun d κ ρ1 v H1 A1 O1 h1 s1 t1 m1 r1 => ?_, c.x⟩
  split at h1
  · cases κ with
    | bo =>
      obtain ⟨a, vs, rfl, g1, g2⟩ := r1.wk.lst
      exact .inl ⟨a, rfl, .inl ⟨⟨vs, SqL.of g1⟩, c.q _ _ ρ1 _ H1 A1 O1 h1 s1 t1 m1 (wlk_list g1 g2 m1.sub (.inl rfl))⟩⟩
    | sh =>
      have r2 := r1.rp (by simp)
      unfold Rp at r2
      obtain ⟨a, vs, rfl, g1, g0, g2⟩ := r2
      exact .inl ⟨a, rfl, .inl ⟨⟨vs, SqL.of g1⟩, c.q _ _ ρ1 _ H1 A1 O1 h1 s1 t1 m1 (wlk_list g1 g2 m1.sub (.inr g0))⟩⟩
    | fr =>
      have r2 := r1.rp (by simp)
      unfold Rp at r2
      obtain ⟨a, vs, rfl, g1, g0, g2⟩ := r2
      exact .inl ⟨a, rfl, .inl ⟨⟨vs, SqL.of g1⟩, c.q _ _ ρ1 _ H1 A1 O1 h1 s1 t1 m1 (wlk_list g1 g2 m1.sub (.inr g0))⟩⟩
  · obtain ⟨a, vs, rfl, g1, g2⟩ := r1.wk.tup
    exact .inl ⟨a, rfl, .inr ⟨⟨vs, g1⟩, c.q _ _ ρ1 _ H1 A1 O1 h1 s1 t1 m1 (wlk_tup g1 g2 m1.sub)⟩⟩
  · obtain ⟨a, rfl, g1⟩ := r1.wk.scr
    exact .inl ⟨a, rfl, .inl ⟨⟨_, g1.sq⟩, c.q _ _ ρ1 _ H1 A1 O1 h1 s1 t1 m1 (wlk_scr g1 m1.sub)⟩⟩
  · exact .inr ⟨_, r1.wk.str, c.q _ _ ρ1 _ H1 A1 O1 h1 s1 t1 m1 wlk_str⟩
  · exact h1.elim
def rngD (n : Nat) : List D := (List.range n).map fun k : Nat => .int (k : Int)
theorem wlk_rng {K : PySem.W.Frag} {H : Hp} {A O : AP} {lent : Bool} {n : Nat} : Wlk K H A O lent (Itr 0 n) (rngD n) := by
  have e : n = (rngD n).length := by unfold rngD; rw [List.length_map, List.length_range]
  refine ⟨fun _ => True, YFn fun i => .int (0 + i), e ▸ walk_range, fun H1 A1 O1 t l => trivial, fun i H1 A1 O1 x H2 hi t l y => ?_⟩
  obtain ⟨rfl, rfl⟩ := y
  refine ⟨Sm.refl, .int i, ?_, by show Rp K H2 A1 (.int (i : Nat)) (.int (0 + (i : Nat))); rw [Int.zero_add]; exact Rp.int⟩
  unfold rngD
  rw [List.getElem?_map, List.getElem?_range (by rw [← e] at hi; exact hi)]
  rfl
/-- range(n) -/
def diRng (ta : DA) : DI := fun X ρ Q => ta X ρ fun ds ρ1 => match ds with
  | [.int n] => -(2 ^ 62) ≤ n ∧ n < 2 ^ 62 ∧ Q (rngD n.toNat) false ρ1
  | _ => False
theorem di_rng {a : Expr} (hg : Gl X "range") (hm : X.mg "range" = none) (ha : PA X [a] (upW X.K Ts W ta)) (hs : starEach [a] X.env = [(false, eval a X.env)] := by rfl) : PI X tg (.Call (.Name "range" p) [a] [] pos) (upI X.K Ts W (diRng ta)) := by
  refine (pi_range1 hg hm ha hs).imp fun σ H R h => ?_
  obtain ⟨A, O, ρ, Xf, Qd, m, h, c⟩ := h
  refine ⟨A, O, ρ, Xf, _, m, h, fun ds ρ1 vs H1 A1 O1 h1 s1 t1 m1 r1 => ?_, c.x⟩
  split at h1
  · obtain ⟨v, rfl, w⟩ := r1.one
    rw [w.int]
    exact ⟨_, rfl, h1.1, h1.2.1, c.q _ _ ρ1 _ H1 A1 O1 h1.2.2 s1 t1 m1 wlk_rng⟩
  · exact h1.elim
def enD (ds : List D) : List D := (ds.zipIdx).map fun z => .tup [.int (z.2 : Nat), z.1]
theorem wlk_enum {K : PySem.W.Frag} {H : Hp} {A O : AP} {lent : Bool} {a : Addr} {vs : List V} {ds : List D} (h : H a = some (.lst vs)) (r : RpL K H A ds vs) (hO : ∀ b, O b → A b) (hl : lent = true ∨ ¬ A a) : Wlk K H A O lent (Ite K a) (enD ds) := by
  have e : vs.length = (enD ds).length := by unfold enD; rw [List.length_map, List.length_zipIdx, r.len]
  refine ⟨_, _, e ▸ walk_enum, fun H1 A1 O1 t l => ?_, fun i H1 A1 O1 x H2 hi t l y => ?_⟩
  · rcases hl with hl | hl
    · exact SqL.of ((l hl).st a _ h fun _ z => by cases z)
    · exact SqL.of (t.kp.st a _ h (fun _ z => hl (hO a z)) fun _ z => by cases z)
  · obtain ⟨T, u, v, rfl, hT, rfl, eu, ev⟩ := y
    obtain ⟨d, e1, q⟩ := r.get ev
    cases eu
    refine ⟨Sm.new hT, .tup [.int (i : Nat), d], ?_, Rp.tup (SqT.of upd_same) (RpL.cons Rp.int (RpL.cons ((q.tr t hO).sm (Sm.new hT)) RpL.nil))⟩
    unfold enD
    rw [List.getElem?_map, List.getElem?_zipIdx, e1]
    simp
/-- enumerate(a list) -/
def diEnum (te : DE) : DI := fun X ρ Q => te X ρ fun d κ ρ1 => match d with
  | .lst ds => Q (enD ds) (match κ with | .bo => true | _ => false) ρ1
  | _ => False
theorem di_enum {elts : List Expr} {kk : Nat} {tpos : Pos} (hg : Gl X "enumerate") (hm : X.mg "enumerate" = none) (he : PE X e (upE X.K Ts W te)) (hs : starEach [e] X.env = [(false, eval e X.env)] := by rfl) (hs' : starEach [e] X.env = (false, eval e X.env) :: starEach [] X.env := by rfl) :
    PI X (.Tuple elts kk tpos) (.Call (.Name "enumerate" p) [e] [] pos) (upI X.K Ts W (diEnum te)) := by
  refine (pi_enum hg hm (pa_cons he pa_nil hs') hs).imp fun σ H R h => ?_
  obtain ⟨A, O, ρ, Xf, Qd, m, h, c⟩ := h
  refine ⟨A, O, ρ, Xf, _, m, h, fun d κ ρ1 v H1 A1 O1 h1 s1 t1 m1 r1 => ?_, c.x⟩
  split at h1
  · cases κ with
    | bo =>
      obtain ⟨a, vs, rfl, g1, g2⟩ := r1.wk.lst
      exact ⟨a, vs, rfl, SqL.of g1, c.q _ _ ρ1 _ H1 A1 O1 h1 s1 t1 m1 (wlk_enum g1 g2 m1.sub (.inl rfl))⟩
    | sh =>
      have r2 := r1.rp (by simp)
      unfold Rp at r2
      obtain ⟨a, vs, rfl, g1, g0, g2⟩ := r2
      exact ⟨a, vs, rfl, SqL.of g1, c.q _ _ ρ1 _ H1 A1 O1 h1 s1 t1 m1 (wlk_enum g1 g2 m1.sub (.inr g0))⟩
    | fr =>
      have r2 := r1.rp (by simp)
      unfold Rp at r2
      obtain ⟨a, vs, rfl, g1, g0, g2⟩ := r2
      exact ⟨a, vs, rfl, SqL.of g1, c.q _ _ ρ1 _ H1 A1 O1 h1 s1 t1 m1 (wlk_enum g1 g2 m1.sub (.inr g0))⟩
  · exact h1.elim
end
/-! ### targets, for -/
abbrev DG := D → List Sl → (List Sl → Prop) → Prop
def upG (K : PySem.W.Frag) (Ts : AP) (g : DG) : TG := fun v σ H Q => ∃ A O ρ d Qd, Mt K Ts H A O ρ σ ∧ Rp K H A d v ∧ g d ρ Qd ∧ ∀ ρ' σ' A' O', Qd ρ' → Tr A O H A' O' H → Mt K Ts H A' O' ρ' σ' → Q σ' H
def upGs (K : PySem.W.Frag) (Ts : AP) (g : List D → List Sl → (List Sl → Prop) → Prop) : TGs := fun vs σ H Q => ∃ A O ρ ds Qd, Mt K Ts H A O ρ σ ∧ RpL K H A ds vs ∧ g ds ρ Qd ∧ ∀ ρ' σ' A' O', Qd ρ' → Tr A O H A' O' H → Mt K Ts H A' O' ρ' σ' → Q σ' H
theorem _root_.L2.PG.imp {X : Cx} {e : Expr} {t t' : TG} (h : PG X e t) (i : ∀ v σ H Q, t' v σ H Q → t v σ H Q) : PG X e t' := ⟨fun pins s σ H v u Q I r q => h.run pins s σ H v u Q I r (i v σ H Q q)⟩
theorem _root_.L2.PGs.imp {X : Cx} {e : List Expr} {t t' : TGs} (h : PGs X e t) (i : ∀ v σ H Q, t' v σ H Q → t v σ H Q) : PGs X e t' := ⟨fun pins s σ H v u Q I r q => h.run pins s σ H v u Q I r (i v σ H Q q)⟩
def dgName (i : Nat) : DG := fun d ρ Q => Q (ρ.set i (.va d))
def dgNil : List D → List Sl → (List Sl → Prop) → Prop := fun ds ρ Q => match ds with
  | [] => Q ρ
  | _ => False
def dgCons (g : DG) (gs : List D → List Sl → (List Sl → Prop) → Prop) : List D → List Sl → (List Sl → Prop) → Prop := fun ds ρ Q => match ds with
  | d :: r => g d ρ fun ρ1 => gs r ρ1 Q
  | [] => False
def dgTup (n : Nat) (gs : List D → List Sl → (List Sl → Prop) → Prop) : DG := fun d ρ Q => match d with
  | .tup ds => ds.length = n ∧ gs ds ρ Q
  | _ => False
section
variable {X : Cx} {Ts : AP} {W : WX} {pos : Pos}
theorem dg_name {i : Nat} {x : Str} (hN : X.N.Nodup) (hi : X.N[i]? = some x) (hx : Loc X.env.scope x) (hf : X.fn x = true ∨ X.env.scope.names.lookup x = some .local := by first | exact .inl rfl | exact .inr rfl | assumption) : PG X (.Name x pos) (upG X.K Ts (dgName i)) := by
  refine (pg_name hN hi hx hf).imp fun v σ H Q h => ?_
  obtain ⟨A, O, ρ, d, Qd, m, r, h, k⟩ := h
  obtain ⟨m2, t2⟩ := m.setVa (i := i) r
  exact k _ _ _ _ h t2 m2
theorem dgs_nil : PGs X [] (upGs X.K Ts dgNil) := pgs_nil.imp fun v σ H Q h => by
  obtain ⟨A, O, ρ, ds, Qd, m, r, h, k⟩ := h
  unfold dgNil at h
  split at h
  · exact ⟨r.unnil, k ρ σ A O h Tr.refl m⟩
  · exact h.elim
theorem dgs_cons {e : Expr} {es : List Expr} {g : DG} {gs : List D → List Sl → (List Sl → Prop) → Prop} (h1 : PG X e (upG X.K Ts g)) (h2 : PGs X es (upGs X.K Ts gs)) (hs : (assignEach (e :: es) X.env).map (·.2) = assign e X.env :: (assignEach es X.env).map (·.2) := by rfl) :
    PGs X (e :: es) (upGs X.K Ts (dgCons g gs)) := by
  refine (pgs_cons h1 h2 hs).imp fun v σ H Q h => ?_
  obtain ⟨A, O, ρ, ds, Qd, m, r, h, k⟩ := h
  unfold dgCons at h
  split at h
  · obtain ⟨w, t, rfl, r1, r2⟩ := r.uncons
    refine ⟨w, t, rfl, A, O, ρ, _, _, m, r1, h, fun ρ1 σ1 A1 O1 q t1 m1 => ?_⟩
    exact ⟨A1, O1, ρ1, _, _, m1, r2.tr t1 m.sub, q, fun ρ2 σ2 A2 O2 q2 t2 m2 => k ρ2 σ2 A2 O2 q2 (t1.trans t2 m.trk) m2⟩
  · exact h.elim
theorem dg_tup {es : List Expr} {k : Nat} {gs : List D → List Sl → (List Sl → Prop) → Prop} {n : Nat} (hc : X.calm = true) (h : PGs X es (upGs X.K Ts gs)) (hn : (assignEach es X.env).length = n := by rfl) (hst : (assignEach es X.env).findIdx? (·.1) = none := by rfl) :
    PG X (.Tuple es k pos) (upG X.K Ts (dgTup n gs)) := by
  refine (pg_tup hc h hn hst).imp fun v σ H Q h => ?_
  obtain ⟨A, O, ρ, d, Qd, m, r, h, k⟩ := h
  unfold dgTup at h
  split at h
  · unfold Rp at r
    obtain ⟨a, vs, rfl, g1, g2⟩ := r
    exact ⟨a, vs, rfl, g1, by rw [← g2.len]; exact h.1, A, O, ρ, _, Qd, m, g2, h.2, k⟩
  · exact h.elim
/-- (a, b) = e -/
def dAsg (te : DE) (g : DG) : DS := fun X N ρ => te X ρ fun d κ ρ1 => κ ≠ .bo ∧ g d ρ1 N.nx
theorem ds_asg {tg e : Expr} {te : DE} {g : DG} (he : PE X e (upE X.K Ts W te)) (hg : PG X tg (upG X.K Ts g)) (hs : swapsWithSole [tg] e pos.line X.env = pure false := by rfl) (hw : swappedStores [tg] e X.env = pure none := by rfl)
    (h1 : (assignEach [tg] X.env).map (·.2) = [assign tg X.env] := by rfl) : PS X (.Assign [tg] e pos) (upS X.K Ts W (dAsg te g)) := by
  refine (ps_asg he hg hs hw h1).imp fun E σ H h => ?_
  obtain ⟨A, O, ρ, Xf, N, m, h, c⟩ := h
  refine ⟨A, O, ρ, Xf, _, m, h, fun d κ ρ1 v H1 A1 O1 h1 s1 t1 m1 r1 => ?_, fun x ρ' cls od H' A' O' => c.x x ρ' cls od σ H' A' O'⟩
  exact ⟨A1, O1, ρ1, d, _, m1, r1.rp h1.1, h1.2, fun ρ2 σ2 A2 O2 q t2 m2 => c.nx ρ2 σ2 H1 A2 O2 q (t1.trans t2 m.trk) m2⟩
/-- for: I by the turn and the slots -/
def dFor (ti : DI) (g : DG) (tb : DS) : DS := fun X N ρ => ti X ρ fun ds lent ρ1 => lent = false ∧ ∃ I : Nat → List Sl → Prop, I 0 ρ1 ∧
  (∀ k d ρ', ds[k]? = some d → I k ρ' → g d ρ' fun ρ2 => tb X { nx := I (k + 1), ct := I (k + 1), bk := N.nx, rt := N.rt } ρ2) ∧ ∀ ρ', I ds.length ρ' → N.nx ρ'
theorem ds_for {tg iter : Expr} {body : List Stmt} {ti : DI} {g : DG} {tb : DS} (hp : PassesOwn (model X.prog X.w) X.A X.env X.xe) (hc : X.calm = true) (hi : PI X tg iter (upI X.K Ts W ti)) (hg : PG X tg (upG X.K Ts g)) (hb : PSs X body (upS X.K Ts W tb))
    (hs : ∀ x, foldedSetIterable iter X.env x = pure x := by intro _; rfl) : PS X (.For tg iter body [] pos) (upS X.K Ts W (dFor ti g tb)) := by
  refine (ps_for hp hc hi hg hb hs).imp fun E σ H h => ?_
  obtain ⟨A, O, ρ, Xf, N, m, h, c⟩ := h
  refine ⟨A, O, ρ, Xf, _, m, h, fun ds lent ρ1 J H1 A1 O1 h1 s1 t1 m1 w1 => ?_, fun x ρ' cls od H' A' O' => c.x x ρ' cls od σ H' A' O'⟩
  obtain ⟨el, I, i0, step, done⟩ := h1
  subst el
  obtain ⟨G, Y, w, hG, hY⟩ := w1.ex
  have c1 := c.move t1 m
  refine for_it w (fun k σ' H' => ∃ A' O' ρ', Tr A1 O1 H1 A' O' H' ∧ Mt X.K Ts H' A' O' ρ' σ' ∧ I k ρ') ⟨A1, O1, ρ1, Tr.refl, m1, i0⟩ (fun k σ' H' hk p => ?_) (fun k x σ' H' H'' hk p y => ?_) fun σ' H' p => ?_
  · obtain ⟨A', O', ρ', t', m', _⟩ := p
    exact hG H' A' O' t' fun z => by cases z
  · obtain ⟨A', O', ρ', t', m', i'⟩ := p
    obtain ⟨s2, d, ed, rd⟩ := hY k H' A' O' x H'' hk t' (fun z => by cases z) y
    have t2 : Tr A1 O1 H1 A' O' H'' := t'.trans (Tr.of s2) m1.trk
    refine ⟨A', O', ρ', d, _, m'.sm s2, rd, step k d ρ' ed i', fun ρ2 σ2 A2 O2 q t3 m3 => ?_⟩
    have t23 := t2.trans t3 m1.trk
    have c2 := c1.move t23 m1
    refine ⟨A2, O2, ρ2, Xf, _, m3, q, fun ρ4 σ4 H4 A4 O4 q4 t4 m4 => ?_, fun ρ4 σ4 H4 A4 O4 q4 t4 m4 => ?_, fun ρ4 σ4 H4 A4 O4 q4 t4 m4 => ?_, c2.rt, c2.x⟩
    · exact ⟨A4, O4, ρ4, t23.trans t4 m1.trk, m4, q4⟩
    · exact c2.nx ρ4 σ4 H4 A4 O4 q4 t4 m4
    · exact ⟨A4, O4, ρ4, t23.trans t4 m1.trk, m4, q4⟩
  · obtain ⟨A', O', ρ', t', m', i'⟩ := p
    exact c1.nx ρ' σ' H' A' O' (done ρ' i') t' m'
end
end DL

-- part DL5
set_option Elab.async false
set_option linter.all false
set_option maxRecDepth 100000
set_option maxHeartbeats 2000000
/-! comprehensions, all and any; calls of the program's defs, methods, properties; fields -/
namespace DL
open PySem PySem.Spec PyProof.Rows L2 GxR GS GA GD
/-- nothing is let out -/
abbrev W0 : WX := fun _ _ _ _ => False
abbrev X0 : XF := fun _ _ => False
/-- the slots as they were -/
def same (ρ : List Sl) (ρ' : List Sl) : Prop := ρ' = ρ
section
variable {K : PySem.W.Frag} {Ts A O A' O' : AP} {H H' : Hp} {ρ : List Sl} {σ : L2.St}
/-- where the slots are as they were, what is kept apart is so still -/
theorem Mt.stay (m : Mt K Ts H A O ρ σ) (t : Tr A O H A' O' H') (m' : Mt K Ts H' A' O' ρ σ) : ∀ b, A b → A' b := fun b hb => by
  by_cases hO : O b
  · obtain ⟨i, ds, h1, h2⟩ := m.ox b hO
    obtain ⟨a, vs, g1, g2, _⟩ := m'.ow i ds h1
    rw [h2] at g1
    cases g1
    exact m'.sub _ g2
  · exact t.old b hb hO
theorem wipe1 (σ : L2.St) (i : Nat) (x : Option V) : ((wipe σ [i]).set i x) = σ.set i x := by
  show (σ.set i none).set i x = _
  rw [List.set_set]
end
/-! ### [e for x in xs if t] -/
def dLc (ti : DI) (i : Nat) (tt : DT) (te : DE) : DE := fun X ρ Q => ti X ρ fun ds _ ρ1 => ds.length ≤ sizeLine ∧ ∃ f : D → Option D,
  (∀ d ∈ ds, tt X0 (ρ1.set i (.va d)) fun b ρ2 => if b = true then te X0 ρ2 fun z κ ρ3 => κ ≠ .bo ∧ ρ3 = ρ1.set i (.va d) ∧ f d = some z else f d = none) ∧ Q (.lst (ds.filterMap f)) .fr ρ1
def dYes : DT := fun _ ρ Q => Q true ρ
structure Dts (X : Cx) (Ts : AP) (ifs : List Expr) (t : DT) : Prop where
  run : PTs X ifs (upT X.K Ts W0 t)
theorem dts_nil {X : Cx} {Ts : AP} : PTs X [] (upT X.K Ts W0 dYes) := ⟨fun pins s σ H Q I h => pts_nil.run pins s σ H Q I (by
  obtain ⟨A, O, ρ, Xf, Qd, m, h, c⟩ := h
  exact c.q true ρ H A O h Sm.refl Tr.refl m)⟩
theorem dts_one {X : Cx} {Ts : AP} {c : Expr} {t : DT} (h : PT X c (upT X.K Ts W0 t)) : PTs X [c] (upT X.K Ts W0 t) := pts_one h
section
variable {X : Cx} {Ts : AP} {W : WX}
theorem up_lc {ti : DI} {i : Nat} {tt : DT} {te : DE} {σ : L2.St} {H : Hp} {Q : VK} (h : upE X.K Ts W (dLc ti i tt te) σ H Q) : tLc (upI X.K Ts W ti) (gName i) (upT X.K Ts W0 tt) (upE X.K Ts W0 te) [i] σ H Q := by
  obtain ⟨A, O, ρ, Xf, Qd, m, h, c⟩ := h
  refine ⟨A, O, ρ, Xf, _, m, h, fun ds lent ρ1 J H1 A1 O1 h1 s1 t1 m1 w1 => ?_, c.x⟩
  obtain ⟨hz, f, hf, hq⟩ := h1
  have c1 := c.move s1 t1 m
  obtain ⟨G, Y, w, hG, hY⟩ := w1.ex
  intro Dd hD
  have mD : ∀ {H' : Hp}, Sm H1 H' → H' Dd ≠ none → Mt X.K Ts H' (fun b => A1 b ∨ b = Dd) O1 ρ1 σ := fun s n => m1.fresh hD s n
  have tD : ∀ {H' : Hp}, Sm H1 H' → Tr A1 O1 H1 (fun b => A1 b ∨ b = Dd) O1 H' := fun s => ⟨Kp.of s, fun b z => z.imp id fun q => by rw [q]; exact hD, fun b z _ => .inl z, fun b z => .inl z⟩
  refine lc_it w (Qd := fun H => Q (.ref Dd) H) (fun k H' => Sm H1 H' ∧ ∃ vs, H' Dd = some (.lst vs) ∧ RpL X.K H' (fun b => A1 b ∨ b = Dd) ((ds.take k).filterMap f) vs) ⟨Sm.new hD, [], upd_same, RpL.nil⟩ (fun k H' _ p => hG H' A1 O1 (Tr.of p.1) fun _ => p.1) (fun k x H' H'' hk p y => ?_) fun H' p => ?_
  · obtain ⟨p1, vs, p2, p3⟩ := p
    obtain ⟨s2, d, ed, rd⟩ := hY k H' (fun b => A1 b ∨ b = Dd) O1 x H'' hk (tD p1) (fun _ => p1) y
    have s12 := p1.trans s2
    have n2 : H'' Dd = some (.lst vs) := s2.st _ _ p2 fun _ z => by cases z
    have mm := mD s12 (by rw [n2]; exact fun z => by cases z)
    refine ⟨wipe_set σ i (some x), ?_⟩
    rw [wipe1]
    obtain ⟨m2, t2⟩ := mm.setVa (i := i) rd
    refine ⟨_, _, _, _, _, m2, hf d (List.mem_of_getElem? ed), ⟨fun b ρ2 H3 A3 O3 h3 s3 t3 m3 => ?_, fun x ρ' cls od H' A' O' z => z.elim⟩⟩
    have n3 : H3 Dd = some (.lst vs) := s3.st _ _ n2 fun _ z => by cases z
    have tk : (ds.take (k + 1)).filterMap f = (ds.take k).filterMap f ++ (match f d with | some z => [z] | none => []) := by
      rw [List.take_add_one, ed, List.filterMap_append]
      show _ ++ List.filterMap f [d] = _
      cases hfd : f d with
      | some z => rw [List.filterMap_cons_some hfd]; rfl
      | none => rw [List.filterMap_cons_none hfd]; rfl
    cases b with
    | false =>
      have h3 : f d = none := h3
      refine ifF rfl ⟨s12.trans s3, vs, n3, ?_⟩
      rw [tk, h3, List.append_nil]
      exact (p3.sm s2).sm s3
    | true =>
      refine ifT rfl ⟨A3, O3, ρ2, _, _, m3, h3, ⟨fun z κ ρ4 v H4 A4 O4 h4 s4 t4 m4 r4 => ?_, fun x ρ' cls od H' A' O' z => z.elim⟩⟩
      obtain ⟨nb, e4, ef⟩ := h4
      have n4 : H4 Dd = some (.lst vs) := s4.st _ _ n3 fun _ z => by cases z
      subst e4
      have st := m2.stay (t3.trans t4 m2.trk) m4
      have rv : Rp X.K H4 (fun b => A1 b ∨ b = Dd) z v := (r4.rp nb).less st
      have pv : RpL X.K H4 (fun b => A1 b ∨ b = Dd) ((ds.take k).filterMap f) vs := ((p3.sm s2).sm s3).sm s4
      have hm : ∀ u, H4 Dd = some u → isM u := fun u e => by rw [n4] at e; cases e; trivial
      refine ⟨vs, n4, ?_, Sm.own ((s12.trans s3).trans s4) hD (fun P t => tabG_ne t n4 fun _ z => by cases z), vs ++ [v], upd_same, ?_⟩
      · rw [← p3.len]
        have h1 := List.length_filterMap_le f (ds.take k)
        rw [List.length_take] at h1
        omega
      · rw [tk, ef]
        exact (pv.upd (.inr rfl) hm).app (RpL.cons (rv.upd (.inr rfl) hm) RpL.nil)
  · obtain ⟨p1, vs, p2, p3⟩ := p
    rw [List.take_length] at p3
    have mm := mD p1 (by rw [p2]; exact fun z => by cases z)
    refine c1.q _ .fr ρ1 _ H' A1 O1 hq p1 (Tr.of p1) (m1.sm p1) ⟨_, Dd, vs, rfl, rfl, hD, p2, fun z => m1.trk Dd z hD, p3, mm⟩
theorem de_lc {elt tg iter : Expr} {ifs : List Expr} {scope : Scope} {own : List (Str × Nat)} {pos : Pos} {ti : DI} {i : Nat} {tt : DT} {te : DE} (hc : X.calm = true) (hN : X.N.Nodup) (hi : PI X tg iter (upI X.K Ts W ti)) (ok : BlkOk X.N X.env.scope scope own) (ho : own.map (·.2) = [i])
    (hg : ∀ (s : Shared) (H : Hp) (C : Addr) (cl : List (Str × Addr)) (fp : List Addr), PG (X.blk s H scope (compEnvC scope cl C X.env) fp) tg (gName i)) (ht : ∀ (s : Shared) (H : Hp) (C : Addr) (cl : List (Str × Addr)) (fp : List Addr), PTs (X.blk s H scope (compEnvC scope cl C X.env) fp) ifs (upT X.K Ts W0 tt))
    (he : ∀ (s : Shared) (H : Hp) (C : Addr) (cl : List (Str × Addr)) (fp : List Addr), PE (X.blk s H scope (compEnvC scope cl C X.env) fp) elt (upE X.K Ts W0 te)) (hs : ∀ x, foldedSetIterable iter X.env x = pure x := by intro _; rfl) :
    PE X (.ListComp elt [⟨tg, iter, ifs, 0⟩] scope pos) (upE X.K Ts W (dLc ti i tt te)) :=
  (pe_lc hc hN hi ok hg ht he hs).imp fun σ H Q h => by rw [ho]; exact up_lc h
/-- name = [..] -/
theorem ds_setLc {i j : Nat} {y : Str} {py : Pos} {elt tg iter : Expr} {ifs : List Expr} {scope : Scope} {own : List (Str × Nat)} {pos spos : Pos} {ti : DI} {tt : DT} {te : DE} (hc : X.calm = true) (hN : X.N.Nodup) (hy : X.N[j]? = some y) (hyl : X.env.scope.names.lookup y = some .local)
    (hsw : swapsWith (.ListComp elt [⟨tg, iter, ifs, 0⟩] scope pos) (some (.Name y py)) spos.line X.env = pure true) (hi : PI X tg iter (upI X.K Ts W ti)) (ok : BlkOk X.N X.env.scope scope own) (ho : own.map (·.2) = [i])
    (hg : ∀ (s : Shared) (H : Hp) (C : Addr) (cl : List (Str × Addr)) (fp : List Addr), PG (X.blk s H scope (compEnvC scope cl C X.env) fp) tg (gName i)) (ht : ∀ (s : Shared) (H : Hp) (C : Addr) (cl : List (Str × Addr)) (fp : List Addr), PTs (X.blk s H scope (compEnvC scope cl C X.env) fp) ifs (upT X.K Ts W0 tt))
    (he : ∀ (s : Shared) (H : Hp) (C : Addr) (cl : List (Str × Addr)) (fp : List Addr), PE (X.blk s H scope (compEnvC scope cl C X.env) fp) elt (upE X.K Ts W0 te)) (hs : ∀ x, foldedSetIterable iter X.env x = pure x := by intro _; rfl) :
    PS X (.Assign [.Name y py] (.ListComp elt [⟨tg, iter, ifs, 0⟩] scope pos) spos) (upS X.K Ts W (dSet j (dLc ti i tt te))) := by
  refine (ps_setLc hc hN hy hyl hsw hi ok hg ht he hs).imp fun E σ H h => ?_
  obtain ⟨A, O, ρ, Xf, N, m, h, c⟩ := h
  show tLc _ _ _ _ (own.map (·.2)) σ H _
  rw [ho]
  refine up_lc ⟨A, O, ρ, Xf, _, m, h, fun d κ ρ1 v H1 A1 O1 h1 s1 t1 m1 r1 => ?_, fun x ρ' cls od H' A' O' => c.x x ρ' cls od σ H' A' O'⟩
  obtain ⟨A2, O2, t2, m2⟩ := stored (i := j) t1 m1 s1 m.trk m.sub r1 h1.1 h1.2.1
  exact c.nx _ _ _ _ _ h1.2.2 t2 m2
/-! ### all(e for x in xs), any -/
def dGen (b : Bool) (ti : DI) (i : Nat) (te : DE) : DE := fun X ρ Q => ti X ρ fun ds _ ρ1 => ∃ f : D → Bool,
  (∀ d ∈ ds, te X0 (ρ1.set i (.va d)) fun z _ ρ3 => ρ3 = ρ1.set i (.va d) ∧ z = .bl (f d)) ∧ Q (.bl (if b then ds.any f else ds.all f)) .sh ρ1
theorem up_gen {b : Bool} {P : Addr} {ti : DI} {i : Nat} {te : DE} {σ : L2.St} {H : Hp} {Q : VK} (hP : Ts P) (h : upE X.K Ts W (dGen b ti i te) σ H Q) : tGen b P (upI X.K Ts W ti) (gName i) (upE X.K Ts W0 te) [i] σ H Q := by
  unfold tGen
  obtain ⟨A, O, ρ, Xf, Qd, m, h, c⟩ := h
  refine ⟨A, O, ρ, Xf, _, m, h, fun ds lent ρ1 J H1 A1 O1 h1 s1 t1 m1 w1 => ?_, c.x⟩
  obtain ⟨f, hf, hq⟩ := h1
  have c1 := c.move s1 t1 m
  obtain ⟨G, Y, w, hG, hY⟩ := w1.ex
  have hT := m1.tab P hP
  refine gen_it w hT (fun k H' => Sm H1 H' ∧ ∀ x ∈ ds.take k, f x ≠ b) (fun H2 t => ⟨Sm.tab hT t, by simp⟩) (fun k H' _ p => hG H' A1 O1 (Tr.of p.1) fun _ => p.1) (fun k x H' H'' hk p y => ?_) fun H' p => ?_
  · obtain ⟨s2, d, ed, rd⟩ := hY k H' A1 O1 x H'' hk (Tr.of p.1) (fun _ => p.1) y
    have s12 := p.1.trans s2
    have hm : d ∈ ds := List.mem_of_getElem? ed
    refine ⟨wipe_set σ i (some x), ?_⟩
    rw [wipe1]
    obtain ⟨m2, t2⟩ := (m1.sm s12).setVa (i := i) rd
    refine ⟨_, _, _, _, _, m2, hf d hm, ⟨fun z κ ρ4 v H4 A4 O4 h4 s4 t4 m4 r4 => ?_, fun x ρ' cls od H' A' O' z => z.elim⟩⟩
    obtain ⟨e4, rfl⟩ := h4
    refine ⟨f d, r4.bl, fun e => ?_, fun e => ⟨s12.trans s4, fun y hy => ?_⟩⟩
    · have e2 : (if b = true then ds.any f else ds.all f) = b := by
        cases b with
        | true => rw [if_pos rfl]; exact List.any_eq_true.mpr ⟨d, hm, e⟩
        | false =>
          rw [if_neg Bool.false_ne_true, List.all_eq_false]
          exact ⟨d, hm, by simp [e]⟩
      have hq2 : Qd (.bl b) .sh ρ1 := by rw [e2] at hq; exact hq
      exact c1.sh m1 (s12.trans s4) hq2 Rp.bl
    · rw [List.take_add_one, ed] at hy
      rcases List.mem_append.mp hy with hy | hy
      · exact p.2 y hy
      · have : y = d := by simpa using hy
        rw [this]; exact e
  · obtain ⟨p1, p2⟩ := p
    rw [List.take_length] at p2
    have e2 : (if b = true then ds.any f else ds.all f) = !b := by
      cases b with
      | true =>
        rw [if_pos rfl]
        show ds.any f = false
        rw [List.any_eq_false]
        exact fun x hx => by simpa using p2 x hx
      | false =>
        rw [if_neg Bool.false_ne_true]
        show ds.all f = true
        rw [List.all_eq_true]
        exact fun x hx => by simpa using p2 x hx
    have hq2 : Qd (.bl (!b)) .sh ρ1 := by rw [e2] at hq; exact hq
    exact c1.sh m1 p1 hq2 Rp.bl
theorem de_all {c P : Addr} {elt tg iter : Expr} {p pos gpos : Pos} {scope : Scope} {own : List (Str × Nat)} {ti : DI} {i : Nat} {te : DE} {k : Nat} (hr : Room k X.A) (hc : X.calm = true) (hN : X.N.Nodup) (hm : X.mg "all" = none) (TB : TabB X.base X.mg c P) (hP : Ts P) (hcode : X.env.code = .ref c) (ok : BlkOk X.N X.env.scope scope own) (ho : own.map (·.2) = [i]) (hi : PI X tg iter (upI X.K Ts W ti))
    (hg : ∀ (s : Shared) (H : Hp) (cl : List (Str × Addr)) (C : Addr) (code : Value) (fp : List Addr), PG (gcx X s H scope cl C code fp) tg (gName i))
    (he : ∀ (s : Shared) (H : Hp) (cl : List (Str × Addr)) (C : Addr) (code : Value) (fp : List Addr), PE (gcx X s H scope cl C code fp) elt (upE X.K Ts W0 te))
    (hncell : ∀ y ∈ scope.names, y.2 ≠ .cell := by decide +kernel) (h0 : scope.names.lookup (".0" : Str) = some .local := by decide +kernel) (hco : scope.isCoroutine = false := by rfl) (hgl : Gl X "all" := by rfl) (hs : ∀ v, genFold iter X.env v = pure v := by intro _; rfl)
    (hst : starEach [.GeneratorExp elt [⟨tg, iter, [], 0⟩] scope gpos] X.env = (false, eval (.GeneratorExp elt [⟨tg, iter, [], 0⟩] scope gpos) X.env) :: starEach [] X.env := by rfl) :
    PE X (.Call (.Name "all" p) [.GeneratorExp elt [⟨tg, iter, [], 0⟩] scope gpos] [] pos) (upE X.K Ts W (dGen false ti i te)) :=
  (pe_all hr hc hN hm TB hcode ok hi hg he hncell h0 hco hgl hs hst).imp fun σ H Q h => by rw [ho]; exact up_gen hP h
theorem de_any {c P : Addr} {elt tg iter : Expr} {p pos gpos : Pos} {scope : Scope} {own : List (Str × Nat)} {ti : DI} {i : Nat} {te : DE} {k : Nat} (hr : Room k X.A) (hc : X.calm = true) (hN : X.N.Nodup) (hm : X.mg "any" = none) (TB : TabB X.base X.mg c P) (hP : Ts P) (hcode : X.env.code = .ref c) (ok : BlkOk X.N X.env.scope scope own) (ho : own.map (·.2) = [i]) (hi : PI X tg iter (upI X.K Ts W ti))
    (hg : ∀ (s : Shared) (H : Hp) (cl : List (Str × Addr)) (C : Addr) (code : Value) (fp : List Addr), PG (gcx X s H scope cl C code fp) tg (gName i))
    (he : ∀ (s : Shared) (H : Hp) (cl : List (Str × Addr)) (C : Addr) (code : Value) (fp : List Addr), PE (gcx X s H scope cl C code fp) elt (upE X.K Ts W0 te))
    (hncell : ∀ y ∈ scope.names, y.2 ≠ .cell := by decide +kernel) (h0 : scope.names.lookup (".0" : Str) = some .local := by decide +kernel) (hco : scope.isCoroutine = false := by rfl) (hgl : Gl X "any" := by rfl) (hs : ∀ v, genFold iter X.env v = pure v := by intro _; rfl)
    (hst : starEach [.GeneratorExp elt [⟨tg, iter, [], 0⟩] scope gpos] X.env = (false, eval (.GeneratorExp elt [⟨tg, iter, [], 0⟩] scope gpos) X.env) :: starEach [] X.env := by rfl) :
    PE X (.Call (.Name "any" p) [.GeneratorExp elt [⟨tg, iter, [], 0⟩] scope gpos] [] pos) (upE X.K Ts W (dGen true ti i te)) :=
  (pe_any hr hc hN hm TB hcode ok hi hg he hncell h0 hco hgl hs hst).imp fun σ H Q h => by rw [ho]; exact up_gen hP h
end
/-! ### the program's defs -/
abbrev Ph := List D → (D → Prop) → (Xc → Prop) → Prop
/-- the promise of a def: φ by the arguments -/
def spD (K : PySem.W.Frag) (Ts : AP) (n : Nat) (φ : Ph) : Sp := fun vs H Q E => vs.length = n ∧ ∃ A ds Qd Xd, (∀ P, Ts P → TabG H P) ∧ (∀ b, A b → H b ≠ none) ∧ RpL K H A ds vs ∧ φ ds Qd Xd ∧
  (∀ d v H' A', Qd d → Sm H H' → (∀ b, A b → A' b) → Rp K H' A' d v → Q v H') ∧ ∀ x cls od H' A', Xd x → Sm H H' → (∀ b, A b → A' b) → XR K H' A' x cls od → E cls od H'
/-- what is let out comes where the wish is -/
def Ps (X : Cx) (W : WX) : Prop := ∀ σ, PassesAt (L2.CX X.prog X.w) X σ (WE W σ)
theorem Ps.no {X : Cx} : Ps X W0 := fun σ pins H s e s' I h => by
  obtain ⟨a, B, H', cls, d, h1, h2, h3, h4, h5, h6, h7, z⟩ := h
  exact z.elim
theorem Ps.of {X : Cx} {W : WX} (tk : Takes X W) : Ps X W := fun σ => passAt tk σ
theorem RpL.less' {K : PySem.W.Frag} {A A' : AP} {H : Hp} {d : D} {v : V} (h : Rp K H A' d v) (n : ∀ b, A b → A' b) : Rp K H A d v := h.less n
theorem XR.less {K : PySem.W.Frag} {A A' : AP} {H : Hp} {x : Xc} {cls : Value} {od : Option Addr} (h : XR K H A' x cls od) (n : ∀ b, A b → A' b) : XR K H A x cls od := by
  unfold XR at h ⊢
  refine ⟨h.1, ?_⟩
  have h2 := h.2
  split
  · rename_i e; rw [e] at h2; exact h2
  · rename_i f d e
    rw [e] at h2
    obtain ⟨a, v, h3, h4, h5⟩ := h2
    exact ⟨a, v, h3, h4, h5.less n⟩
section
variable {X : Cx} {Ts : AP} {W : WX} {k n : Nat} {f : Addr} {fd : FuncData} {ps : List Str} {φ : Ph} {x : Str} {p pos apos : Pos} {e o : Expr} {es : List Expr} {te : DE} {ta : DA}
def dCall (n : Nat) (φ : Ph) (ta : DA) : DE := fun X ρ Q => ta X ρ fun ds ρ1 => ds.length = n ∧ φ ds (fun d => Q d .sh ρ1) fun x => X x ρ1
theorem up_call {σ : L2.St} {H : Hp} {A O : AP} {ρ : List Sl} {Xf : XF} {Qd : D → Kd → List Sl → Prop} {Q : VK} {ds : List D} {vs : List V} (hn : vs.length = n) (m : Mt X.K Ts H A O ρ σ) (r : RpL X.K H A ds vs) (h : φ ds (fun d => Qd d .sh ρ) fun x => Xf x ρ) (c : Cn X.K Ts W σ H A O Xf Qd Q) : spD X.K Ts n φ vs H Q (WE W σ) :=
  ⟨hn, A, ds, _, _, m.tab, m.trk, r, h, fun d v H' A' q s n r => c.sh m s q (r.less n), fun x cls od H' A' q s n r => c.x x ρ cls od H' A O q (Tr.of s) (m.sm s) (r.less n)⟩
theorem de_call (F : FnOk X.prog X.w X.K X.mg X.base (L2.CX X.prog X.w) k f fd ps (spD X.K Ts n φ)) (hr : Room k X.A) (hg : Gl X x) (hm : X.mg x = some (.ref f)) (hk : PySem.W.keepIn X.K (.ref f) = true) (hb : Binds X.K fd ps []) (hx : Ps X W)
    (ha : PA X (e :: es) (upA X.K Ts W ta)) (hdb : (x == ("__debug__" : Str)) = false := by decide) (he : starEach (e :: es) X.env = (false, eval e X.env) :: starEach es X.env := by rfl) (hpl : (backTo pos (starEach es X.env)).any (·.1) = false := by rfl) :
    PE X (.Call (.Name x p) (e :: es) [] pos) (upE X.K Ts W (dCall n φ ta)) := by
  refine (pe_callS F hr hg hm hk hb hx ha hdb he hpl).imp fun σ H Q h => ?_
  obtain ⟨A, O, ρ, Xf, Qd, m, h, c⟩ := h
  refine ⟨A, O, ρ, Xf, _, m, h, fun ds ρ1 vs H1 A1 O1 h1 s1 t1 m1 r1 => ?_, c.x⟩
  exact up_call (by rw [← r1.len]; exact h1.1) m1 r1 h1.2 (c.move s1 t1 m)
/-- a def of the program keeps its promise -/
theorem fn_data {P : Program} {w : World} {K : PySem.W.Frag} {mg : Str → Option Value} {base : Heap} {xn qual : Str} {params : Arguments} {body : List Stmt} {scope : Scope} {dvs : List V} {kws : List (Str × V)} {c : Addr} {N : List Str} (F : FunD K xn qual params body scope dvs kws f fd) (hc : fd.code = .ref c) (S : FnScope N ps scope) (hn : ps.length = n)
    (hbody : ∀ (A : Around) (outer : List Env) (s : Shared) (H : Hp) (E : XK), Room k (A.deeper (envOfC qual scope s.heap.objs.size f (.ref c))) → ∃ t : DS, PSs (cxOf (L2.CX P w) P w K mg base N qual scope f (.ref c) A outer s H E) body (upS K Ts (fun cls d _ H => E cls d H) t) ∧
      ∀ ds Qd Xd, φ ds Qd Xd → ds.length = n → t (fun x _ => Xd x) ⟨fun _ => Qd .non, Qd, fun _ => False, fun _ => False⟩ (ds.map Sl.va ++ List.replicate (N.length - n) .no)) : FnOk P w K mg base (L2.CX P w) (k + 1) f fd ps (spD K Ts n φ) := by
  refine okC F hc S (fun vs H Q E h => by rw [hn]; exact h.1) fun A outer s H vs Q E hr h => ?_
  obtain ⟨t, hp, ht⟩ := hbody A outer s H E hr
  refine ⟨_, hp, ?_⟩
  obtain ⟨hl, A0, ds, Qd, Xd, tb, trk, r, h, kq, kx⟩ := h
  have dl : ds.length = n := by rw [r.len]; exact hl
  have sl : ∀ {i : Nat} {x : Sl}, (ds.map Sl.va ++ List.replicate (N.length - n) .no)[i]? = some x → x ≠ .no → ∃ d, ds[i]? = some d ∧ x = .va d := fun {i x} e nx => by
    by_cases hi : i < ds.length
    · rw [List.getElem?_append_left (by rw [List.length_map]; exact hi), List.getElem?_map] at e
      cases q : ds[i]? with
      | none => rw [q] at e; cases e
      | some d => rw [q] at e; cases e; exact ⟨d, rfl, rfl⟩
    · rw [List.getElem?_append_right (by rw [List.length_map]; omega)] at e
      exact absurd (List.eq_of_mem_replicate (List.mem_of_getElem? e)) nx
  have m : Mt K Ts H A0 (fun _ => False) (ds.map Sl.va ++ List.replicate (N.length - n) .no) (L2.start N vs) := by
    refine ⟨tb, fun b z => z.elim, trk, ?_, fun i d e => ?_, fun i es e => ?_, fun i j es fs a e => ?_, fun b z => z.elim⟩
    · unfold L2.start
      rw [List.length_append, List.length_append, List.length_map, List.length_map, List.length_replicate, List.length_replicate, r.len, hl]
    · obtain ⟨z, e1, e2⟩ := sl e (by simp)
      cases e2
      obtain ⟨v, g1, g2⟩ := r.get' e1
      refine ⟨v, ?_, g2⟩
      unfold L2.start
      rw [List.getElem?_append_left (by rw [List.length_map]; exact (List.getElem?_eq_some_iff.mp g1).1), List.getElem?_map, g1]
      rfl
    · obtain ⟨z, e1, e2⟩ := sl e (by simp)
      cases e2
    · obtain ⟨z, e1, e2⟩ := sl e (by simp)
      cases e2
  have old : ∀ {A' O' : AP} {H' : Hp}, Tr A0 (fun _ => False) H A' O' H' → ∀ b, A0 b → A' b := fun t b z => t.old b z fun q => q
  refine ⟨A0, _, _, _, _, m, ht ds Qd Xd h dl, ⟨fun ρ' σ' H' A' O' q t m' => ?_, fun _ _ _ _ _ q => q.elim, fun _ _ _ _ _ q => q.elim, fun d v H' A' O' q t r' => ?_, fun x ρ' cls od σ' H' A' O' q t m' r' => ?_⟩⟩
  · exact kq .non .non H' A' q t.kp.sm (old t) (by unfold Rp; rfl)
  · exact kq d v H' A' q t.kp.sm (old t) r'
  · exact kx x cls od H' A' q t.kp.sm (old t) r'
/-! ### methods, properties, fields -/
theorem pe_methS {pl : Sem Bool} {C g : Addr} {m : Str} {sp : Sp} {E : L2.St → XK} {CX : CXT} {to : TE} {t : TA} (he : PE X o to) (c : Cls X.K C) (hm : Meth X.K C m g) (F : FnOk X.prog X.w X.K X.mg X.base CX k g fd ps sp) (hr : Room k X.A) (hb : Binds X.K fd ps []) (hx : ∀ σ, PassesAt CX X σ (E σ)) (ha : PA X (e :: es) t)
    (hst : starEach (e :: es) X.env = (false, eval e X.env) :: starEach es X.env := by rfl) (hpl : (backTo pos (starEach es X.env)).any (·.1) = false := by rfl)
    (ht : eval (.Call (.Attribute o m apos) (e :: es) [] pos) X.env = (do
      let ov ← eval o X.env
      standAt apos.atName
      let (f, first) ← holding [ov] (getMethod ov m pl)
      callWith pos f first (backTo pos (starEach (e :: es) X.env)) (backToKw pos (keywordEach [] X.env))) := by rfl) :
    PE X (.Call (.Attribute o m apos) (e :: es) [] pos) (fun σ H Q => to σ H fun x H1 => ∃ a dx fs, x = .ref a ∧ H1 a = some (.ins C dx fs) ∧ fs.lookup m = none ∧ t σ H1 fun vs H2 => sp (x :: vs) H2 Q (E σ)) := by
  refine ⟨fun pins s σ H Q I h => ?_⟩
  refine PySem.W.methodCall_KW (pl := pl) (thn (he.run pins s σ H _ I h) fun u s1 ⟨x, H1, I1, rx, a, dx, fs, ex, ea, l, q⟩ => ?_) ht
  subst ex
  obtain rfl : u = Value.ref a := rx
  refine getmeth_ok I1 ea c hm l ?_
  refine PySem.W.callWith_K (first := [.ref a]) (h₀ := X.base) I.ok.mod.kin hm.kp (thn (ha.run pos pins s1 σ H1 _ I1 q) fun us s2 ⟨vs, H2, I2, r, q2⟩ => ⟨I2.kIn, ?_⟩) hst hpl
  exact run_fnS (us := .ref a :: us) (vs := .ref a :: vs) F hr hb (hx σ) I2 (.cons rfl r) q2
/-- o.m(e, ..): o an instance that stands, of the class C -/
def dMeth (C m : Str) (n : Nat) (φ : Ph) (to : DE) (ta : DA) : DE := fun X ρ Q => to X ρ fun d κ ρ1 => κ = .sh ∧ match d with
  | .ins C' ns xs => C' = C ∧ m ∉ ns ∧ ta X ρ1 fun ds ρ2 => ds.length = n ∧ φ (.ins C' ns xs :: ds) (fun z => Q z .sh ρ2) fun x => X x ρ2
  | _ => False
theorem lookup_zip {ns : List Str} {m : Str} : ∀ {ns : List Str} {vs : List V}, m ∉ ns → (ns.zip vs).lookup m = none
  | [], vs, _ => by rw [List.zip_nil_left]; rfl
  | n :: r, [], _ => by rw [List.zip_nil_right]; rfl
  | n :: r, v :: t, h => by
    rw [List.zip_cons_cons, List.lookup_cons]
    have h1 : (m == n) = false := by
      rw [beq_eq_false_iff_ne]
      exact fun z => h (by rw [z]; exact List.mem_cons_self)
    rw [h1]
    exact lookup_zip (ns := ns) fun z => h (List.mem_cons_of_mem _ z)
theorem de_meth {pl : Sem Bool} {C m : Str} {g : Addr} {to : DE} (he : PE X o (upE X.K Ts W to)) (c : Cls X.K (He.ga X.K C)) (hm : Meth X.K (He.ga X.K C) m g) (F : FnOk X.prog X.w X.K X.mg X.base (L2.CX X.prog X.w) k g fd ps (spD X.K Ts (n + 1) φ)) (hr : Room k X.A) (hb : Binds X.K fd ps []) (hx : Ps X W) (ha : PA X (e :: es) (upA X.K Ts W ta))
    (hst : starEach (e :: es) X.env = (false, eval e X.env) :: starEach es X.env := by rfl) (hpl : (backTo pos (starEach es X.env)).any (·.1) = false := by rfl)
    (ht : eval (.Call (.Attribute o m apos) (e :: es) [] pos) X.env = (do
      let ov ← eval o X.env
      standAt apos.atName
      let (f, first) ← holding [ov] (getMethod ov m pl)
      callWith pos f first (backTo pos (starEach (e :: es) X.env)) (backToKw pos (keywordEach [] X.env))) := by rfl) :
    PE X (.Call (.Attribute o m apos) (e :: es) [] pos) (upE X.K Ts W (dMeth C m n φ to ta)) := by
  refine (pe_methS (pl := pl) he c hm F hr hb hx ha hst hpl ht).imp fun σ H Q h => ?_
  obtain ⟨A, O, ρ, Xf, Qd, mm, h, cn⟩ := h
  refine ⟨A, O, ρ, Xf, _, mm, h, fun d κ ρ1 v H1 A1 O1 h1 s1 t1 m1 r1 => ?_, cn.x⟩
  obtain ⟨ek, h1⟩ := h1
  subst ek
  split at h1
  · obtain ⟨ec, nm, h1⟩ := h1
    subst ec
    have r0 : Rp X.K H1 A1 _ v := r1
    have r2 : Rp X.K H1 A1 _ v := r0
    unfold Rp at r2
    obtain ⟨a, dx, vs, rfl, g1, _, gl, _⟩ := r2
    refine ⟨a, dx, _, rfl, g1, lookup_zip (ns := []) nm, ?_⟩
    have c1 := cn.move s1 t1 mm
    refine ⟨A1, O1, ρ1, Xf, _, m1, h1, fun ds ρ2 ws H2 A2 O2 h2 s2 t2 m2 r3 => ?_, c1.x⟩
    exact up_call (by rw [List.length_cons, ← r3.len, h2.1]) m2 (RpL.cons (r0.tr t2 m1.sub) r3) h2.2 (c1.move s2 t2 m1)
  · exact h1.elim
/-- o.f, a field of an instance that stands -/
def dFld (C f : Str) (to : DE) : DE := fun X ρ Q => to X ρ fun d κ ρ1 => κ = .sh ∧ match d with
  | .ins C' ns xs => C' = C ∧ ns.length = xs.length ∧ oK ((ns.zip xs).lookup f) fun z => Q z .sh ρ1
  | _ => False
theorem lookup_get {K : PySem.W.Frag} {H : Hp} {A : AP} {f : Str} {z : D} : ∀ {ns : List Str} {xs : List D} {vs : List V}, RpL K H A xs vs → (ns.zip xs).lookup f = some z → ∃ v, (ns.zip vs).lookup f = some v ∧ Rp K H A z v
  | [], _, _, _, h => by rw [List.zip_nil_left] at h; cases h
  | n :: r, [], vs, _, h => by rw [List.zip_nil_right] at h; cases h
  | n :: r, x :: t, vs, q, h => by
    obtain ⟨v, ws, rfl, h1, h2⟩ := q.uncons
    rw [List.zip_cons_cons, List.lookup_cons] at h ⊢
    cases e : f == n with
    | true => rw [e] at h; cases h; exact ⟨v, rfl, h1⟩
    | false => rw [e] at h; exact lookup_get h2 h
theorem de_fld {C f' : Str} {to : DE} (he : PE X o (upE X.K Ts W to)) (c : Cls X.K (He.ga X.K C)) (na : NoAttr X.K (He.ga X.K C) f') (hb : attributeBase o f' X.env (eval o X.env) = eval o X.env := by rfl) : PE X (.Attribute o f' pos) (upE X.K Ts W (dFld C f' to)) := by
  refine (pe_fld he hb).imp fun σ H Q h => ?_
  obtain ⟨A, O, ρ, Xf, Qd, mm, h, cn⟩ := h
  refine ⟨A, O, ρ, Xf, _, mm, h, fun d κ ρ1 v H1 A1 O1 h1 s1 t1 m1 r1 => ?_, cn.x⟩
  obtain ⟨ek, h1⟩ := h1
  subst ek
  split at h1
  · obtain ⟨ec, nm, h1⟩ := h1
    subst ec
    obtain ⟨z, ez, h1⟩ := h1.get
    have r2 : Rp X.K H1 A1 _ v := r1
    unfold Rp at r2
    obtain ⟨a, dx, vs, rfl, g1, _, gl, g2⟩ := r2
    obtain ⟨u, e1, e2⟩ := lookup_get g2 ez
    exact ⟨a, _, dx, _, u, rfl, g1, c, na, e1, (cn.move s1 t1 mm).flat m1 h1 e2⟩
  · exact h1.elim
end
end DL

-- part DL6
set_option Elab.async false
set_option linter.all false
set_option maxRecDepth 100000
set_option maxHeartbeats 2000000
/-! short words; while; how a reading is reckoned -/
namespace DL
open PySem PySem.Spec PyProof.Rows L2 GxR GS GA GD
section
variable {X : Cx} {Ts : AP} {W : WX}
theorem vV (i : Nat) {x : Str} {pos : Pos} (hN : X.N[i]? = some x := by rfl) (hv : Vis X.env.scope x := by first | exact Or.inl rfl | exact Or.inr (Or.inl rfl) | exact Or.inr (Or.inr rfl)) (hd : (x == ("__debug__" : Str)) = false := by decide) (hcd : (x == ("__classdict__" : Str)) = false := by decide) :
    PE X (.Name x pos) (upE X.K Ts W (dVar i)) := de_var hN hv hd hcd
theorem vB (i : Nat) {x : Str} {pos : Pos} (hN : X.N[i]? = some x := by rfl) (hv : Vis X.env.scope x := by first | exact Or.inl rfl | exact Or.inr (Or.inl rfl) | exact Or.inr (Or.inr rfl)) (hd : (x == ("__debug__" : Str)) = false := by decide) (hcd : (x == ("__classdict__" : Str)) = false := by decide) :
    PE X (.Name x pos) (upE X.K Ts W (dVarB i)) := de_varB hN hv hd hcd
/-! ### while: I by the slots, μ what falls -/
def dWhile (c : DT) (tb : DS) : DS := fun X N ρ => ∃ (I : Nat → List Sl → Prop), (∃ m, I m ρ) ∧ ∀ m ρ1, I m ρ1 → c X ρ1 fun b ρ2 => if b = true then
    tb X { nx := fun ρ3 => ∃ m', m' < m ∧ I m' ρ3, ct := fun ρ3 => ∃ m', m' < m ∧ I m' ρ3, bk := N.nx, rt := N.rt } ρ2 else N.nx ρ2
theorem ds_while {c : Expr} {body : List Stmt} {pos : Pos} {tc : DT} {tb : DS} (hp : PassesOwn (model X.prog X.w) X.A X.env X.xe) (hc : PT X c (upT X.K Ts W tc)) (hb : PSs X body (upS X.K Ts W tb)) : PS X (.While c body [] pos) (upS X.K Ts W (dWhile tc tb)) := by
  refine (ps_while hp hc hb).imp fun E σ H h => ?_
  obtain ⟨A, O, ρ, Xf, N, m, h, c⟩ := h
  obtain ⟨I, ⟨n0, i0⟩, step⟩ := h
  refine ⟨fun n σ' H' => ∃ A' O' ρ', Tr A O H A' O' H' ∧ Mt X.K Ts H' A' O' ρ' σ' ∧ I n ρ', ⟨n0, A, O, ρ, Tr.refl, m, i0⟩, ?_⟩
  rintro n σ' H' ⟨A', O', ρ', t', m', i'⟩
  have c1 := c.move t' m
  refine ⟨A', O', ρ', Xf, _, m', step n ρ' i', fun b ρ2 H2 A2 O2 h2 s2 t2 m2 => ?_, fun x ρ' cls od H' A' O' => c1.x x ρ' cls od σ' H' A' O'⟩
  have t12 := t'.trans t2 m.trk
  have c2 := c.move t12 m
  cases b with
  | false => exact c2.nx ρ2 σ' H2 A2 O2 h2 Tr.refl m2
  | true =>
    refine ⟨fun σ3 H3 => ∃ n', n' < n ∧ ∃ A' O' ρ', Tr A O H A' O' H3 ∧ Mt X.K Ts H3 A' O' ρ' σ3 ∧ I n' ρ', fun σ3 H3 z => z, ?_⟩
    refine ⟨A2, O2, ρ2, Xf, _, m2, h2, ⟨fun ρ3 σ3 H3 A3 O3 h3 t3 m3 => ?_, fun ρ3 σ3 H3 A3 O3 h3 t3 m3 => ?_, fun ρ3 σ3 H3 A3 O3 h3 t3 m3 => ?_, c2.rt, c2.x⟩⟩
    · obtain ⟨n', hn, i3⟩ := h3
      exact ⟨n', hn, A3, O3, ρ3, t12.trans t3 m.trk, m3, i3⟩
    · exact c2.nx ρ3 σ3 H3 A3 O3 h3 t3 m3
    · obtain ⟨n', hn, i3⟩ := h3
      exact ⟨n', hn, A3, O3, ρ3, t12.trans t3 m.trk, m3, i3⟩
end
theorem rng_get {n k : Nat} {d : D} (h : (rngD n)[k]? = some d) : k < n ∧ d = .int (k : Int) := by
  unfold rngD at h
  have hk : k < n := by
    have := (List.getElem?_eq_some_iff.mp h).1
    rw [List.length_map, List.length_range] at this
    exact this
  rw [List.getElem?_map, List.getElem?_range hk] at h
  cases h
  exact ⟨hk, rfl⟩
theorem rng_len {n : Nat} : (rngD n).length = n := by unfold rngD; rw [List.length_map, List.length_range]
theorem map_get {α : Type} {f : α → D} {xs : List α} {k : Nat} {d : D} (h : (xs.map f)[k]? = some d) : ∃ x, xs[k]? = some x ∧ d = f x := by
  rw [List.getElem?_map] at h
  cases e : xs[k]? with
  | none => rw [e] at h; cases h
  | some x => rw [e] at h; cases h; exact ⟨x, rfl, rfl⟩
theorem at_map {α : Type} {f : α → D} {xs : List α} {k : Nat} {x : α} (h : xs[k]? = some x) : atI (xs.map f) (k : Int) = some (f x) := atI_nat (by rw [List.getElem?_map, h]; rfl)
theorem at_ix {α : Type} {f : α → D} {xs : List α} {i : Int} {k : Nat} {x : α} (e : i = (k : Int)) (h : xs[k]? = some x) : atI (xs.map f) i = some (f x) := by rw [e]; exact at_map h
theorem oK_at {α : Type} {f : α → D} {xs : List α} {i : Int} {Q : D → Prop} (k : Nat) {x : α} (e : i = (k : Int)) (h : xs[k]? = some x) (q : Q (f x)) : oK (atI (xs.map f) i) Q := oK.mk (at_ix e h) q
theorem flD_str (ss : List Str) : (ss.map D.str).all flD = true := by rw [List.all_map, List.all_eq_true]; intro x _; rfl
theorem flD_int (ss : List Int) : (ss.map D.int).all flD = true := by rw [List.all_map, List.all_eq_true]; intro x _; rfl
theorem cutD_drop (xs : List D) (m : Nat) : cutD xs (some (m : Int)) none = xs.drop m := by
  unfold cutD
  have e1 : HT.sIx xs.length 0 (some (m : Int)) = min m xs.length := by
    show (if (m : Int) < 0 then ((m : Int) + (xs.length : Int)).toNat else min (m : Int).toNat xs.length) = _
    rw [if_neg (by omega)]
    rfl
  have e2 : HT.sIx xs.length xs.length none = xs.length := rfl
  rw [e1, e2]
  by_cases h : m ≤ xs.length
  · rw [Nat.min_eq_left h, List.take_of_length_le (by rw [List.length_drop]; exact Nat.le_refl _)]
  · rw [Nat.min_eq_right (by omega), Nat.sub_self, List.take_zero, List.drop_of_length_le (by omega)]
theorem cutD_take (xs : List D) (m : Nat) : cutD xs none (some (m : Int)) = xs.take m := by
  unfold cutD
  have e2 : HT.sIx xs.length xs.length (some (m : Int)) = min m xs.length := by
    show (if (m : Int) < 0 then ((m : Int) + (xs.length : Int)).toNat else min (m : Int).toNat xs.length) = _
    rw [if_neg (by omega)]
    rfl
  have e1 : HT.sIx xs.length 0 none = 0 := rfl
  rw [e1, e2]
  show xs.take (min m xs.length - 0) = xs.take m
  rw [Nat.sub_zero, List.take_eq_take_iff]
  omega
theorem cutD_nil (xs : List D) (lo hi : Option Int) : cutD [] lo hi = [] := by unfold cutD; simp
/-! ### more operators -/
abbrev gPow := numOp CPow fun i j => .int (i ^ j.toNat)
theorem dop_pow {X : Cx} {Ts : AP} : DOp X Ts (binaryOp .Pow) gPow := num_ok op_pow fun _ _ _ _ => Rp.int
def dNeg (ta : DE) : DE := fun X ρ Q => ta X ρ fun d _ ρ1 => match d with
  | .int i => Q (.int (-i)) .sh ρ1
  | _ => False
theorem de_neg {X : Cx} {Ts : AP} {W : WX} {a : Expr} {ta : DE} {pos : Pos} (ha : PE X a (upE X.K Ts W ta)) : PE X (.UnaryOp .USub a pos) (upE X.K Ts W (dNeg ta)) := by
  refine (pe_un un_neg ha).imp fun σ H Q h => ?_
  obtain ⟨A, O, ρ, Xf, Qd, m, h, c⟩ := h
  refine ⟨A, O, ρ, Xf, _, m, h, fun d κ ρ1 v H1 A1 O1 h1 s1 t1 m1 r1 => ?_, c.x⟩
  split at h1
  · exact ⟨_, r1.wk.int, (c.move s1 t1 m).flat m1 h1 Rp.int⟩
  · exact h1.elim
/-- an if in a reading, by its truth -/
theorem if_b {b : Bool} {P Q : Prop} (h1 : b = true → P) (h2 : b = false → Q) : if b = true then P else Q := by
  cases b with
  | true => rw [if_pos rfl]; exact h1 rfl
  | false => rw [if_neg Bool.false_ne_true]; exact h2 rfl
theorem if_d {C : Prop} [Decidable C] {P Q : Prop} (h1 : C → P) (h2 : ¬ C → Q) : if decide C = true then P else Q := if_b (fun z => h1 (of_decide_eq_true z)) fun z => h2 (of_decide_eq_false z)
/-- a reading keeps the promise -/
abbrev MD (r : DS) (n N : Nat) (ph : Ph) : Prop := ∀ (ds : List D) (Qd : D → Prop) (Xd : Xc → Prop), ph ds Qd Xd → ds.length = n → r (fun x _ => Xd x) ⟨fun _ => Qd .non, Qd, fun _ => False, fun _ => False⟩ (ds.map Sl.va ++ List.replicate (N - n) .no)
end DL

-- part DL7
set_option Elab.async false
set_option linter.all false
set_option maxRecDepth 100000
set_option maxHeartbeats 2000000
/-! how a reading is reckoned: from the head, what follows is left shut -/
namespace DL
open PySem PySem.Spec PyProof.Rows L2 GxR GS GA GD
/-- what stands behind a tag is not reckoned -/
structure Tag {α : Sort _} (a : α) : Type where
def kk {α : Sort _} (a : α) (_ : Tag a := ⟨⟩) : α := a
/-- an if whose ways are left shut -/
def iK (b : Bool) (P Q : Prop) (_ : Tag P := ⟨⟩) (_ : Tag Q := ⟨⟩) : Prop := if b = true then P else Q
theorem iK_true (P Q : Prop) (s : Tag P) (u : Tag Q) : iK true P Q s u = P := if_pos rfl
theorem iK_false (P Q : Prop) (s : Tag P) (u : Tag Q) : iK false P Q s u = Q := if_neg Bool.false_ne_true
theorem iK_not (b : Bool) (P Q : Prop) (s : Tag P) (u : Tag Q) : iK (!b) P Q s u = iK b Q P u s := by cases b <;> rfl
theorem iK_b {b : Bool} {P Q : Prop} {s : Tag P} {u : Tag Q} (h1 : b = true → P) (h2 : b = false → Q) : iK b P Q s u := if_b h1 h2
theorem iK_d {C : Prop} [Decidable C] {P Q : Prop} {s : Tag P} {u : Tag Q} (h1 : C → P) (h2 : ¬ C → Q) : iK (decide C) P Q s u := if_d h1 h2
theorem iK_T {C : Prop} [Decidable C] {P Q : Prop} {s : Tag P} {u : Tag Q} (c : C) (h : P) : iK (decide C) P Q s u := iK_d (fun _ => h) fun n => absurd c n
theorem iK_F {C : Prop} [Decidable C] {P Q : Prop} {s : Tag P} {u : Tag Q} (c : ¬ C) (h : Q) : iK (decide C) P Q s u := iK_d (fun n => absurd n c) fun _ => h
/-- an if behind which the slots keep I -/
theorem iK_J {b : Bool} {t u : DS} {X : XF} {N : DN} {ρ : List Sl} {s : Tag (t X N ρ)} {v : Tag (u X N ρ)} (I : List Sl → Prop) (h1 : ∀ c : List Sl → Prop, (∀ ρ', I ρ' → c ρ') → b = true → t X ⟨c, N.rt, N.bk, N.ct⟩ ρ) (h2 : ∀ c : List Sl → Prop, (∀ ρ', I ρ' → c ρ') → b = false → u X ⟨c, N.rt, N.bk, N.ct⟩ ρ)
    (hc : ∀ ρ', I ρ' → N.nx ρ') : iK b (t X N ρ) (u X N ρ) s v := iK_b (h1 N.nx hc) (h2 N.nx hc)
section
variable {X : XF} {N : DN} {ρ : List Sl} {Q : D → Kd → List Sl → Prop} {i : Nat} {ta tb tc te : DE} {A B : DA} {c d : DT} {t u : DS}
theorem k0 (P : Prop) (t : Tag P) : kk P t = P := rfl
theorem k1 {α : Sort _} {β : Sort _} (f : α → β) (t : Tag f) (a : α) : kk f t a = f a := rfl
theorem k2 {α : Sort _} {β : Sort _} {γ : Sort _} (f : α → β → γ) (t : Tag f) (a : α) (b : β) : kk f t a b = f a b := rfl
theorem k3 {α : Sort _} {β : Sort _} {γ : Sort _} {δ : Sort _} (f : α → β → γ → δ) (t : Tag f) (a : α) (b : β) (c : γ) : kk f t a b c = f a b c := rfl
/-- a slot -/
def sl (ρ : List Sl) (i : Nat) : Sl := ρ.getD i .no
theorem sl_0 {s : Sl} {r : List Sl} : sl (s :: r) 0 = s := rfl
theorem sl_s {s : Sl} {r : List Sl} {i : Nat} : sl (s :: r) (i + 1) = sl r i := rfl
theorem sl_o {s : Sl} {r : List Sl} {i : Nat} [NeZero (OfNat.ofNat i : Nat)] : True := trivial
def vK (s : Sl) (i : Nat) (ρ : List Sl) (Q : D → Kd → List Sl → Prop) : Prop := match s with
  | .va d => Q d .sh ρ
  | .ow ds => Q (.lst ds) .sh (ρ.set i (.va (.lst ds)))
  | .no => False
def bK (s : Sl) (ρ : List Sl) (Q : D → Kd → List Sl → Prop) : Prop := match s with
  | .va d => Q d .sh ρ
  | .ow ds => Q (.lst ds) .bo ρ
  | .no => False
theorem vK_va {d : D} : vK (.va d) i ρ Q = Q d .sh ρ := rfl
theorem vK_ow {ds : List D} : vK (.ow ds) i ρ Q = Q (.lst ds) .sh (ρ.set i (.va (.lst ds))) := rfl
theorem bK_va {d : D} : bK (.va d) ρ Q = Q d .sh ρ := rfl
theorem bK_ow {ds : List D} : bK (.ow ds) ρ Q = Q (.lst ds) .bo ρ := rfl
theorem sl_eq : ρ[i]? = (if i < ρ.length then some (sl ρ i) else none) := by
  unfold sl
  rw [List.getD_eq_getElem?_getD]
  by_cases h : i < ρ.length
  · rw [if_pos h, List.getElem?_eq_getElem h]; rfl
  · rw [if_neg h, List.getElem?_eq_none (by omega)]
theorem dVar_ev : dVar i X ρ Q = vK (sl ρ i) i ρ Q := by
  unfold dVar vK
  rw [sl_eq]
  by_cases h : i < ρ.length
  · rw [if_pos h]; cases sl ρ i <;> rfl
  · have : sl ρ i = .no := by unfold sl; rw [List.getD_eq_getElem?_getD, List.getElem?_eq_none (by omega)]; rfl
    rw [if_neg h, this]
theorem dVarB_ev : dVarB i X ρ Q = bK (sl ρ i) ρ Q := by
  unfold dVarB bK
  rw [sl_eq]
  by_cases h : i < ρ.length
  · rw [if_pos h]; cases sl ρ i <;> rfl
  · have : sl ρ i = .no := by unfold sl; rw [List.getD_eq_getElem?_getD, List.getElem?_eq_none (by omega)]; rfl
    rw [if_neg h, this]
theorem dC_ev {z : D} : dC z X ρ Q = Q z .sh ρ := rfl
theorem dBin_ev {g : D → D → (D → Kd → Prop) → Prop} : dBin g ta tb X ρ Q = ta X ρ (kk fun d _ ρ1 => tb X ρ1 (kk fun e _ ρ2 => g d e (kk fun z κ => Q z κ ρ2))) := rfl
def tK (d : D) (Q : Bool → Prop) : Prop := match d with
  | .bl b => Q b
  | _ => False
theorem tK_bl {b : Bool} {R : Bool → Prop} : tK (.bl b) R = R b := rfl
theorem dTst_ev {R : Bool → List Sl → Prop} : dTst te X ρ R = te X ρ (kk fun d _ ρ1 => tK d (kk fun b => R b ρ1)) := rfl
theorem dAnd_ev {R : Bool → List Sl → Prop} : dAnd c d X ρ R = c X ρ (kk fun b ρ1 => iK b (d X ρ1 R) (R false ρ1)) := rfl
theorem dOr_ev {R : Bool → List Sl → Prop} : dOr c d X ρ R = c X ρ (kk fun b ρ1 => iK b (R true ρ1) (d X ρ1 R)) := rfl
theorem dNot_ev {R : Bool → List Sl → Prop} : dNot c X ρ R = c X ρ (kk fun b ρ1 => R (!b) ρ1) := rfl
theorem dAndV_ev : dAndV ta tb X ρ Q = ta X ρ (kk fun d _ ρ1 => tK d (kk fun b => iK b (tb X ρ1 Q) (Q (.bl false) .sh ρ1))) := by
  show ta X ρ _ = ta X ρ _
  congr 1
  funext d κ ρ1
  cases d with
  | bl b => cases b <;> rfl
  | _ => rfl
theorem dOrV_ev : dOrV ta tb X ρ Q = ta X ρ (kk fun d _ ρ1 => tK d (kk fun b => iK b (Q (.bl true) .sh ρ1) (tb X ρ1 Q))) := by
  show ta X ρ _ = ta X ρ _
  congr 1
  funext d κ ρ1
  cases d with
  | bl b => cases b <;> rfl
  | _ => rfl
theorem dNotV_ev : dNotV ta X ρ Q = ta X ρ (kk fun d _ ρ1 => tK d (kk fun b => Q (.bl (!b)) .sh ρ1)) := by
  show ta X ρ _ = ta X ρ _
  congr 1
theorem dIf_ev : dIf c ta tb X ρ Q = c X ρ (kk fun b ρ1 => iK b (ta X ρ1 Q) (tb X ρ1 Q)) := rfl
theorem dNext_ev : dNext X N ρ = N.nx ρ := rfl
theorem dSeq_ev : dSeq t u X N ρ = t X { N with nx := kk (u X N) } ρ := rfl
theorem dBreak_ev : dBreak X N ρ = N.bk ρ := rfl
theorem dCont_ev : dCont X N ρ = N.ct ρ := rfl
theorem dRet_ev : dRet te X N ρ = te X ρ (kk fun d κ _ => κ ≠ .bo ∧ N.rt d) := rfl
theorem dRetN_ev : dRetN X N ρ = N.rt .non := rfl
theorem dIfS_ev : dIfS c t u X N ρ = c X ρ (kk fun b ρ1 => iK b (t X N ρ1) (u X N ρ1)) := rfl
theorem dSet_ev : dSet i te X N ρ = te X ρ (kk fun d κ ρ1 => κ ≠ .bo ∧ i < ρ1.length ∧ N.nx (ρ1.set i (slOf d κ))) := rfl
theorem dDrop_ev : dDrop te X N ρ = te X ρ (kk fun _ _ ρ1 => N.nx ρ1) := rfl
theorem slOf_fr {ds : List D} : slOf (.lst ds) .fr = .ow ds := rfl
theorem slOf_sh {z : D} : slOf z .sh = .va z := by cases z <;> rfl
/-! operators by what they are given -/
section
variable {R : D → Kd → Prop} {j k : Int} {x y : Str} {ds es : List D} {b b' : Bool}
theorem gAdd_i : gAdd (.int j) (.int k) R = R (.int (j + k)) .sh := rfl
theorem gAdd_s : gAdd (.str x) (.str y) R = (x.length + y.length ≤ sizeLine ∧ R (.str (x ++ y)) .sh) := rfl
theorem gAdd_l : gAdd (.lst ds) (.lst es) R = (ds.length + es.length ≤ sizeLine ∧ R (.lst (ds ++ es)) .fr) := rfl
theorem gAdd_t : gAdd (.tup ds) (.tup es) R = (ds.length + es.length ≤ sizeLine ∧ R (.tup (ds ++ es)) .sh) := rfl
theorem num_i {C : Int → Int → Prop} {f : Int → Int → D} : numOp C f (.int j) (.int k) R = (C j k ∧ R (f j k) .sh) := rfl
theorem gEq_i : gEq (.int j) (.int k) R = R (.bl (decide (j = k))) .sh := rfl
theorem gEq_s : gEq (.str x) (.str y) R = R (.bl (decide (x = y))) .sh := rfl
theorem gEq_b : gEq (.bl b) (.bl b') R = R (.bl (decide (b = b'))) .sh := rfl
theorem gEq_sn : gEq (.str x) .non R = R (.bl false) .sh := rfl
theorem gEq_ns : gEq .non (.str x) R = R (.bl false) .sh := rfl
theorem gEq_in : gEq (.int j) .non R = R (.bl false) .sh := rfl
theorem gEq_ni : gEq .non (.int j) R = R (.bl false) .sh := rfl
theorem gEq_nn : gEq .non .non R = R (.bl true) .sh := rfl
theorem gEq_is : gEq (.int j) (.str x) R = R (.bl false) .sh := rfl
theorem gEq_si : gEq (.str x) (.int j) R = R (.bl false) .sh := rfl
theorem gNe_i : gNe (.int j) (.int k) R = R (.bl (!decide (j = k))) .sh := rfl
theorem gNe_s : gNe (.str x) (.str y) R = R (.bl (!decide (x = y))) .sh := rfl
theorem gNe_b : gNe (.bl b) (.bl b') R = R (.bl (!decide (b = b'))) .sh := rfl
theorem gNe_sn : gNe (.str x) .non R = R (.bl true) .sh := rfl
theorem gNe_ns : gNe .non (.str x) R = R (.bl true) .sh := rfl
theorem gNe_in : gNe (.int j) .non R = R (.bl true) .sh := rfl
theorem gNe_ni : gNe .non (.int j) R = R (.bl true) .sh := rfl
theorem gNe_nn : gNe .non .non R = R (.bl false) .sh := rfl
theorem gEq_l : gEq (.lst ds) (.lst es) R = (shp (.lst ds) = true ∧ shp (.lst es) = true ∧ R (.bl (eqD (.lst ds) (.lst es))) .sh) := rfl
theorem gEq_t : gEq (.tup ds) (.tup es) R = (shp (.tup ds) = true ∧ shp (.tup es) = true ∧ R (.bl (eqD (.tup ds) (.tup es))) .sh) := rfl
theorem gNe_l : gNe (.lst ds) (.lst es) R = (shp (.lst ds) = true ∧ shp (.lst es) = true ∧ R (.bl (!eqD (.lst ds) (.lst es))) .sh) := rfl
theorem gNe_t : gNe (.tup ds) (.tup es) R = (shp (.tup ds) = true ∧ shp (.tup es) = true ∧ R (.bl (!eqD (.tup ds) (.tup es))) .sh) := rfl
theorem gIsN_n : gIsN .non .non R = R (.bl true) .sh := rfl
theorem gIsN_s : gIsN (.str x) .non R = R (.bl false) .sh := rfl
theorem gIsN_i : gIsN (.int j) .non R = R (.bl false) .sh := rfl
theorem gIsN_l : gIsN (.lst ds) .non R = R (.bl false) .sh := rfl
theorem gIsN_t : gIsN (.tup ds) .non R = R (.bl false) .sh := rfl
theorem gNotN_n : gNotN .non .non R = R (.bl false) .sh := rfl
theorem gNotN_s : gNotN (.str x) .non R = R (.bl true) .sh := rfl
theorem gNotN_i : gNotN (.int j) .non R = R (.bl true) .sh := rfl
theorem gNotN_l : gNotN (.lst ds) .non R = R (.bl true) .sh := rfl
theorem gNotN_t : gNotN (.tup ds) .non R = R (.bl true) .sh := rfl
theorem gIn_l {z : D} : gIn z (.lst ds) R = (flD z = true ∧ ds.all flD = true ∧ R (.bl (hasD z ds)) .sh) := rfl
theorem gIn_t {z : D} : gIn z (.tup ds) R = (flD z = true ∧ ds.all flD = true ∧ R (.bl (hasD z ds)) .sh) := rfl
theorem gNin_l {z : D} : gNin z (.lst ds) R = (flD z = true ∧ ds.all flD = true ∧ R (.bl (!hasD z ds)) .sh) := rfl
theorem gNin_t {z : D} : gNin z (.tup ds) R = (flD z = true ∧ ds.all flD = true ∧ R (.bl (!hasD z ds)) .sh) := rfl
theorem flD_s : flD (.str x) = true := rfl
theorem flD_i : flD (.int j) = true := rfl
theorem flD_n : flD .non = true := rfl
theorem gIx_l : gIx (.lst ds) (.int j) R = oK (atI ds j) (kk fun z => R z .sh) := rfl
theorem gIx_t : gIx (.tup ds) (.int j) R = oK (atI ds j) (kk fun z => R z .sh) := rfl
theorem gIx_s : gIx (.str x) (.int j) R = (x.length ≤ sizeLine ∧ oK (atI x.cps.toList j) (kk fun c => R (.str ⟨#[c]⟩) .sh)) := rfl
theorem at0 {α : Type} {a : α} {r : List α} : atI (a :: r) 0 = some a := atI_nat (j := 0) rfl
theorem at1 {α : Type} {a b : α} {r : List α} : atI (a :: b :: r) 1 = some b := atI_nat (j := 1) rfl
theorem at2 {α : Type} {a b c : α} {r : List α} : atI (a :: b :: c :: r) 2 = some c := atI_nat (j := 2) rfl
theorem at3 {α : Type} {a b c d : α} {r : List α} : atI (a :: b :: c :: d :: r) 3 = some d := atI_nat (j := 3) rfl
theorem at4 {α : Type} {a b c d e : α} {r : List α} : atI (a :: b :: c :: d :: e :: r) 4 = some e := atI_nat (j := 4) rfl
theorem at5 {α : Type} {a b c d e f : α} {r : List α} : atI (a :: b :: c :: d :: e :: f :: r) 5 = some f := atI_nat (j := 5) rfl
end
section
variable {R : Option Int → List Sl → Prop} {L H : DO} {j : Int}
theorem dNoPart_ev : dNoPart X ρ R = R none ρ := rfl
def pK (d : D) (Q : Int → Prop) : Prop := match d with
  | .int i => Q i
  | _ => False
theorem pK_i {f : Int → Prop} : pK (.int j) f = f j := rfl
theorem dPart_ev : dPart te X ρ R = te X ρ (kk fun d _ ρ1 => pK d (kk fun n => R (some n) ρ1)) := rfl
def sK (d : D) (lo hi : Option Int) (Q : D → Kd → Prop) : Prop := match d with
  | .lst ds => Q (.lst (cutD ds lo hi)) .fr
  | .scr ns => Q (.lst (cutD (ns.map .int) lo hi)) .fr
  | .tup ds => Q (.tup (cutD ds lo hi)) .sh
  | .str z => z.length ≤ sizeLine ∧ Q (.str (cutS z lo hi)) .sh
  | _ => False
theorem sK_l {ds : List D} {lo hi : Option Int} {f : D → Kd → Prop} : sK (.lst ds) lo hi f = f (.lst (cutD ds lo hi)) .fr := rfl
theorem sK_r {ns : List Int} {lo hi : Option Int} {f : D → Kd → Prop} : sK (.scr ns) lo hi f = f (.lst (cutD (ns.map .int) lo hi)) .fr := rfl
theorem sK_t {ds : List D} {lo hi : Option Int} {f : D → Kd → Prop} : sK (.tup ds) lo hi f = f (.tup (cutD ds lo hi)) .sh := rfl
theorem sK_s {z : Str} {lo hi : Option Int} {f : D → Kd → Prop} : sK (.str z) lo hi f = (z.length ≤ sizeLine ∧ f (.str (cutS z lo hi)) .sh) := rfl
theorem dSl_ev : dSl te L H X ρ Q = te X ρ (kk fun d _ ρ1 => L X ρ1 (kk fun lo ρ2 => H X ρ2 (kk fun hi ρ3 => sK d lo hi (kk fun z κ => Q z κ ρ3)))) := by
  show te X ρ _ = te X ρ _
  congr 1
end
section
variable {R : List D → List Sl → Prop}
theorem dNil_ev : dNil X ρ R = R [] ρ := rfl
theorem dCons_ev : dCons te A X ρ R = te X ρ (kk fun d κ ρ1 => κ ≠ .bo ∧ A X ρ1 (kk fun ds ρ2 => R (d :: ds) ρ2)) := rfl
theorem dConsW_ev : dConsW te A X ρ R = te X ρ (kk fun d _ ρ1 => A X ρ1 (kk fun ds ρ2 => R (d :: ds) ρ2)) := rfl
theorem itsD_l {ds : List D} : itsD (.lst ds) = some ds := rfl
theorem itsD_t {ds : List D} : itsD (.tup ds) = some ds := rfl
theorem dStar_ev : dStar te A X ρ R = te X ρ (kk fun d _ ρ1 => oK (itsD d) (kk fun xs => A X ρ1 (kk fun ds ρ2 => R (xs ++ ds) ρ2))) := rfl
end
theorem dLst_ev : dLst A X ρ Q = A X ρ (kk fun ds ρ1 => ds.length ≤ sizeLine ∧ Q (.lst ds) .fr ρ1) := rfl
theorem dTup_ev : dTup A X ρ Q = A X ρ (kk fun ds ρ1 => ds.length ≤ sizeLine ∧ Q (.tup ds) .sh ρ1) := rfl
theorem dBlt_ev {g : List D → (D → Kd → Prop) → Prop} : dBlt g A X ρ Q = A X ρ (kk fun ds ρ1 => g ds (kk fun z κ => Q z κ ρ1)) := rfl
section
variable {R : D → Kd → Prop} {j k : Int} {x y : Str} {ds es : List D} {b : Bool}
theorem gLen_l : gLen [.lst ds] R = R (.int (ds.length : Nat)) .sh := rfl
theorem gLen_t : gLen [.tup ds] R = R (.int (ds.length : Nat)) .sh := rfl
theorem gLen_r {ns : List Int} : gLen [.scr ns] R = R (.int (ns.length : Nat)) .sh := rfl
theorem gLen_s : gLen [.str x] R = (x.length ≤ sizeLine ∧ R (.int (x.length : Nat)) .sh) := rfl
theorem gInt_i : gInt [.int j] R = R (.int j) .sh := rfl
theorem gInt_b : gInt [.bl b] R = R (.int (if b then 1 else 0)) .sh := rfl
theorem gAbs_i : gAbs [.int j] R = R (.int (if j < 0 then -j else j)) .sh := rfl
theorem gMax_i : gMax [.int j, .int k] R = R (.int (if k > j then k else j)) .sh := rfl
theorem gMin_i : gMin [.int j, .int k] R = R (.int (if k < j then k else j)) .sh := rfl
theorem gTuple_l : gTuple [.lst ds] R = R (.tup ds) .sh := rfl
theorem gTuple_t : gTuple [.tup ds] R = R (.tup ds) .sh := rfl
theorem gList_l : gList [.lst ds] R = R (.lst ds) .fr := rfl
theorem gList_t : gList [.tup ds] R = R (.lst ds) .fr := rfl
end
def oW (s : Sl) (Q : List D → Prop) : Prop := match s with
  | .ow ds => Q ds
  | _ => False
theorem oW_ow {ds : List D} {f : List D → Prop} : oW (.ow ds) f = f ds := rfl
theorem owAt_ev {f : List D → Prop} : owAt ρ i f = oW (sl ρ i) f := by
  unfold owAt oW
  rw [sl_eq]
  by_cases h : i < ρ.length
  · rw [if_pos h]; cases sl ρ i <;> rfl
  · have : sl ρ i = .no := by unfold sl; rw [List.getD_eq_getElem?_getD, List.getElem?_eq_none (by omega)]; rfl
    rw [if_neg h, this]
theorem dApp_ev : dApp i te X N ρ = oW (sl ρ i) (kk fun _ => te X ρ (kk fun d κ ρ1 => κ ≠ .bo ∧ oW (sl ρ1 i) (kk fun ds => ds.length < sizeLine ∧ N.nx (ρ1.set i (.ow (ds ++ [d])))))) := by
  unfold dApp
  rw [owAt_ev]
  simp only [owAt_ev]
  rfl
/-! what is walked -/
section
variable {R : List D → Bool → List Sl → Prop}
def wK (d : D) (κ : Kd) (Q : List D → Bool → Prop) : Prop := match d with
  | .lst ds => Q ds (match κ with | .bo => true | _ => false)
  | .tup ds => Q ds false
  | .scr ns => Q (ns.map .int) false
  | .str z => Q (chD z) false
  | _ => False
variable {f : List D → Bool → Prop} {ds : List D} {κ : Kd}
theorem wK_sh : wK (.lst ds) .sh f = f ds false := rfl
theorem wK_fr : wK (.lst ds) .fr f = f ds false := rfl
theorem wK_bo : wK (.lst ds) .bo f = f ds true := rfl
theorem wK_t : wK (.tup ds) κ f = f ds false := rfl
theorem wK_r {ns : List Int} : wK (.scr ns) κ f = f (ns.map .int) false := rfl
theorem wK_s {z : Str} : wK (.str z) κ f = f (chD z) false := rfl
theorem diVal_ev : diVal te X ρ R = te X ρ (kk fun d κ ρ1 => wK d κ (kk fun ds l => R ds l ρ1)) := by
  show te X ρ _ = te X ρ _
  congr 1
def rK (ds : List D) (Q : List D → Prop) : Prop := match ds with
  | [.int n] => -(2 ^ 62) ≤ n ∧ n < 2 ^ 62 ∧ Q (rngD n.toNat)
  | _ => False
theorem rK_i {n : Int} {f : List D → Prop} : rK [.int n] f = (-(2 ^ 62) ≤ n ∧ n < 2 ^ 62 ∧ f (rngD n.toNat)) := rfl
theorem diRng_ev : diRng A X ρ R = A X ρ (kk fun ds ρ1 => rK ds (kk fun xs => R xs false ρ1)) := by
  show A X ρ _ = A X ρ _
  congr 1
def eK (d : D) (κ : Kd) (Q : List D → Bool → Prop) : Prop := match d with
  | .lst ds => Q (enD ds) (match κ with | .bo => true | _ => false)
  | _ => False
theorem eK_sh : eK (.lst ds) .sh f = f (enD ds) false := rfl
theorem eK_fr : eK (.lst ds) .fr f = f (enD ds) false := rfl
theorem eK_bo : eK (.lst ds) .bo f = f (enD ds) true := rfl
theorem diEnum_ev : diEnum te X ρ R = te X ρ (kk fun d κ ρ1 => eK d κ (kk fun ds l => R ds l ρ1)) := by
  show te X ρ _ = te X ρ _
  congr 1
end
/-! targets -/
section
variable {R : List Sl → Prop} {g : DG} {gs : List D → List Sl → (List Sl → Prop) → Prop} {z : D} {ds : List D} {n : Nat}
theorem dgName_ev : dgName i z ρ R = R (ρ.set i (.va z)) := rfl
theorem dgNil_ev : dgNil [] ρ R = R ρ := rfl
theorem dgCons_ev : dgCons g gs (z :: ds) ρ R = g z ρ (kk fun ρ1 => gs ds ρ1 R) := rfl
theorem dgTup_ev : dgTup n gs (.tup ds) ρ R = (ds.length = n ∧ gs ds ρ R) := rfl
theorem dAsg_ev : dAsg te g X N ρ = te X ρ (kk fun d κ ρ1 => κ ≠ .bo ∧ g d ρ1 N.nx) := rfl
end
/-! loops -/
def forK (ds : List D) (g : DG) (tb : DS) (X : XF) (N : DN) (ρ : List Sl) : Prop := ∃ I : Nat → List Sl → Prop, I 0 ρ ∧
  (∀ k d ρ', ds[k]? = some d → I k ρ' → g d ρ' fun ρ2 => tb X { nx := I (k + 1), ct := I (k + 1), bk := N.nx, rt := N.rt } ρ2) ∧ ∀ ρ', I ds.length ρ' → N.nx ρ'
theorem dFor_ev {ti : DI} {g : DG} : dFor ti g t X N ρ = ti X ρ (kk fun ds lent ρ1 => lent = false ∧ forK ds g t X N ρ1) := rfl
theorem forK.mk {ds : List D} {g : DG} (I : Nat → List Sl → Prop) (h0 : I 0 ρ) (hs : ∀ k d ρ', ds[k]? = some d → I k ρ' → g d ρ' (kk fun ρ2 => t X { nx := I (k + 1), ct := I (k + 1), bk := N.nx, rt := N.rt } ρ2)) (hd : ∀ ρ', I ds.length ρ' → N.nx ρ') : forK ds g t X N ρ := ⟨I, h0, hs, hd⟩
/-- over what a plain list stands for -/
theorem forK.map {α : Type} {f : α → D} {xs : List α} {g : DG} (I : Nat → List Sl → Prop) (h0 : I 0 ρ) (hs : ∀ k x ρ', xs[k]? = some x → k < xs.length → I k ρ' → g (f x) ρ' (kk fun ρ2 => t X { nx := I (k + 1), ct := I (k + 1), bk := N.nx, rt := N.rt } ρ2)) (hd : ∀ ρ', I xs.length ρ' → N.nx ρ') :
    forK (xs.map f) g t X N ρ := ⟨I, h0, fun k d ρ' hk i => by
  obtain ⟨x, hx, rfl⟩ := map_get hk
  exact hs k x ρ' hx (List.getElem?_eq_some_iff.mp hx).1 i, by rw [List.length_map]; exact hd⟩
theorem forK.rng {n : Nat} {g : DG} (I : Nat → List Sl → Prop) (h0 : I 0 ρ) (hs : ∀ k ρ', k < n → I k ρ' → g (.int (k : Int)) ρ' (kk fun ρ2 => t X { nx := I (k + 1), ct := I (k + 1), bk := N.nx, rt := N.rt } ρ2)) (hd : ∀ ρ', I n ρ' → N.nx ρ') :
    forK (rngD n) g t X N ρ := ⟨I, h0, fun k d ρ' hk i => by
  obtain ⟨lt, rfl⟩ := rng_get hk
  exact hs k ρ' lt i, by rw [rng_len]; exact hd⟩
def whileK (c : DT) (tb : DS) (X : XF) (N : DN) (ρ : List Sl) : Prop := dWhile c tb X N ρ
theorem dWhile_ev : dWhile c t X N ρ = whileK c t X N ρ := rfl
theorem whileK.mk (I : Nat → List Sl → Prop) (m : Nat) (h0 : I m ρ) (hs : ∀ m ρ1, I m ρ1 → c X ρ1 (kk fun b ρ2 => iK b (t X { nx := fun ρ3 => ∃ m', m' < m ∧ I m' ρ3, ct := fun ρ3 => ∃ m', m' < m ∧ I m' ρ3, bk := N.nx, rt := N.rt } ρ2) (N.nx ρ2))) : whileK c t X N ρ := ⟨I, ⟨m, h0⟩, hs⟩
/-! comprehensions, all, any -/
def lcK (ds : List D) (i : Nat) (tt : DT) (te : DE) (ρ : List Sl) (Q : List D → Prop) : Prop := ds.length ≤ sizeLine ∧ ∃ f : D → Option D,
  (∀ d ∈ ds, tt X0 (ρ.set i (.va d)) fun b ρ2 => if b = true then te X0 ρ2 fun z κ ρ3 => κ ≠ .bo ∧ ρ3 = ρ.set i (.va d) ∧ f d = some z else f d = none) ∧ Q (ds.filterMap f)
theorem dLc_ev {ti : DI} : dLc ti i c te X ρ Q = ti X ρ (kk fun ds _ ρ1 => lcK ds i c te ρ1 (kk fun zs => Q (.lst zs) .fr ρ1)) := rfl
theorem filterMap_if {α : Type} (f : α → D) (q : α → Bool) : ∀ xs : List α, xs.filterMap (fun x => if q x = true then some (f x) else none) = (xs.filter q).map f
  | [] => rfl
  | x :: r => by
    rw [List.filterMap_cons, List.filter_cons]
    cases h : q x with
    | true => rw [if_pos rfl, if_pos rfl, List.map_cons, filterMap_if f q r]
    | false => rw [if_neg Bool.false_ne_true, if_neg Bool.false_ne_true, filterMap_if f q r]
/-- over what a plain list stands for, where different things stand for different data -/
theorem lcK.map {α : Type} {f : α → D} {xs : List α} (inj : ∀ x y, f x = f y → x = y) (q : α → Bool) (h : α → D) {Q : List D → Prop} (hz : xs.length ≤ sizeLine)
    (hs : ∀ x ∈ xs, ∀ o : Option D, o = (if q x = true then some (h x) else none) → c X0 (ρ.set i (.va (f x))) (kk fun b ρ2 => iK b (te X0 ρ2 (kk fun z κ ρ3 => κ ≠ .bo ∧ ρ3 = ρ.set i (.va (f x)) ∧ o = some z)) (o = none))) (hq : Q ((xs.filter q).map h)) : lcK (xs.map f) i c te ρ Q := by
  classical
  have sel : ∀ d, ∃ o : Option D, ∀ x, d = f x → o = if q x = true then some (h x) else none := fun d => by
    by_cases e : ∃ x, d = f x
    · obtain ⟨x, rfl⟩ := e
      exact ⟨if q x = true then some (h x) else none, fun y hy => by rw [inj _ _ hy]⟩
    · exact ⟨none, fun x hx => absurd ⟨x, hx⟩ e⟩
  refine ⟨by rw [List.length_map]; exact hz, fun d => Classical.choose (sel d), fun d hd => ?_, ?_⟩
  · obtain ⟨x, hx, rfl⟩ := List.mem_map.mp hd
    exact hs x hx _ (Classical.choose_spec (sel (f x)) x rfl)
  · have e : (xs.map f).filterMap (fun d => Classical.choose (sel d)) = (xs.filter q).map h := by
      rw [List.filterMap_map, ← filterMap_if]
      congr 1
      funext x
      exact Classical.choose_spec (sel (f x)) x rfl
    rw [e]
    exact hq
/-- without a test -/
theorem lcK.all {α : Type} {f : α → D} {xs : List α} (inj : ∀ x y, f x = f y → x = y) (h : α → D) {Q : List D → Prop} (hz : xs.length ≤ sizeLine)
    (hs : ∀ x ∈ xs, te X0 (ρ.set i (.va (f x))) (kk fun z κ ρ3 => κ ≠ .bo ∧ ρ3 = ρ.set i (.va (f x)) ∧ z = h x)) (hq : Q (xs.map h)) : lcK (xs.map f) i dYes te ρ Q := by
  refine lcK.map inj (fun _ => true) h hz (fun x hx o ho => ?_) (by rw [List.filter_eq_self.mpr (fun _ _ => rfl)]; exact hq)
  rw [ho, if_pos rfl]
  show iK true (te X0 (ρ.set i (Sl.va (f x))) (kk fun z κ ρ3 => κ ≠ Kd.bo ∧ ρ3 = ρ.set i (Sl.va (f x)) ∧ some (h x) = some z)) (some (h x) = none)
  rw [iK_true]
  have e : (kk fun z κ ρ3 => κ ≠ Kd.bo ∧ ρ3 = ρ.set i (Sl.va (f x)) ∧ some (h x) = some z) = (kk fun z κ ρ3 => κ ≠ Kd.bo ∧ ρ3 = ρ.set i (Sl.va (f x)) ∧ z = h x) := by
    unfold kk
    funext z κ ρ3
    rw [Option.some.injEq, eq_comm (a := h x)]
  rw [e]
  exact hs x hx
theorem inj_str (x y : Str) (h : D.str x = D.str y) : x = y := by cases h; rfl
theorem inj_int (x y : Int) (h : D.int x = D.int y) : x = y := by cases h; rfl
theorem lcK.rng {n : Nat} (h : Nat → D) {Q : List D → Prop} (hz : n ≤ sizeLine) (hs : ∀ k, k < n → te X0 (ρ.set i (.va (.int (k : Int)))) (kk fun z κ ρ3 => κ ≠ .bo ∧ ρ3 = ρ.set i (.va (.int (k : Int))) ∧ z = h k)) (hq : Q ((List.range n).map h)) : lcK (rngD n) i dYes te ρ Q :=
  lcK.all (f := fun k : Nat => D.int (k : Int)) (fun x y e => by injection e with e; omega) h (by rw [List.length_range]; exact hz) (fun k hk => hs k (List.mem_range.mp hk)) hq
def genK (b : Bool) (ds : List D) (i : Nat) (te : DE) (ρ : List Sl) (Q : D → Prop) : Prop := ∃ f : D → Bool, (∀ d ∈ ds, te X0 (ρ.set i (.va d)) fun z _ ρ3 => ρ3 = ρ.set i (.va d) ∧ z = .bl (f d)) ∧ Q (.bl (if b then ds.any f else ds.all f))
theorem dGen_ev {b : Bool} {ti : DI} : dGen b ti i te X ρ Q = ti X ρ (kk fun ds _ ρ1 => genK b ds i te ρ1 (kk fun z => Q z .sh ρ1)) := rfl
theorem genK.map {α : Type} {f : α → D} {xs : List α} (inj : ∀ x y, f x = f y → x = y) (b : Bool) (q : α → Bool) {Q : D → Prop} (hs : ∀ x ∈ xs, te X0 (ρ.set i (.va (f x))) (kk fun z _ ρ3 => ρ3 = ρ.set i (.va (f x)) ∧ z = .bl (q x))) (hq : Q (.bl (if b then xs.any q else xs.all q))) : genK b (xs.map f) i te ρ Q := by
  classical
  have sel : ∀ d, ∃ o : Bool, ∀ x, d = f x → o = q x := fun d => by
    by_cases e : ∃ x, d = f x
    · obtain ⟨x, rfl⟩ := e
      exact ⟨q x, fun y hy => by rw [inj _ _ hy]⟩
    · exact ⟨false, fun x hx => absurd ⟨x, hx⟩ e⟩
  refine ⟨fun d => Classical.choose (sel d), fun d hd => ?_, ?_⟩
  · obtain ⟨x, hx, rfl⟩ := List.mem_map.mp hd
    have e := Classical.choose_spec (sel (f x)) x rfl
    show te X0 _ fun z _ ρ3 => ρ3 = ρ.set i (.va (f x)) ∧ z = .bl (Classical.choose (sel (f x)))
    rw [e]
    exact hs x hx
  · have e : (fun x => Classical.choose (sel (f x))) = q := funext fun x => Classical.choose_spec (sel (f x)) x rfl
    have e2 : (xs.map f).any (fun d => Classical.choose (sel d)) = xs.any q := by rw [List.any_map]; exact congrArg xs.any e
    have e3 : (xs.map f).all (fun d => Classical.choose (sel d)) = xs.all q := by rw [List.all_map]; exact congrArg xs.all e
    show Q (.bl (if b = true then (xs.map f).any _ else (xs.map f).all _))
    rw [e2, e3]
    exact hq
/-! the program's defs, fields -/
theorem dCall_ev {n : Nat} {φ : Ph} : dCall n φ A X ρ Q = A X ρ (kk fun ds ρ1 => ds.length = n ∧ φ ds (kk fun d => Q d .sh ρ1) (kk fun x => X x ρ1)) := rfl
def mK (C m : Str) (d : D) (κ : Kd) (Q : Prop) : Prop := κ = .sh ∧ match d with
  | .ins C' ns xs => C' = C ∧ m ∉ ns ∧ Q
  | _ => False
theorem mK_i {C C' m : Str} {ns : List Str} {xs : List D} {P : Prop} : mK C m (.ins C' ns xs) .sh P = (C' = C ∧ m ∉ ns ∧ P) := by unfold mK; simp
theorem dMeth_ev {C m : Str} {n : Nat} {φ : Ph} : dMeth C m n φ te A X ρ Q = te X ρ (kk fun d κ ρ1 => mK C m d κ (kk (A X ρ1 (kk fun ds ρ2 => ds.length = n ∧ φ (d :: ds) (kk fun z => Q z .sh ρ2) (kk fun x => X x ρ2))))) := by
  show te X ρ _ = te X ρ _
  congr 1
  funext d κ ρ1
  cases d <;> rfl
def fK (C f : Str) (d : D) (κ : Kd) (Q : D → Prop) : Prop := κ = .sh ∧ match d with
  | .ins C' ns xs => C' = C ∧ ns.length = xs.length ∧ oK ((ns.zip xs).lookup f) Q
  | _ => False
theorem fK_i {C C' f : Str} {ns : List Str} {xs : List D} {R : D → Prop} : fK C f (.ins C' ns xs) .sh R = (C' = C ∧ ns.length = xs.length ∧ oK ((ns.zip xs).lookup f) R) := by unfold fK; simp
theorem dFld_ev {C f : Str} : dFld C f te X ρ Q = te X ρ (kk fun d κ ρ1 => fK C f d κ (kk fun z => Q z .sh ρ1)) := by
  show te X ρ _ = te X ρ _
  congr 1
def nK (d : D) (Q : Int → Prop) : Prop := match d with
  | .int i => Q i
  | _ => False
theorem nK_i {j : Int} {f : Int → Prop} : nK (.int j) f = f j := rfl
theorem dNeg_ev : dNeg te X ρ Q = te X ρ (kk fun d _ ρ1 => nK d (kk fun n => Q (.int (-n)) .sh ρ1)) := by
  show te X ρ _ = te X ρ _
  congr 1
theorem dYes_ev {R : Bool → List Sl → Prop} : dYes X ρ R = R true ρ := rfl
end
end DL

-- part DL8
set_option Elab.async false
set_option linter.all false
set_option maxRecDepth 100000
set_option maxHeartbeats 2000000
/-! a store into a list of one's own -/
namespace DL
open PySem PySem.Spec PyProof.Rows L2 GxR GS GA GD
theorem RpL.set {K : PySem.W.Frag} {H : Hp} {A : AP} {d : D} {v : V} (hv : Rp K H A d v) : ∀ {ds : List D} {vs : List V} (j : Nat), RpL K H A ds vs → RpL K H A (ds.set j d) (vs.set j v)
  | [], _, j, h => by rw [h.unnil]; exact RpL.nil
  | e :: r, _, 0, h => by
    obtain ⟨w, t, rfl, h1, h2⟩ := h.uncons
    exact RpL.cons hv h2
  | e :: r, _, j + 1, h => by
    obtain ⟨w, t, rfl, h1, h2⟩ := h.uncons
    exact RpL.cons h1 (RpL.set hv j h2)
/-- xs[k] = e, xs a list of one's own, k written -/
def dStI (i : Nat) (k : Int) (te : DE) : DS := fun X N ρ => te X ρ fun d κ ρ1 => κ ≠ .bo ∧ owAt ρ1 i fun ds => ∃ j, ixN ds.length k = some j ∧ N.nx (ρ1.set i (.ow (ds.set j d)))
theorem dStI_ev {i : Nat} {k : Int} {te : DE} {X : XF} {N : DN} {ρ : List Sl} : dStI i k te X N ρ = te X ρ (kk fun d κ ρ1 => κ ≠ .bo ∧ owAt ρ1 i (kk fun ds => ∃ j, ixN ds.length k = some j ∧ N.nx (ρ1.set i (.ow (ds.set j d))))) := rfl
section
variable {X : Cx} {Ts : AP} {W : WX} {e : Expr} {te : DE} {i : Nat} {k : Int} {x : Str} {iq : Nat} {p ip sp pos : Pos}
theorem ds_stI (hN : X.N[i]? = some x) (hv : Vis X.env.scope x) (he : PE X e (upE X.K Ts W te)) (hd : (x == ("__debug__" : Str)) = false := by decide) (hcd : (x == ("__classdict__" : Str)) = false := by decide)
    (hs : swapsWithSole [.Subscript (.Name x p) (.Constant (.int k) iq ip) sp] e pos.line X.env = pure false := by rfl) (hw : swappedStores [.Subscript (.Name x p) (.Constant (.int k) iq ip) sp] e X.env = pure none := by rfl)
    (h1 : (assignEach [.Subscript (.Name x p) (.Constant (.int k) iq ip) sp] X.env).map (·.2) = [assign (.Subscript (.Name x p) (.Constant (.int k) iq ip) sp) X.env] := by rfl) :
    PS X (.Assign [.Subscript (.Name x p) (.Constant (.int k) iq ip) sp] e pos) (upS X.K Ts W (dStI i k te)) := by
  refine (ps_asg he (pg_sub (pe_var hN hv hd hcd) pe_int set_list) hs hw h1).imp fun E σ H h => ?_
  obtain ⟨A, O, ρ, Xf, N, m, h, c⟩ := h
  refine ⟨A, O, ρ, Xf, _, m, h, fun d κ ρ1 v H1 A1 O1 q s1 t1 m1 r1 => ?_, fun x ρ' cls od H' A' O' => c.x x ρ' cls od σ H' A' O'⟩
  obtain ⟨nb, q⟩ := q
  obtain ⟨ds, e1, j, hj, q⟩ := q.get
  obtain ⟨a, vs, g1, g2, g3, g4⟩ := m1.ow i ds e1
  obtain ⟨m2, t2⟩ := m1.put (es := ds.set j d) (vs := vs.set j v) e1 g1 g3 g2 (g4.set (r1.rp nb) j)
  exact ⟨_, g1, a, vs, k, j, rfl, rfl, g3, by rw [← g4.len]; exact hj, c.nx _ σ _ _ _ q (t1.trans t2 m.trk) m2⟩
end
/-! ### statement by statement -/
def kS {α : Sort _} (a : α) (_ : Tag a := ⟨⟩) : α := a
theorem kS_e {β : Sort _} (f : List Sl → β) (t : Tag f) (a : List Sl) : kS f t a = f a := rfl
section
variable {X : XF} {N : DN} {ρ : List Sl} {t u r : DS} {c : DT}
theorem dSeq_st : dSeq t u X N ρ = t X { N with nx := kS (u X N) } ρ := rfl
/-- an if with truth B behind which the slots keep I -/
theorem ifJ (B : Bool) (I : List Sl → Prop) {D : DN} (hc : ∀ R : Bool → List Sl → Prop, R B ρ → c X ρ R) (h1 : ∀ k : List Sl → Prop, (∀ ρ', I ρ' → k ρ') → B = true → t X ⟨k, D.rt, D.bk, D.ct⟩ ρ) (h2 : ∀ k : List Sl → Prop, (∀ ρ', I ρ' → k ρ') → B = false → u X ⟨k, D.rt, D.bk, D.ct⟩ ρ)
    (hn : ∀ ρ', I ρ' → D.nx ρ') : dIfS c t u X D ρ := by
  refine hc _ ?_
  cases B with
  | true => exact h1 D.nx hn rfl
  | false => exact h2 D.nx hn rfl
end
end DL

-- part DL9
set_option Elab.async false
set_option linter.all false
set_option maxRecDepth 100000
set_option maxHeartbeats 2000000
/-! isinstance of a built-in class; properties; exceptions with one field -/
namespace DL
open PySem PySem.Spec PyProof.Rows L2 GxR GS GA GD
/-! ### isinstance(x, T) -/
def tyD : D → Option String
  | .non => some "NoneType" | .bl _ => some "bool" | .int _ => some "int" | .str _ => some "str"
  | .lst _ => some "list" | .tup _ => some "tuple" | .scr _ => some "list" | .dct .. => some "dict" | .ins .. => none | .xc .. => none | .xn _ => none
def isD (T : String) (d : D) : Option Bool := (tyD d).bind fun t => kitB t T
theorem tyX_sqt {K : PySem.W.Frag} {H : Hp} {a : Addr} {vs : List V} (h : SqT K H a vs) : TyX K H (.ref a) (.type "tuple") := by
  rcases h with (h | ⟨o, h⟩) | ⟨o, its, n, h, e, _⟩
  · exact .base (.tup h)
  · exact .fTuple h
  · exact .kTuple h e
theorem tyX_sql {K : PySem.W.Frag} {H : Hp} {a : Addr} {vs : List V} (h : SqL K H a vs) : TyX K H (.ref a) (.type "list") := by
  rcases h with (h | ⟨o, h⟩) | ⟨o, its, n, h, e, _⟩
  · exact .base (.lst h)
  · exact .base (.frz h)
  · exact .kList h e
theorem tyX_of {K : PySem.W.Frag} {H : Hp} {A : AP} {d : D} {v : V} {t : String} (e : tyD d = some t) (h : Wk K H A d v) : TyX K H v (.type t) := by
  cases d with
  | non => cases e; rw [h.non]; exact .base .non
  | bl b => cases e; rw [h.bl]; exact .base (.bl b)
  | int i => cases e; rw [h.int]; exact .base (.int i)
  | str s => cases e; rw [h.str]; exact .base (.str s)
  | lst xs => cases e; obtain ⟨a, vs, rfl, h1, _⟩ := h.lst; exact .base (.lst h1)
  | tup xs => cases e; obtain ⟨a, vs, rfl, h1, _⟩ := h.tup; exact tyX_sqt h1
  | scr ns => cases e; obtain ⟨a, rfl, h1⟩ := h.scr; exact tyX_sql h1.sq
  | dct ks xs => cases e; have h : Rp K H A (.dct ks xs) v := h; unfold Rp at h; obtain ⟨a, vs, rfl, h1, _⟩ := h; exact .base (.dK h1)
  | ins C ns xs => cases e
  | xc a dd f z => cases e
  | xn a => cases e
def dIsi (T : String) (te : DE) : DE := fun X ρ Q => te X ρ fun d _ ρ1 => oK (isD T d) fun b => Q (.bl b) .sh ρ1
theorem dIsi_ev {T : String} {te : DE} {X : XF} {ρ : List Sl} {Q : D → Kd → List Sl → Prop} : dIsi T te X ρ Q = te X ρ (kk fun d _ ρ1 => oK (isD T d) (kk fun b => Q (.bl b) .sh ρ1)) := rfl
section
variable {X : Cx} {Ts : AP} {W : WX} {e o : Expr} {te to : DE} {p p2 pos : Pos}
theorem de_isi {x : Str} {T : String} (hg : Gl X "isinstance") (hm : X.mg "isinstance" = none) (hv : bootBuiltins "isinstance" = some (.builtin "isinstance")) (gx : Gl X x) (mx : X.mg x = none) (vx : bootBuiltins x = some (.type T)) (he : PE X e (upE X.K Ts W te)) (hn : x ≠ "__name__" := by decide) (hd : (x == ("__debug__" : Str)) = false := by decide)
    (hs : starEach [e, .Name x p2] X.env = (false, eval e X.env) :: starEach [.Name x p2] X.env := by rfl) (hs2 : starEach [.Name x p2] X.env = (false, eval (.Name x p2) X.env) :: starEach [] X.env := by rfl) (hb : (backTo pos (starEach [.Name x p2] X.env)).any (·.1) = false := by rfl) (hb2 : (backTo pos (starEach [] X.env)).any (·.1) = false := by rfl) :
    PE X (.Call (.Name "isinstance" p) [e, .Name x p2] [] pos) (upE X.K Ts W (dIsi T te)) := by
  refine (pe_callB call_isi hg hm hv (pa_cons he (pa_cons (pe_bltn (v := .ty T) gx mx vx rfl hn hd) pa_nil hs2) hs) (by decide) (by decide) hs hb).imp fun σ H Q h => ?_
  obtain ⟨A, O, ρ, Xf, Qd, m, h, c⟩ := h
  refine ⟨A, O, ρ, Xf, _, m, h, fun d κ ρ1 v H1 A1 O1 h1 s1 t1 m1 r1 => ?_, c.x⟩
  obtain ⟨b, eb, h1⟩ := h1.get
  unfold isD at eb
  cases et : tyD d with
  | none => rw [et] at eb; cases eb
  | some t =>
    rw [et] at eb
    exact ⟨v, .ty T, .type t, .type T, b, rfl, .ty T, tyX_of et r1.wk, kit_ty eb, (c.move s1 t1 m).flat m1 h1 (by unfold Rp; rfl)⟩
end
theorem is_ss {s : Str} : isD "str" (.str s) = some true := by show kitB "str" "str" = _; decide +kernel
theorem is_sl {ds : List D} : isD "str" (.lst ds) = some false := by show kitB "list" "str" = _; decide +kernel
theorem is_st {ds : List D} : isD "str" (.tup ds) = some false := by show kitB "tuple" "str" = _; decide +kernel
theorem is_bb {b : Bool} : isD "bool" (.bl b) = some true := by show kitB "bool" "bool" = _; decide +kernel
/-! ### properties that let nothing out -/
def dProp (C : Str) (φ : Ph) (to : DE) : DE := fun X ρ Q => to X ρ fun d κ ρ1 => κ = .sh ∧ match d with
  | .ins C' ns xs => C' = C ∧ φ [.ins C' ns xs] (fun z => Q z .sh ρ1) fun _ => False
  | _ => False
def prK (C : Str) (φ : Ph) (d : D) (κ : Kd) (Q : D → Prop) : Prop := κ = .sh ∧ match d with
  | .ins C' ns xs => C' = C ∧ φ [.ins C' ns xs] Q fun _ => False
  | _ => False
theorem prK_i {C C' : Str} {φ : Ph} {ns : List Str} {xs : List D} {Q : D → Prop} : prK C φ (.ins C' ns xs) .sh Q = (C' = C ∧ φ [.ins C' ns xs] Q fun _ => False) := by unfold prK; simp
theorem dProp_ev {C : Str} {φ : Ph} {to : DE} {X : XF} {ρ : List Sl} {Q : D → Kd → List Sl → Prop} : dProp C φ to X ρ Q = to X ρ (kk fun d κ ρ1 => prK C φ d κ (kk fun z => Q z .sh ρ1)) := by
  show to X ρ _ = to X ρ _
  congr 1
section
variable {X : Cx} {Ts : AP} {W : WX} {e o : Expr} {te to : DE} {p p2 pos : Pos} {k : Nat} {fd : FuncData} {ps : List Str} {φ : Ph}
theorem de_prop {C f' : Str} {pa g : Addr} (he : PE X o (upE X.K Ts W to)) (c : Cls X.K (He.ga X.K C)) (hp : PropOf X.K (He.ga X.K C) f' pa g) (F : FnOk X.prog X.w X.K X.mg X.base (L2.CX X.prog X.w) k g fd ps (spD X.K Ts 1 φ)) (hr : Room (k + 1) X.A) (hb : Binds X.K fd ps [])
    (hab : attributeBase o f' X.env (eval o X.env) = eval o X.env := by rfl) : PE X (.Attribute o f' pos) (upE X.K Ts W (dProp C φ to)) := by
  refine (pe_prop he c hp (quiet F) hr hb .nil pass0 hab).imp fun σ H Q h => ?_
  obtain ⟨A, O, ρ, Xf, Qd, mm, h, cn⟩ := h
  refine ⟨A, O, ρ, Xf, _, mm, h, fun d κ ρ1 v H1 A1 O1 h1 s1 t1 m1 r1 => ?_, cn.x⟩
  obtain ⟨ek, h1⟩ := h1
  subst ek
  split at h1
  · obtain ⟨ec, h1⟩ := h1
    subst ec
    have r0 : Rp X.K H1 A1 _ v := r1
    have r2 : Rp X.K H1 A1 _ v := r0
    unfold Rp at r2
    obtain ⟨a, dx, vs, rfl, g1, _, gl, _⟩ := r2
    exact ⟨a, dx, _, rfl, g1, rfl, A1, _, _, _, m1.tab, m1.trk, RpL.cons r0 RpL.nil, h1, fun z u H2 A2 hz s2 ha r => (cn.move s1 t1 mm).sh m1 s2 hz (r.less ha), fun _ _ _ _ _ z => z.elim⟩
  · exact h1.elim
/-! ### raise C(e): C keeps one field -/
def fmtD : D → Prop
  | .str y => y.length ≤ 100000
  | .int i => 0 ≤ i ∧ i < 1000
  | _ => False
def dRaise1 (C f : Str) (te : DE) : DS := fun X N ρ => te X ρ fun d κ ρ1 => κ ≠ .bo ∧ fmtD d ∧ X ⟨C, some (f, d)⟩ ρ1
theorem dRaise1_ev {C f : Str} {te : DE} {Xf : XF} {N : DN} {ρ : List Sl} : dRaise1 C f te Xf N ρ = te Xf ρ (kk fun d κ ρ1 => κ ≠ .bo ∧ fmtD d ∧ Xf ⟨C, some (f, d)⟩ ρ1) := rfl
theorem str_len : ∀ n < 1000, (toString ((n : Nat) : Int) : Str).length ≤ 10 := by decide +kernel
theorem fmt_ok {K : PySem.W.Frag} {H : Hp} {A : AP} {d : D} {v : V} {m : Str} (hm : m.length ≤ 100) (hd : fmtD d) (r : Rp K H A d v) (a : V) :
    (fun (σ : L2.St) (H : Hp) (Q : VK) => tJs [tC (.str m), tFmt (tVar 1)] Str.empty σ H fun out H1 => Q (.str out) H1) [some a, some v] H (fun _ H' => H' = H) := by
  have e0 : (Str.empty ++ m : Str).length ≤ 100 := by
    have : (Str.empty ++ m : Str).length = m.length := by
      show (#[] ++ m.cps).size = m.cps.size
      simp
    omega
  have ap : ∀ a b : Str, (a ++ b).length = a.length + b.length := fun a b => Array.size_append
  cases d with
  | str y =>
    have ev : v = .str y := by unfold Rp at r; exact r
    have hd : y.length ≤ 100000 := hd
    refine ⟨m, rfl, by unfold sizeLine; omega, v, rfl, .inl ⟨y, ev, by unfold sizeLine; omega, y, rfl, ?_, rfl⟩⟩
    rw [ap]; unfold sizeLine; omega
  | int i =>
    have ev : v = .int i := by unfold Rp at r; exact r
    have hd : 0 ≤ i ∧ i < 1000 := hd
    obtain ⟨n, rfl⟩ : ∃ n : Nat, i = (n : Int) := ⟨i.toNat, by omega⟩
    have l := str_len n (by omega)
    have l2 : ((n : Int)).natAbs.log2 < 1920 := by
      have : ∀ n < 1000, n.log2 < 1920 := by decide +kernel
      exact this n (by omega)
    refine ⟨m, rfl, by unfold sizeLine; omega, v, rfl, .inr ⟨_, ev, l2, _, rfl, ?_, rfl⟩⟩
    rw [ap]; unfold sizeLine; omega
  | _ => exact hd.elim
theorem xd_heap' {H : Hp} {a dx : Addr} {o u w z : HO} (ha : H a = none) (ne : dx ≠ a) : upd (del (upd (upd (upd H a o) dx u) a w) a) dx z = upd H dx z := by
  funext b
  by_cases h1 : b = dx
  · rw [h1, upd_same, upd_same]
  · rw [upd_ne h1, upd_ne h1]
    by_cases h2 : b = a
    · rw [h2, del_same, ha]
    · rw [del_ne h2, upd_ne h2, upd_ne h1, upd_ne h2]
/-- te' is what the def's text asks -/
theorem ds_raise1 {C f x : Str} {fI : Addr} {kx : Nat} {fdx : FuncData} {te' : TE} (hc : X.calm = true) (tk : Takes X W) (T : OexC X.K (He.ga X.K C)) (iC : PySem.W.findIn X.K (.ref (He.ga X.K C)) "__init__" = some (some (.ref fI))) (tI : PySem.W.typeIn X.K (.ref fI) = some (.type "function"))
    (F1 : FnOk X.prog X.w X.K X.mg X.base CX0 kx fI fdx ["self", x] (SU.spS (He.ga X.K C) f te')) (hte : ∀ (d : D) (v : V) (H : Hp) (A : AP) (a : V), fmtD d → Rp X.K H A d v → te' [some a, some v] H (fun _ H' => H' = H)) (hr : Room (kx + 1) X.A) (hb : Binds X.K fdx ["self", x] [])
    (hg : Gl X C) (hm : X.mg C = some (.ref (He.ga X.K C))) (he : PE X e (upE X.K Ts W te)) (hdb : (C == ("__debug__" : Str)) = false := by decide) (hs : starEach [e] X.env = (false, eval e X.env) :: starEach [] X.env := by rfl) (hpl : (backTo pos (starEach [] X.env)).any (·.1) = false := by rfl) :
    PS X (.Raise (some (.Call (.Name C p) [e] [] pos)) none p2) (upS X.K Ts W (dRaise1 C f te)) := by
  refine (ps_raise hc tk (pmk_oex (dvs := []) T iC tI F1 hr hb .nil pass0 hg hm (pa_cons he pa_nil hs) hdb hs hpl)).imp fun E σ H h => ?_
  obtain ⟨A, O, ρ, Xf, N, m, h, c⟩ := h
  refine ⟨A, O, ρ, Xf, _, m, h, fun d κ ρ1 v H1 A1 O1 h1 s1 t1 m1 r1 => ?_, fun x ρ' cls od H' A' O' => c.x x ρ' cls od σ H' A' O'⟩
  obtain ⟨nb, fd1, h1⟩ := h1
  have r := r1.rp nb
  refine ⟨by show 1 ≤ 1000; omega, fun a ha => ⟨a, v, rfl, upd_same, ?_, fun dx hd ne => ⟨rfl, dx, [(f, v)], upd_same, ?_, ?_, ?_⟩⟩⟩
  · exact hte d v _ (fun _ => False) _ fd1 ((r.less (A' := fun _ => False) fun _ z => z.elim).sm (Sm.new ha))
  · rw [upd_ne ne, upd_same]
  · rw [upd_ne ne] at hd
    exact hd
  · have hd : H1 dx = none := by rw [upd_ne ne] at hd; exact hd
    rw [xd_heap' ha ne]
    have s2 := Sm.new (o := .xd [(f, v)]) hd
    exact c.x _ ρ1 _ _ σ _ _ _ h1 (t1.trans (Tr.of s2) m.trk) (m1.sm s2) ⟨rfl, dx, v, rfl, upd_same, r.sm s2⟩
end
end DL

-- part DL10
set_option Elab.async false
set_option linter.all false
set_option maxRecDepth 100000
set_option maxHeartbeats 2000000
/-! try: .. except C as e: .., where C's instances have one field -/
namespace DL
open PySem PySem.Spec PyProof.Rows L2 GxR GS GA GD
def X0n : XF := fun _ _ => False
/-- em: whether what is raised is caught; the caught one is of C itself -/
def dTryAs (em : Str → Option Bool) (C : Str) (i : Nat) (tb : DS) (ts : Addr → Addr → DS) : DS := fun X N ρ => tb (fun x ρ1 => oK (em x.cls) fun b => if b = true then x.cls = C ∧ oK x.arg fun q => i < ρ1.length ∧ ∀ a dd, ts a dd X0n { nx := fun ρ2 => N.nx (ρ2.set i .no), rt := N.rt, bk := fun ρ2 => N.bk (ρ2.set i .no), ct := fun ρ2 => N.ct (ρ2.set i .no) } (ρ1.set i (.va (.xc a dd q.1 q.2))) else X x ρ1) N ρ
theorem dTryAs_ev {em : Str → Option Bool} {C : Str} {i : Nat} {tb : DS} {ts : Addr → Addr → DS} {X : XF} {N : DN} {ρ : List Sl} : dTryAs em C i tb ts X N ρ = tb (kk fun x ρ1 => oK (em x.cls) (kk fun b => iK b (x.cls = C ∧ oK x.arg (kk fun q => i < ρ1.length ∧ ∀ a dd, ts a dd X0n { nx := kk fun ρ2 => N.nx (ρ2.set i .no), rt := N.rt, bk := kk fun ρ2 => N.bk (ρ2.set i .no), ct := kk fun ρ2 => N.ct (ρ2.set i .no) } (ρ1.set i (.va (.xc a dd q.1 q.2))))) (X x ρ1))) N ρ := rfl
section
variable {X : Cx} {Ts : AP} {W : WX} {tb : DS} {ts : Addr → Addr → DS} {C x n : Str} {i : Nat} {em : Str → Option Bool} {body suite : List Stmt} {b₀ : Stmt} {np pos pos' : Pos}
theorem ds_tryAs (hs : X.stack = X.env :: X.outer) (hf : X.env.frame = some X.env.locals) (hN : X.N.Nodup) (hi : X.N[i]? = some n) (hln : X.env.kindOf n = some .local) (hc : Names X x (.ref (He.ga X.K C))) (tk : Takes X W)
    (hem : ∀ c b, em c = some b → PySem.W.exmOne X.K (.ref (He.ga X.K c)) (.ref (He.ga X.K C)) = some b)
    (hb : ∀ (W : WX) (pn : List (Addr × Obj)) (xe : Value → Shared → Prop), Takes (X.tr pn xe) W → PassesOwn (model X.prog X.w) X.A X.env xe → PSs (X.tr pn xe) body (upS X.K Ts W tb))
    (hsu : ∀ (a dd : Addr) (oe : Obj) (pn : List (Addr × Obj)), Zc (.ref (He.ga X.K C)) (some dd) oe → (∃ vs, oe.data = .fields vs) → PSs (X.suite a ((a, oe) :: pn)) (b₀ :: suite) (upS X.K Ts W (ts a dd))) :
    PS X (.Try body [.ExceptHandler (some (.Name x np)) (some n) (b₀ :: suite) pos'] [] [] pos) (upS X.K Ts W (dTryAs em C i tb ts)) := by
  have run := ps_try_as (np := np) (pos := pos) (pos' := pos') (Wout := W) (tb := fun W => upS X.K Ts W tb) (ts := fun a cls d E σ H => ∃ dd, cls = .ref (He.ga X.K C) ∧ d = some dd ∧ upS X.K Ts W (ts a dd) E σ H) hs hf hN hi hln hc tk hb fun a oe cls d pn hz hfd => by
    refine ⟨fun pins s σ H D I q => ?_⟩
    obtain ⟨dd, rfl, rfl, q⟩ := q
    exact (hsu a dd oe pn hz hfd).run pins s σ H D I q
  refine run.imp fun E σ H h => ?_
  obtain ⟨A, O, ρ, Xf, N, m, h, c⟩ := h
  refine ⟨A, O, ρ, _, N, m, h, ⟨c.nx, c.bk, c.ct, c.rt, fun y ρ1 cls od σ1 H1 A1 O1 hx t1 m1 r1 => ?_⟩⟩
  obtain ⟨b, eb, hx⟩ := hx.get
  have r0 := r1.1
  refine ⟨b, by rw [r0]; exact hem _ _ eb, fun hbt a ha => ?_, fun hbf => ?_⟩
  · rw [if_pos hbt] at hx
    obtain ⟨ec, hx⟩ := hx
    obtain ⟨q, eq, il, hx⟩ := hx.get
    obtain ⟨_, r2⟩ := r1
    rw [eq] at r2
    obtain ⟨dd, v, e1, e2, e3⟩ := r2
    have rx : Rp X.K H1 A1 (.xc a dd q.1 q.2) (.ref a) := by unfold Rp; exact ⟨rfl, v, e2, e3⟩
    obtain ⟨m2, t2⟩ := m1.setVa (i := i) rx
    have c2 := c.move (t1.trans t2 m.trk) m
    have back : ∀ {R : List Sl → Prop} {G : L2.St → Hp → Prop}, (∀ ρ' σ' H' A' O', R ρ' → Tr A1 (Om O1 ρ1 σ1 i) H1 A' O' H' → Mt X.K Ts H' A' O' ρ' σ' → G σ' H') → ∀ ρ' σ' H' A' O', R (ρ'.set i .no) → Tr A1 (Om O1 ρ1 σ1 i) H1 A' O' H' → Mt X.K Ts H' A' O' ρ' σ' → G (σ'.set i none) H' :=
      fun {R G} g ρ' σ' H' A' O' hr tr mt => by
        obtain ⟨n3, t3⟩ := mt.setNo (i := i) (x := none)
        exact g _ _ _ _ _ hr (tr.trans t3 m2.trk) n3
    refine ⟨dd, by rw [r0, ec], e1, A1, _, _, X0n, _, m2, hx a dd, ⟨back c2.nx, back c2.bk, back c2.ct, c2.rt, fun _ _ _ _ _ _ _ _ z => z.elim⟩⟩
  · rw [if_neg (by rw [hbf]; decide)] at hx
    exact c.x y ρ1 cls od σ1 H1 A1 O1 hx t1 m1 r1
end
/-! ### what a caught exception is asked -/
def xK (s : Sl) (a dd : Addr) (Q : Str → D → Prop) : Prop := match s with
  | .va (.xc a' dd' f z) => a' = a ∧ dd' = dd ∧ Q f z
  | _ => False
theorem xK_x {a a' dd dd' : Addr} {f : Str} {z : D} {Q : Str → D → Prop} : xK (.va (.xc a' dd' f z)) a dd Q = (a' = a ∧ dd' = dd ∧ Q f z) := rfl
/-- e.f -/
def dXf (a dd : Addr) (i : Nat) (f : Str) : DE := fun _ ρ Q => xK (sl ρ i) a dd fun g z => g = f ∧ Q z .sh ρ
theorem dXf_ev {a dd : Addr} {i : Nat} {f : Str} {X : XF} {ρ : List Sl} {Q : D → Kd → List Sl → Prop} : dXf a dd i f X ρ Q = xK (sl ρ i) a dd (kk fun g z => g = f ∧ Q z .sh ρ) := rfl
/-- isinstance(e, c), the answer is known -/
def dIsx (a dd : Addr) (i : Nat) (b : Bool) : DE := fun _ ρ Q => xK (sl ρ i) a dd fun _ _ => Q (.bl b) .sh ρ
theorem dIsx_ev {a dd : Addr} {i : Nat} {b : Bool} {X : XF} {ρ : List Sl} {Q : D → Kd → List Sl → Prop} : dIsx a dd i b X ρ Q = xK (sl ρ i) a dd (kk fun _ _ => Q (.bl b) .sh ρ) := rfl
theorem xK.get {ρ : List Sl} {i : Nat} {a dd : Addr} {Q : Str → D → Prop} (h : xK (sl ρ i) a dd Q) : ∃ f z, ρ[i]? = some (.va (.xc a dd f z)) ∧ Q f z := by
  unfold xK at h
  split at h
  · rename_i a' dd' f z e
    obtain ⟨rfl, rfl, q⟩ := h
    refine ⟨f, z, ?_, q⟩
    rw [sl_eq]
    by_cases hl : i < ρ.length
    · rw [if_pos hl, e]
    · have : sl ρ i = .no := by unfold sl; rw [List.getD_eq_getElem?_getD, List.getElem?_eq_none (by omega)]; rfl
      rw [this] at e
      cases e
  · exact h.elim
section
variable {X : Cx} {Ts : AP} {W : WX} {C f n : Str} {i : Nat} {a dd : Addr} {oe : Obj} {pn : List (Addr × Obj)} {p p2 pos : Pos}
theorem de_xf (T : XfC X.K (He.ga X.K C)) (hno : PySem.W.findIn X.K (.ref (He.ga X.K C)) f = some none) (hz : Zc (.ref (He.ga X.K C)) (some dd) oe) (hf : ∃ vs, oe.data = .fields vs) (hN : X.N[i]? = some n) (hv : Vis X.env.scope n) (hd : (n == ("__debug__" : Str)) = false := by decide) (hcd : (n == ("__classdict__" : Str)) = false := by decide)
    (hb : attributeBase (.Name n p) f X.env (eval (.Name n p) X.env) = eval (.Name n p) X.env := by rfl) :
    PE (X.suite a ((a, oe) :: pn)) (.Attribute (.Name n p) f pos) (upE X.K Ts W (dXf a dd i f)) := by
  refine (pe_xf (X := X) T hno hz hf (pe_var (X := X.suite a ((a, oe) :: pn)) hN hv hd hcd) hb).imp fun σ H Q h => ?_
  obtain ⟨A, O, ρ, Xf, Qd, m, h, c⟩ := h
  obtain ⟨g, z, e, rfl, q⟩ := xK.get h
  obtain ⟨v, e1, r⟩ := m.va i _ e
  have r0 := r
  unfold Rp at r0
  obtain ⟨rfl, w, r1, r2⟩ := r0
  refine ⟨_, e1, rfl, rfl, dd, _, w, rfl, r1, ?_, c.flat m q r2⟩
  simp [List.lookup]
theorem de_isx {ce : Expr} {cv : V} {cu : Value} {b : Bool} (E : ExcC X.K (He.ga X.K C)) (hz : Zc (.ref (He.ga X.K C)) (some dd) oe) (hf : ∃ vs, oe.data = .fields vs) (hN : X.N[i]? = some n) (hv : Vis X.env.scope n) (hg : Gl X "isinstance") (hm : X.mg "isinstance" = none) (hbt : bootBuiltins "isinstance" = some (.builtin "isinstance"))
    (hc : PE (X.suite a ((a, oe) :: pn)) ce (tC cv)) (hu : ∀ u, RelV cv u → u = cu) (hk : PySem.W.kitOne X.K (.ref (He.ga X.K C)) cu = some b) (hd : (n == ("__debug__" : Str)) = false := by decide) (hcd : (n == ("__classdict__" : Str)) = false := by decide)
    (hs : starEach [.Name n p, ce] X.env = (false, eval (.Name n p) X.env) :: starEach [ce] X.env := by rfl) (hs2 : starEach [ce] X.env = (false, eval ce X.env) :: starEach [] X.env := by rfl) (hpl : (backTo pos (starEach [ce] X.env)).any (·.1) = false := by rfl) :
    PE (X.suite a ((a, oe) :: pn)) (.Call (.Name "isinstance" p2) [.Name n p, ce] [] pos) (upE X.K Ts W (dIsx a dd i b)) := by
  refine (pe_callB (X := X.suite a ((a, oe) :: pn)) (SU.call_isF E hz hf) hg hm hbt (pa_cons (pe_var (X := X.suite a ((a, oe) :: pn)) hN hv hd hcd) (pa_cons hc pa_nil hs2) hs) (by decide) (by decide) hs hpl).imp fun σ H Q h => ?_
  obtain ⟨A, O, ρ, Xf, Qd, m, h, c⟩ := h
  obtain ⟨g, z, e, q⟩ := xK.get h
  obtain ⟨v, e1, r⟩ := m.va i _ e
  have r0 := r
  unfold Rp at r0
  obtain ⟨rfl, w, r1, r2⟩ := r0
  exact ⟨_, e1, ⟨_, r1⟩, cv, cu, b, rfl, hu, hk, c.flat m q (by unfold Rp; rfl)⟩
end
end DL
namespace DL
theorem xc_c {c : PySem.Str} {a : Option (PySem.Str × D)} : (Xc.mk c a).cls = c := rfl
theorem xc_a {c : PySem.Str} {a : Option (PySem.Str × D)} : (Xc.mk c a).arg = a := rfl
end DL
namespace DL
open PySem PySem.Spec PyProof.Rows L2 GxR GS GA GD
/-- a statement that is never reached -/
def dDead : DS := fun _ _ _ => False
theorem ds_dead {X : Cx} {Ts : AP} {W : WX} {st : Stmt} : PS X st (upS X.K Ts W dDead) := ⟨fun _ _ _ _ _ _ h => by obtain ⟨_, _, _, _, _, _, z, _⟩ := h; exact z.elim⟩
theorem code_ref {K : PySem.W.Frag} {x qual : Str} {params : Arguments} {body : List Stmt} {scope : Scope} {dvs : List V} {kws : List (Str × V)} {f : Addr} {fd : FuncData} (F : FunD K x qual params body scope dvs kws f fd) : ∃ c, fd.code = .ref c := by
  obtain ⟨oc, od, dV, kV, doc, pm, an, cdv, ct, osl, rfl, lk, hcd, _, _⟩ := F.ex
  show ∃ c, cdv = .ref c
  unfold PySem.W.codeIn at hcd
  split at hcd
  · exact ⟨_, rfl⟩
  · cases hcd
end DL
namespace DL
section
variable {X : XF} {ρ : List Sl} {t u : DS} {c : DT}
/-- as ifJ, where the test changes the slots -/
theorem ifJ1 (B : Bool) (ρ1 : List Sl) (I : List Sl → Prop) {D : DN} (hc : ∀ R : Bool → List Sl → Prop, R B ρ1 → c X ρ R) (h1 : ∀ k : List Sl → Prop, (∀ ρ', I ρ' → k ρ') → B = true → t X ⟨k, D.rt, D.bk, D.ct⟩ ρ1) (h2 : ∀ k : List Sl → Prop, (∀ ρ', I ρ' → k ρ') → B = false → u X ⟨k, D.rt, D.bk, D.ct⟩ ρ1)
    (hn : ∀ ρ', I ρ' → D.nx ρ') : dIfS c t u X D ρ := by
  refine hc _ ?_
  cases B with
  | true => exact h1 D.nx hn rfl
  | false => exact h2 D.nx hn rfl
end
end DL

-- part DL11
set_option Elab.async false
set_option linter.all false
set_option maxRecDepth 100000
set_option maxHeartbeats 2000000
/-! a, *b = list; texts: times, split, join; tables and tuples of the module; None among data -/
namespace DL
open PySem PySem.Spec PyProof.Rows L2 GxR GS GA GD PySem.W PySem.Calls
/-! ### a, *b = a list -/
section
variable {prog : Program} {w : World} {A : Around} {E : Value → Shared → Prop} {s : Shared}
theorem star_items {l : Addr} {its : Array Value} {Q : List Value → Shared → Prop} (hh : A.handled = none) (hl : s.heap.IsList l its) (h1 : 1 ≤ its.size) (hz : its.size ≤ sizeLine)
    (hQ : ∀ (h' : Heap) (tk : Nat), (∀ b o, s.heap.get? b = some o → h'.get? b = some o) → Q (its.toList.take 1 ++ [.ref h'.objs.size]) { s with heap := h'.push { cls := .type "list", data := .seq (its.toList.drop 1).toArray }, toks := tk }) :
    wpAny (model prog w) A (unpackItems (.ref l) 2 (some 1)) Q E s := by
  have lt : l < s.heap.objs.size := let ⟨o, ho, _⟩ := hl; Heap.lt_size ho
  have ne : l ≠ s.heap.objs.size := Nat.ne_of_lt lt
  unfold unpackItems
  refine wpAny_bind ?_
  unfold notIterableAtAll
  refine wpAny_bind (wpAny_specialOf hl.typeIs slot_list_iter.lookup (wpAny_pure ?_))
  simp only [Bool.false_eq_true, if_false]
  refine wpAny_bind (wpAny_holding (wpAny_pyIter_list hl (wpAny_bind (wpAny_holding (kun_draw ne 1 0 _ _ ⟨_, Heap.get?_push_size _ rfl, rfl, rfl⟩ (hl.push _) (by omega) fun g1 i1 b1 => ?_)))))
  have l1 : g1.IsList l its := (hl.push _).extBut b1.extBut ne
  rw [Nat.zero_add] at i1
  obtain ⟨oi, hi, _⟩ := id i1
  obtain ⟨ol, hol, _⟩ := id l1
  rw [List.drop_zero]
  have tl : (its.toList.take 1).length = 1 := by rw [List.length_take, Array.length_toList]; omega
  have dl : (its.toList.drop 1).length = its.size - 1 := by rw [List.length_drop, Array.length_toList]
  rw [if_neg (by omega : ¬ (its.toList.take 1).length < 1)]
  refine wpAny_bind (wpAny_holding (kun_collect (s := { s with heap := g1 }) (T := "list_iterator") (.inr (.inr (.inl rfl))) (Walks.list (A := A.in1) hh s.heap.objs.size l ne its) (fun _ _ z => z.1.typeIs) (k := 1) h1 ⟨i1, l1⟩ (Heap.lt_size hi) (Heap.lt_size hol) (fun g2 tk k2 => ?_) hz))
  show wpAny _ _ (if (its.toList.drop 1).length < 0 then _ else _) _ _ _
  rw [if_neg (by omega)]
  show wpAny _ _ (newList ((its.toList.drop 1).take ((its.toList.drop 1).length - 0)) >>= fun d => pure (its.toList.take 1 ++ [d] ++ (its.toList.drop 1).drop ((its.toList.drop 1).length - 0))) _ _ _
  rw [Nat.sub_zero, List.take_length, List.drop_length]
  refine wpAny_bind (wpAny_newList (wpAny_pure ?_) (by omega))
  rw [List.append_nil]
  exact hQ g2 tk fun b o e => k2 b o (Nat.ne_of_lt (Heap.lt_size e)) (b1.extBut b o (Nat.ne_of_lt (Heap.lt_size e)) (Heap.get?_push_of_some _ e))
end
section
variable {X : Cx} {Ts : AP} {W : WX} {e : Expr} {te : DE} {i j k : Nat} {x y : Str} {px py p2 pt pos : Pos}
def gStar (K : PySem.W.Frag) (i j : Nat) : TG := fun v σ H Q => ∃ a z xs, v = V.ref a ∧ SqL K H a (z :: xs) ∧ ∀ p, H p = none → Q ((σ.set i (some z)).set j (some (V.ref p))) (upd H p (.lst xs))
theorem pg_star (hc : X.calm = true) (hN : X.N.Nodup) (hi : X.N[i]? = some x) (hj : X.N[j]? = some y) (hx : Loc X.env.scope x) (hy : Loc X.env.scope y) (fx : X.fn x = true ∨ X.env.scope.names.lookup x = some .local) (fy : X.fn y = true ∨ X.env.scope.names.lookup y = some .local) :
    PG X (.Tuple [.Name x px, .Starred (.Name y py) p2] k pt) (gStar X.K i j) := by
  refine ⟨fun pins s σ H v u Q I r hw => ?_⟩
  obtain ⟨a, z, xs, rfl, hq, hw⟩ := hw
  cases r
  obtain ⟨its, rv, ⟨o, n, ho, hcl, hd, hdt⟩, hz⟩ := I.list hq
  have hl : s.heap.IsList a its.toArray := ⟨o, ho, hcl, n, hdt⟩
  have len : its.length = xs.length + 1 := by rw [← rv.length]; rfl
  rw [PyProof.Rows.assign_Tuple]
  refine wpAny_bind (wpAny_standAt ?_)
  unfold unpack
  show wpAny _ _ ((holding [Value.ref a] (unpackItems (.ref a) 2 (some 1))) >>= fun vs => assignInOrder _ vs) _ _ _
  refine wpAny_bind (wpAny_holding (star_items (I.ok.hd hc) hl (by rw [List.size_toArray]; omega) (by rw [List.size_toArray, ← rv.length]; exact hz) fun h' tk kp => ?_))
  have I1 : Inv X pins σ H { s with heap := h', toks := tk } := I.kept kp
  obtain ⟨u0, ur, rfl, r0, rr⟩ : ∃ u0 ur, its = u0 :: ur ∧ RelV z u0 ∧ Vals xs ur := by cases rv with | cons a b => exact ⟨_, _, rfl, a, b⟩
  have I2 := I1.lnew (t' := tk) rr (by have : (z :: xs).length ≤ sizeLine := hz; rw [List.length_cons] at this; omega)
  have P : PGs X [.Name x px, .Name y py] (gCons (gName i) (gCons (gName j) gNil)) := pgs_cons (pg_name hN hi hx fx) (pgs_cons (pg_name hN hj hy fy) pgs_nil)
  exact P.run pins _ σ _ [z, .ref h'.objs.size] [u0, .ref h'.objs.size] Q I2 (.cons r0 (.cons rfl .nil)) ⟨z, _, rfl, _, _, rfl, rfl, hw _ I1.fresh⟩
def dStarT (i j : Nat) (te : DE) : DS := fun X N ρ => te X ρ fun d κ ρ1 => κ ≠ .bo ∧ match d with
  | .lst (z :: xs) => N.nx ((ρ1.set i (.va z)).set j (.va (.lst xs)))
  | _ => False
def stK (d : D) (Q : D → List D → Prop) : Prop := match d with
  | .lst (z :: xs) => Q z xs
  | _ => False
theorem stK_l {z : D} {xs : List D} {Q : D → List D → Prop} : stK (.lst (z :: xs)) Q = Q z xs := rfl
theorem dStarT_ev {Xf : XF} {N : DN} {ρ : List Sl} : dStarT i j te Xf N ρ = te Xf ρ (kk fun d κ ρ1 => κ ≠ .bo ∧ stK d (kk fun z xs => N.nx ((ρ1.set i (.va z)).set j (.va (.lst xs))))) := by
  show te Xf ρ _ = te Xf ρ _
  congr 1
theorem ds_star (hc : X.calm = true) (hN : X.N.Nodup) (hi : X.N[i]? = some x) (hj : X.N[j]? = some y) (hx : Loc X.env.scope x) (hy : Loc X.env.scope y) (he : PE X e (upE X.K Ts W te)) (fx : X.fn x = true ∨ X.env.scope.names.lookup x = some .local := by first | exact .inl rfl | exact .inr rfl) (fy : X.fn y = true ∨ X.env.scope.names.lookup y = some .local := by first | exact .inl rfl | exact .inr rfl)
    (hs : swapsWithSole [.Tuple [.Name x px, .Starred (.Name y py) p2] k pt] e pos.line X.env = pure false := by rfl) (hw : swappedStores [.Tuple [.Name x px, .Starred (.Name y py) p2] k pt] e X.env = pure none := by rfl)
    (h1 : (assignEach [.Tuple [.Name x px, .Starred (.Name y py) p2] k pt] X.env).map (·.2) = [assign (.Tuple [.Name x px, .Starred (.Name y py) p2] k pt) X.env] := by rfl) :
    PS X (.Assign [.Tuple [.Name x px, .Starred (.Name y py) p2] k pt] e pos) (upS X.K Ts W (dStarT i j te)) := by
  refine (ps_asg he (pg_star hc hN hi hj hx hy fx fy) hs hw h1).imp fun E σ H h => ?_
  obtain ⟨A, O, ρ, Xf, N, m, h, c⟩ := h
  refine ⟨A, O, ρ, Xf, _, m, h, fun d κ ρ1 v H1 A1 O1 h1 s1 t1 m1 r1 => ?_, fun x ρ' cls od H' A' O' => c.x x ρ' cls od σ H' A' O'⟩
  obtain ⟨nb, h1⟩ := h1
  have r2 := r1.rp nb
  split at h1
  · rename_i z xs
    unfold Rp at r2
    obtain ⟨a, vs, rfl, g1, _, g2⟩ := r2
    obtain ⟨v0, vr, rfl, q1, q2⟩ := g2.uncons
    refine ⟨a, v0, vr, rfl, SqL.of g1, fun p hp => ?_⟩
    have nA : ¬ A1 p := fun z => m1.trk p z hp
    have sp := Sm.new (o := .lst vr) hp
    have m2 := m1.sm sp
    obtain ⟨m3, t3⟩ := m2.setVa (i := i) (q1.sm sp)
    obtain ⟨m4, t4⟩ := m3.setVa (i := j) (d := .lst xs) (v := .ref p) (by
      unfold Rp
      exact ⟨p, vr, rfl, upd_same, nA, q2.sm sp⟩)
    exact c.nx _ _ _ _ _ h1 (((t1.trans (Tr.of sp) m.trk).trans t3 m.trk).trans t4 m.trk) m4
  · exact h1.elim
end
/-! ### texts -/
/-- a text, n times -/
def tmS (z : Str) (n : Nat) : Str := ⟨(List.replicate n z.cps).foldl (· ++ ·) #[]⟩
theorem fold_len : ∀ (n : Nat) (c a : Array Nat), ((List.replicate n c).foldl (· ++ ·) a).size = a.size + n * c.size
  | 0, c, a => by simp
  | n + 1, c, a => by
    rw [List.replicate_succ, List.foldl_cons, fold_len n c (a ++ c), Array.size_append, Nat.succ_mul]
    omega
theorem tmS_len (z : Str) (n : Nat) : (tmS z n).length = n * z.length := by
  show ((List.replicate n z.cps).foldl (· ++ ·) #[]).size = _
  rw [fold_len]
  show 0 + n * z.cps.size = n * z.cps.size
  omega
def rTimes : R2 := fun v w H Q => ∃ (z : Str) (i : Int), v = V.str z ∧ w = V.int i ∧ 0 ≤ i ∧ i < 1000 ∧ z.length ≤ 1000 ∧ Q (.str (tmS z i.toNat)) H
theorem op_times {X : Cx} : OpR X (binaryOp .Mult) rTimes := by
  intro pins s σ H v w a b Q I ra rb h
  obtain ⟨z, n, rfl, rfl, h0, hn, hz, q⟩ := h
  obtain ⟨t, rfl⟩ := ra
  obtain ⟨u, rfl⟩ := rb
  have hb : z.length * n.toNat ≤ 1000000 := Nat.le_trans (Nat.mul_le_mul hz (by omega : n.toNat ≤ 1000)) (by omega)
  have fin : ∀ k, EP X pins σ Q (.str (tmS z n.toNat) s.toks) { s with toks := k } := fun k => ⟨.str (tmS z n.toNat), H, I.tok k, ⟨_, rfl⟩, q⟩
  have sz : (tmS z n.toNat).length ≤ sizeLine := by
    rw [tmS_len, Nat.mul_comm]
    unfold sizeLine
    omega
  refine PySem.P.mul_str (by rw [decide_eq_false (by omega : ¬ n < -(2 ^ 63)), decide_eq_false (by omega : ¬ n ≥ 2 ^ 63)]; rfl) (fun h1 _ => ?_) (fun h1 _ => ?_) ?_
  · have h3 : (z.length : Int) * n ≤ 1000000 := by
      have e : n = (n.toNat : Int) := by omega
      have h4 : ((z.length * n.toNat : Nat) : Int) ≤ ((1000000 : Nat) : Int) := Int.ofNat_le.mpr hb
      rw [Int.natCast_mul, ← e] at h4
      exact h4
    have : (z.length : Int) ≤ (2 ^ 63 - 1) / n := Int.le_ediv_of_mul_le (by omega) (by omega)
    omega
  · unfold Builtin.Str.tooLong
    exact decide_eq_false (by unfold sizeLine; omega)
  · by_cases h1 : n < 1
    · rw [if_pos h1]
      have e : n.toNat = 0 := by omega
      have e2 : tmS z n.toNat = Str.empty := by rw [e]; rfl
      rw [e2] at fin
      exact ⟨by decide, fin _⟩
    · rw [if_neg h1]
      by_cases h2 : (n == 1 || z.length == 0) = true
      · rw [if_pos h2]
        have e2 : tmS z n.toNat = z := by
          rcases Bool.or_eq_true _ _ |>.mp h2 with h2 | h2
          · have e : n.toNat = 1 := by have : n = 1 := by simpa using h2
                                       omega
            rw [e]
            show Str.mk (#[] ++ z.cps) = z
            rw [Array.empty_append]
          · have e : z.cps = #[] := by
              have hz0 : z.length = 0 := by simpa using h2
              have : z.cps.size = 0 := hz0
              exact Array.eq_empty_of_size_eq_zero this
            have l := tmS_len z n.toNat
            have : z.length = 0 := by simpa using h2
            rw [this, Nat.mul_zero] at l
            have e3 : (tmS z n.toNat).cps = #[] := Array.eq_empty_of_size_eq_zero l
            exact Str.ext' (e3.trans e.symm)
        refine ⟨.str z, H, I, ⟨_, rfl⟩, ?_⟩
        rw [e2] at q
        exact q
      · rw [if_neg h2]
        exact ⟨sz, fin _⟩
def gTimes : D → D → (D → Kd → Prop) → Prop
  | .str z, .int i, Q => 0 ≤ i ∧ i < 1000 ∧ z.length ≤ 1000 ∧ Q (.str (tmS z i.toNat)) .sh
  | _, _, _ => False
theorem gTimes_s {z : Str} {i : Int} {Q : D → Kd → Prop} : gTimes (.str z) (.int i) Q = (0 ≤ i ∧ i < 1000 ∧ z.length ≤ 1000 ∧ Q (.str (tmS z i.toNat)) .sh) := rfl
theorem dop_times {X : Cx} {Ts : AP} : DOp X Ts (binaryOp .Mult) gTimes := by
  refine ⟨_, op_times, fun W σ H A O ρ Xf Qd Q d e v w hd he m c q => ?_⟩
  unfold gTimes at q
  split at q
  · obtain ⟨h1, h2, h3, q⟩ := q
    exact ⟨_, _, hd.str, he.int, h1, h2, h3, c.flat m q Rp.str⟩
  · exact q.elim
/-- a text -/
def zK (d : D) (Q : Str → Prop) : Prop := match d with
  | .str a => Q a
  | _ => False
theorem zK_s {a : Str} {Q : Str → Prop} : zK (.str a) Q = Q a := rfl
theorem zK.get {d : D} {Q : Str → Prop} (h : zK d Q) : ∃ a, d = .str a ∧ Q a := by
  unfold zK at h
  split at h
  · exact ⟨_, rfl, h⟩
  · exact h.elim
/-- the texts of a list, a tuple -/
def ysK (d : D) (Q : List Str → Prop) : Prop := ∃ ys : List Str, (d = .lst (ys.map .str) ∨ d = .tup (ys.map .str)) ∧ Q ys
theorem ysK.mk (ys : List Str) {Q : List Str → Prop} (q : Q ys) : ysK (.lst (ys.map .str)) Q := ⟨ys, .inl rfl, q⟩
section
variable {X : Cx} {Ts : AP} {W : WX} {o e : Expr} {to te : DE} {apos pos : Pos}
/-- s.split(t) -/
def dSplit (to te : DE) : DE := fun X ρ Q => to X ρ fun d _ ρ1 => zK d fun a => te X ρ1 fun e _ ρ2 => zK e fun b => (b.length == 0) = false ∧ a.length + 2 ≤ sizeLine ∧ Q (.lst ((Txt.split a b).map .str)) .fr ρ2
theorem dSplit_ev {Xf : XF} {ρ : List Sl} {Q : D → Kd → List Sl → Prop} : dSplit to te Xf ρ Q = to Xf ρ (kk fun d _ ρ1 => zK d (kk fun a => te Xf ρ1 (kk fun e _ ρ2 => zK e (kk fun b => (b.length == 0) = false ∧ a.length + 2 ≤ sizeLine ∧ Q (.lst ((Txt.split a b).map .str)) .fr ρ2)))) := rfl
theorem de_split (ho : PE X o (upE X.K Ts W to)) (he : PE X e (upE X.K Ts W te)) (hs : starEach [e] X.env = [(false, eval e X.env)] := by rfl) (hbase : attributeBase o "split" X.env (eval o X.env) = eval o X.env := by rfl) (hline : (apos.endLine == pos.line) = true := by rfl) :
    PE X (.Call (.Attribute o "split" apos) [e] [] pos) (upE X.K Ts W (dSplit to te)) := by
  refine (pe_split ho he hs hbase hline).imp fun σ H Q h => ?_
  obtain ⟨A, O, ρ, Xf, Qd, m, h, c⟩ := h
  refine ⟨A, O, ρ, Xf, _, m, h, fun d κ ρ1 v H1 A1 O1 h1 s1 t1 m1 r1 => ?_, c.x⟩
  have c1 := c.move s1 t1 m
  obtain ⟨a, rfl, h1⟩ := h1.get
  refine ⟨⟨a, r1.wk.str⟩, A1, O1, ρ1, Xf, _, m1, h1, fun z κ2 ρ2 y H2 A2 O2 h2 s2 t2 m2 r2 => ?_, c1.x⟩
  obtain ⟨b, rfl, g1, g2, g3⟩ := h2.get
  exact ⟨a, b, r1.wk.str, by rw [r2.wk.str], g1, g2, fun p hp => (c1.move s2 t2 m1).fr m2 hp g3 RpL.strs⟩
/-- s.join(texts) -/
def dJoin (to te : DE) : DE := fun X ρ Q => to X ρ fun d _ ρ1 => zK d fun a => te X ρ1 fun e _ ρ2 => ysK e fun ys => (ys.map (·.length)).sum + ys.length * a.length ≤ 16777216 ∧ Q (.str (Txt.join a ys)) .sh ρ2
theorem dJoin_ev {Xf : XF} {ρ : List Sl} {Q : D → Kd → List Sl → Prop} : dJoin to te Xf ρ Q = to Xf ρ (kk fun d _ ρ1 => zK d (kk fun a => te Xf ρ1 (kk fun e _ ρ2 => ysK e (kk fun ys => (ys.map (·.length)).sum + ys.length * a.length ≤ 16777216 ∧ Q (.str (Txt.join a ys)) .sh ρ2)))) := rfl
theorem RpL.ofStrs {K : PySem.W.Frag} {H : Hp} {A : AP} : ∀ {ys : List Str} {vs : List V}, RpL K H A (ys.map .str) vs → vs = ys.map V.str
  | [], vs, h => h.unnil
  | y :: r, vs, h => by
    obtain ⟨v, t, rfl, h1, h2⟩ := h.uncons
    unfold Rp at h1
    rw [h1, RpL.ofStrs h2]
    rfl
theorem de_join (ho : PE X o (upE X.K Ts W to)) (he : PE X e (upE X.K Ts W te)) (hs : starEach [e] X.env = [(false, eval e X.env)] := by rfl) (hbase : attributeBase o "join" X.env (eval o X.env) = eval o X.env := by rfl) (hline : (apos.endLine == pos.line) = true := by rfl) :
    PE X (.Call (.Attribute o "join" apos) [e] [] pos) (upE X.K Ts W (dJoin to te)) := by
  refine (pe_m1 F.slot_str_join F.type_str_join mt_join ho he hs hbase hline).imp fun σ H Q h => ?_
  obtain ⟨A, O, ρ, Xf, Qd, m, h, c⟩ := h
  refine ⟨A, O, ρ, Xf, _, m, h, fun d κ ρ1 v H1 A1 O1 h1 s1 t1 m1 r1 => ?_, c.x⟩
  have c1 := c.move s1 t1 m
  obtain ⟨a, rfl, h1⟩ := h1.get
  refine ⟨⟨a, r1.wk.str⟩, A1, O1, ρ1, Xf, _, m1, h1, fun z κ2 ρ2 y H2 A2 O2 h2 s2 t2 m2 r2 => ?_, c1.x⟩
  obtain ⟨ys, hz, g1, g2⟩ := h2
  have c2 := c1.move s2 t2 m1
  rcases hz with rfl | rfl
  · obtain ⟨p, vs, rfl, q1, q2⟩ := r2.wk.lst
    exact ⟨a, p, ys, r1.wk.str, rfl, .inl (by rw [← RpL.ofStrs q2]; exact SqL.of q1), g1, c2.flat m2 g2 Rp.str⟩
  · obtain ⟨p, vs, rfl, q1, q2⟩ := r2.wk.tup
    exact ⟨a, p, ys, r1.wk.str, rfl, .inr (by rw [← RpL.ofStrs q2]; exact q1), g1, c2.flat m2 g2 Rp.str⟩
end
/-! ### tables and tuples of the module -/
section
variable {X : Cx} {Ts : AP} {W : WX} {e : Expr} {te : DE} {x : Str} {p pos : Pos} {a : Addr} {kvs : List (Str × Int)}
def dInTab (kvs : List (Str × Int)) (te : DE) : DE := fun X ρ Q => te X ρ fun d _ ρ1 => zK d fun z => Q (.bl (kvs.lookup z).isSome) .sh ρ1
theorem dInTab_ev {Xf : XF} {ρ : List Sl} {Q : D → Kd → List Sl → Prop} : dInTab kvs te Xf ρ Q = te Xf ρ (kk fun d _ ρ1 => zK d (kk fun z => Q (.bl (kvs.lookup z).isSome) .sh ρ1)) := rfl
theorem de_inTab (LK : KLook X.K X.w a kvs) (hg : Gl X x) (hm : X.mg x = some (.ref a)) (he : PE X e (upE X.K Ts W te)) (hd : (x == ("__debug__" : Str)) = false := by decide) (hk : behindInMarks .In (.Name x p) = false := by rfl) : PE X (.Compare e [.In] [.Name x p] pos) (upE X.K Ts W (dInTab kvs te)) := by
  refine (pe_cmpR op_inK he (pe_glob (v := .ref a) hg hm rfl hd) hk).imp fun σ H Q h => ?_
  obtain ⟨A, O, ρ, Xf, Qd, m, h, c⟩ := h
  refine ⟨A, O, ρ, Xf, _, m, h, fun d κ ρ1 v H1 A1 O1 h1 s1 t1 m1 r1 => ?_, c.x⟩
  obtain ⟨z, rfl, h1⟩ := h1.get
  exact ⟨a, z, _, r1.wk.str, rfl, (LK z).2, (c.move s1 t1 m).flat m1 h1 Rp.bl⟩
def dIxTab (kvs : List (Str × Int)) (te : DE) : DE := fun X ρ Q => te X ρ fun d _ ρ1 => zK d fun z => oK (kvs.lookup z) fun i => Q (.int i) .sh ρ1
theorem dIxTab_ev {Xf : XF} {ρ : List Sl} {Q : D → Kd → List Sl → Prop} : dIxTab kvs te Xf ρ Q = te Xf ρ (kk fun d _ ρ1 => zK d (kk fun z => oK (kvs.lookup z) (kk fun i => Q (.int i) .sh ρ1))) := rfl
theorem de_ixTab (LK : KLook X.K X.w a kvs) (hg : Gl X x) (hm : X.mg x = some (.ref a)) (he : PE X e (upE X.K Ts W te)) (hs : PlainIx e) (hd : (x == ("__debug__" : Str)) = false := by decide) : PE X (.Subscript (.Name x p) e pos) (upE X.K Ts W (dIxTab kvs te)) := by
  refine (pe_ix ix_kdict (pe_glob (v := .ref a) hg hm rfl hd) he hs).imp fun σ H Q h => ?_
  obtain ⟨A, O, ρ, Xf, Qd, m, h, c⟩ := h
  refine ⟨A, O, ρ, Xf, _, m, h, fun d κ ρ1 v H1 A1 O1 h1 s1 t1 m1 r1 => ?_, c.x⟩
  obtain ⟨z, rfl, h1⟩ := h1.get
  obtain ⟨i, ei, h1⟩ := oK.get h1
  exact ⟨a, z, .int i, rfl, r1.wk.str, (LK z).1 i ei, (c.move s1 t1 m).flat m1 h1 Rp.int⟩
theorem de_tupG {ss : List Str} (hB : ∀ H, SqT X.K H a (ss.map V.str)) (hg : Gl X x) (hm : X.mg x = some (.ref a)) (hd : (x == ("__debug__" : Str)) = false := by decide) : PE X (.Name x pos) (upE X.K Ts W (dC (.tup (ss.map .str)))) :=
  de_glob (v := .ref a) hg hm rfl (fun H A => Rp.tup (hB H) RpL.strs) hd
end
/-! ### x in data -/
def gInD (d e : D) (Q : D → Kd → Prop) : Prop := match e with
  | .lst ds => shp d = true ∧ shp (.lst ds) = true ∧ Q (.bl (ds.any fun z => eqD z d)) .sh
  | _ => False
theorem gInD_l {d : D} {ds : List D} {Q : D → Kd → Prop} : gInD d (.lst ds) Q = (shp d = true ∧ shp (.lst ds) = true ∧ Q (.bl (ds.any fun z => eqD z d)) .sh) := rfl
theorem pdL_map : ∀ ds : List D, pdL ds = ds.map pd
  | [] => by unfold pdL; rfl
  | d :: r => by unfold pdL; rw [pdL_map r]; rfl
theorem dop_inD {X : Cx} {Ts : AP} (hu : X.A.units + 65 < cLine) : DOp X Ts (compareOp .In) gInD := by
  refine ⟨_, op_inD hu, fun W σ H A O ρ Xf Qd Q d e v w hd he m c q => ?_⟩
  unfold gInD at q
  split at q
  · rename_i ds
    obtain ⟨h1, h2, q⟩ := q
    have e2 : (pdL ds).any (fun z => PyData.eqv z (pd d)) = ds.any fun z => eqD z d := by
      rw [pdL_map, List.any_map]
      rfl
    have s2 := shaped_of h2
    have d2 := he.dp (He.ba h2).1
    unfold pd at s2 d2
    refine ⟨pd d, pdL ds, hd.dp (He.ba h1).1, d2, shaped_of h1, s2, ?_⟩
    rw [e2]
    exact c.flat m q Rp.bl
  · exact q.elim
theorem units65 {k : Nat} {A : Around} (r : Room k A) : A.units + 65 < cLine := by have := r.un; omega
theorem is_tt {ds : List D} : isD "tuple" (.tup ds) = some true := by show kitB "tuple" "tuple" = _; decide +kernel
theorem is_ll {ds : List D} : isD "list" (.lst ds) = some true := by show kitB "list" "list" = _; decide +kernel
theorem is_tn : isD "tuple" .non = some false := by show kitB "NoneType" "tuple" = _; decide +kernel
theorem is_bn : isD "bool" .non = some false := by show kitB "NoneType" "bool" = _; decide +kernel
/-! ### a sign in a text; a op b op c; a text of the module -/
def gInS (d e : D) (Q : D → Kd → Prop) : Prop := zK e fun z => ∃ c : Nat, d = .str ⟨#[c]⟩ ∧ Q (.bl (decide (c ∈ z.cps.toList))) .sh
def gNinS (d e : D) (Q : D → Kd → Prop) : Prop := zK e fun z => ∃ c : Nat, d = .str ⟨#[c]⟩ ∧ Q (.bl (!decide (c ∈ z.cps.toList))) .sh
theorem inS_i {c : Nat} {P : Nat → Prop} : (∃ b : Nat, D.str ⟨#[c]⟩ = .str ⟨#[b]⟩ ∧ P b) = P c := propext ⟨fun ⟨b, e, h⟩ => by cases e; exact h, fun h => ⟨c, rfl, h⟩⟩
theorem gInS_s {c : Nat} {z : Str} {Q : D → Kd → Prop} : gInS (.str ⟨#[c]⟩) (.str z) Q = Q (.bl (decide (c ∈ z.cps.toList))) .sh := inS_i (P := fun c => Q (.bl (decide (c ∈ z.cps.toList))) .sh)
theorem gNinS_s {c : Nat} {z : Str} {Q : D → Kd → Prop} : gNinS (.str ⟨#[c]⟩) (.str z) Q = Q (.bl (!decide (c ∈ z.cps.toList))) .sh := inS_i (P := fun c => Q (.bl (!decide (c ∈ z.cps.toList))) .sh)
section
variable {X : Cx} {Ts : AP} {W : WX} {a b c : Expr} {ta tb tc : DE} {x : Str} {pos : Pos}
theorem dop_inS : DOp X Ts (compareOp .In) gInS := ⟨_, op_in_sign, fun W σ H A O ρ Xf Qd Q d e v w hd he m c q => by
  obtain ⟨z, rfl, k, rfl, q2⟩ := zK.get q
  exact ⟨k, z, hd.str, he.str, c.flat m q2 Rp.bl⟩⟩
theorem dop_ninS : DOp X Ts (compareOp .NotIn) gNinS := ⟨_, op_notIn_sign, fun W σ H A O ρ Xf Qd Q d e v w hd he m c q => by
  obtain ⟨z, rfl, k, rfl, q2⟩ := zK.get q
  exact ⟨k, z, hd.str, he.str, c.flat m q2 Rp.bl⟩⟩
def chK (z : D) (P R : Prop) (_ : Tag P := ⟨⟩) (_ : Tag R := ⟨⟩) : Prop := match z with
  | .bl true => P
  | .bl false => R
  | _ => False
theorem chK_b {k : Bool} {P R : Prop} (s : Tag P) (u : Tag R) : chK (.bl k) P R s u = iK k P R s u := by cases k <;> rfl
def dChn (g g' : D → D → (D → Kd → Prop) → Prop) (ta tb tc : DE) : DT := fun X ρ Q => ta X ρ fun d _ ρ1 => tb X ρ1 fun e _ ρ2 => g d e fun z _ => chK z (tc X ρ2 fun f _ ρ3 => g' e f fun y _ => tK y fun b => Q b ρ3) (Q false ρ2)
theorem dChn_ev {g g' : D → D → (D → Kd → Prop) → Prop} {Xf : XF} {ρ : List Sl} {Q : Bool → List Sl → Prop} : dChn g g' ta tb tc Xf ρ Q = ta Xf ρ (kk fun d _ ρ1 => tb Xf ρ1 (kk fun e _ ρ2 => g d e (kk fun z _ => chK z (tc Xf ρ2 (kk fun f _ ρ3 => g' e f (kk fun y _ => tK y (kk fun b => Q b ρ3)))) (Q false ρ2)))) := rfl
theorem dt_chain {op op' : CmpOp} {g g' : D → D → (D → Kd → Prop) → Prop} (ho : DOp X Ts (compareOp op) g) (ho' : DOp X Ts (compareOp op') g') (ha : PE X a (upE X.K Ts W ta)) (hb : PE X b (upE X.K Ts W tb)) (hc : PE X c (upE X.K Ts W tc)) (hm : lastMarks [op, op'] [b, c] = false := by with_unfolding_all rfl) :
    PT X (.Compare a [op, op'] [b, c] pos) (upT X.K Ts W (dChn g g' ta tb tc)) := by
  obtain ⟨r, h1, h2⟩ := ho
  obtain ⟨r', h1', h2'⟩ := ho'
  refine (pt_chain h1 h1' ha hb hc hm).imp fun σ H Q h => ?_
  obtain ⟨A, O, ρ, Xf, Qd, m, h, cn⟩ := h
  refine ⟨A, O, ρ, Xf, _, m, h, fun d κ ρ1 v H1 A1 O1 q1 s1 t1 m1 r1 => ?_, cn.x⟩
  have c1 := cn.move s1 t1 m
  refine ⟨A1, O1, ρ1, Xf, _, m1, q1, fun e κ2 ρ2 u H2 A2 O2 q2 s2 t2 m2 r2 => ?_, c1.x⟩
  have c2 := c1.move s2 t2 m1
  have wd := r1.wk.tr s2 t2 m1.sub
  refine h2 W σ H2 A2 O2 ρ2 Xf (fun z κ ρ3 => ρ3 = ρ2 ∧ chK z (tc Xf ρ2 fun f _ ρ3 => g' e f fun y _ => tK y fun b => Qd b ρ3) (Qd false ρ2)) _ d e v u wd r2.wk m2 ⟨fun z κ3 ρ3 w H3 A3 O3 q3 s3 t3 m3 r3 => ?_, fun x ρ' cls od H' A' O' => c2.x x ρ' cls od H' A' O'⟩ ?_
  · obtain ⟨rfl, q3⟩ := q3
    have c3 := c2.move s3 t3 m2
    unfold chK at q3
    split at q3
    · refine ⟨true, r3.bl, ?_⟩
      refine ⟨A3, O3, ρ3, Xf, _, m3, q3, fun f κ4 ρ4 y H4 A4 O4 q4 s4 t4 m4 r4 => ?_, c3.x⟩
      have c4 := c3.move s4 t4 m3
      have we := (r2.wk.tr s3 t3 m2.sub).tr s4 t4 m3.sub
      refine h2' W σ H4 A4 O4 ρ4 Xf (fun y κ ρ5 => ρ5 = ρ4 ∧ tK y fun b => Qd b ρ4) _ e f u y we r4.wk m4 ⟨fun z κ5 ρ5 w5 H5 A5 O5 q5 s5 t5 m5 r5 => ?_, fun x ρ' cls od H' A' O' => c4.x x ρ' cls od H' A' O'⟩ ?_
      · obtain ⟨rfl, q5⟩ := q5
        unfold tK at q5
        split at q5
        · exact ⟨_, r5.bl, c4.q _ _ _ _ _ q5 s5 t5 m5⟩
        · exact q5.elim
      · have e : (fun (y : D) (κ : Kd) => ρ4 = ρ4 ∧ tK y fun b => Qd b ρ4) = fun y _ => tK y fun b => Qd b ρ4 := by funext y κ; simp
        show g' _ _ (fun (y : D) (κ : Kd) => ρ4 = ρ4 ∧ tK y fun b => Qd b ρ4)
        rw [e]
        exact q4
    · exact ⟨false, r3.bl, false, rfl, c3.q _ _ _ _ _ q3 Sm.refl Tr.refl m3⟩
    · exact q3.elim
  · have e0 : (fun (z : D) (κ : Kd) => ρ2 = ρ2 ∧ chK z (tc Xf ρ2 fun f _ ρ3 => g' e f fun y _ => tK y fun b => Qd b ρ3) (Qd false ρ2)) = fun z _ => chK z (tc Xf ρ2 fun f _ ρ3 => g' e f fun y _ => tK y fun b => Qd b ρ3) (Qd false ρ2) := by funext y κ; simp
    show g _ _ (fun (z : D) (κ : Kd) => ρ2 = ρ2 ∧ chK z (tc Xf ρ2 fun f _ ρ3 => g' e f fun y _ => tK y fun b => Qd b ρ3) (Qd false ρ2))
    rw [e0]
    exact q2
/-- a text of the module -/
theorem de_strG {z : Str} (hm : ∃ t, X.mg x = some (.str z t)) (hg : Gl X x) (hd : (x == ("__debug__" : Str)) = false := by decide) : PE X (.Name x pos) (upE X.K Ts W (dC (.str z))) := by
  obtain ⟨t, hm⟩ := hm
  exact de_glob (v := .str z) hg hm ⟨t, rfl⟩ (fun H A => Rp.str) hd
end
end DL

-- part DL12
set_option Elab.async false
set_option linter.all false
set_option maxRecDepth 100000
set_option maxHeartbeats 2000000
/-! replace by written texts where a token is out; the place of a value in a list -/
namespace DL
open PySem PySem.Spec PyProof.Rows L2 GxR GS GA GD PySem.W PySem.Calls CwR
/-- e answers, and a token is out behind it -/
def PEO (X : Cx) (e : Expr) (t : TE) : Prop := ∀ (pins : List (Addr × Obj)) (s : Shared) (σ : L2.St) (H : Hp) (Q : VK), Inv X pins σ H s → t σ H Q → wpAny (model X.prog X.w) X.A (eval e X.env) (fun v s1 => 1 ≤ s1.toks ∧ EP X pins σ Q v s1) X.xe s
section
variable {X : Cx} {a b e : Expr} {es : List Expr} {ta tb te : TE} {tr : TA} {c : Str} {j : Nat} {p pos : Pos}
theorem PEO.imp {t t' : TE} (h : PEO X e t) (i : ∀ σ H Q, t' σ H Q → t σ H Q) : PEO X e t' := fun pins s σ H Q I q => h pins s σ H Q I (i σ H Q q)
theorem PET.imp {t t' : TE} (h : PET X e t) (i : ∀ σ H Q, t' σ H Q → t σ H Q) : PET X e t' := fun pins s σ H Q h0 I q => h pins s σ H Q h0 I (i σ H Q q)
theorem PAT.imp {t t' : TA} (h : PAT X es t) (i : ∀ σ H Q, t' σ H Q → t σ H Q) : PAT X es t' := fun pos pins s σ H Q h0 I q => h pos pins s σ H Q h0 I (i σ H Q q)
theorem peo_binR {op : Operator} {r : R2} (ho : OpR X (binaryOp op) r) (ha : PE X a ta) (hb : ∀ σ H Q, tb σ H Q → Q (V.str c) H) : PEO X (.BinOp a op (.Constant (.str c) j p) pos) (tOp r ta tb) := by
  intro pins s σ H Q I h
  refine wpAny_BinOp (thn (ha.run pins s σ H _ I h) fun v s1 ⟨x, H1, I1, r1, q1⟩ => Calls.Constant_str ?_)
  refine wpAny_mono (PySem.wpAny_toks (ho pins { s1 with toks := s1.toks + 1 } σ H1 x (.str c) v _ Q (I1.tok _) r1 ⟨_, rfl⟩ (hb _ _ _ q1))) (fun v s2 q => ⟨?_, q.2⟩) fun _ _ z => z.2
  have hk : s1.toks + 1 ≤ s2.toks := q.1
  omega
theorem peo_binL {op : Operator} {r : R2} (ho : OpR X (binaryOp op) r) (ha : ∀ σ H Q, ta σ H Q → Q (V.str c) H) (hb : PE X b tb) : PEO X (.BinOp (.Constant (.str c) j p) op b pos) (tOp r ta tb) := by
  intro pins s σ H Q I h
  refine wpAny_BinOp (Calls.Constant_str ?_)
  have I0 : Inv X pins σ H { s with toks := s.toks + 1 } := I.tok _
  refine wpAny_mono (PySem.wpAny_toks (hb.run pins { s with toks := s.toks + 1 } σ H _ I0 (ha _ _ _ h))) (fun u s2 q => ?_) fun _ _ z => z.2
  obtain ⟨hk, y, H2, I2, r2, q2⟩ := q
  refine wpAny_mono (PySem.wpAny_toks (ho pins s2 σ H2 (.str c) y _ u Q I2 ⟨_, rfl⟩ r2 q2)) (fun v s3 q => ⟨?_, q.2⟩) fun _ _ z => z.2
  have hk1 : s.toks + 1 ≤ s2.toks := hk
  have hk2 : s2.toks ≤ s3.toks := q.1
  omega
theorem pa_consO (he : PEO X e te) (hr : PAT X es tr) (hs : starEach (e :: es) X.env = (false, eval e X.env) :: starEach es X.env := by rfl) : PA X (e :: es) (tCons te tr) := by
  refine ⟨fun pos pins s σ H Q I h => ?_⟩
  rw [hs]
  show wpAny _ _ (spliced ((false, eval e X.env) :: backTo pos (starEach es X.env))) _ _ s
  exact Calls.spliced_cons (wpAny_mono (he pins s σ H _ I h) (fun v s1 ⟨hk, x, H1, I1, r1, q1⟩ => thn (hr pos pins s1 σ H1 _ hk I1 q1) fun us s2 ⟨xs, H2, I2, r2, q2⟩ => ⟨x :: xs, H2, I2, .cons r1 r2, q2⟩) fun _ _ z => z)
end
section
variable {X : Cx} {Ts : AP} {W : WX} {a b e o : Expr} {es : List Expr} {ta tb te to : DE} {tr : DA} {c y z : Str} {j k : Nat} {p c0 c1 apos pos : Pos}
theorem up_cons {σ : L2.St} {H : Hp} {Q : List V → Hp → Prop} (h : upA X.K Ts W (dCons te tr) σ H Q) : tCons (upE X.K Ts W te) (upA X.K Ts W tr) σ H Q := by
  obtain ⟨A, O, ρ, Xf, Qd, m, h, c⟩ := h
  refine ⟨A, O, ρ, Xf, _, m, h, fun d κ ρ1 v H1 A1 O1 h1 s1 t1 m1 r1 => ?_, c.x⟩
  have c1 := c.move s1 t1 m
  refine ⟨A1, O1, ρ1, Xf, _, m1, h1.2, fun ds ρ2 vs H2 A2 O2 h2 s2 t2 m2 r2 => ?_, c1.x⟩
  exact c1.q _ ρ2 _ H2 A2 O2 h2 s2 t2 m2 (RpL.cons ((r1.rp h1.1).tr t2 m1.sub) r2)
theorem up_str {σ : L2.St} {H : Hp} {Q : VK} (h : upE X.K Ts W (dC (.str c)) σ H Q) : Q (V.str c) H := by
  obtain ⟨A, O, ρ, Xf, Qd, m, h, c⟩ := h
  exact c.flat m h Rp.str
theorem dat_nil : PAT X [] (upA X.K Ts W dNil) := fun pos pins s σ H Q _ I h => da_nil.run pos pins s σ H Q I h
theorem dat_cons (he : PET X e (upE X.K Ts W te)) (hr : PAT X es (upA X.K Ts W tr)) (hs : starEach (e :: es) X.env = (false, eval e X.env) :: starEach es X.env := by rfl) : PAT X (e :: es) (upA X.K Ts W (dCons te tr)) :=
  PAT.imp (pat_cons he hr hs) fun _ _ _ h => up_cons h
theorem da_binR {op : Operator} {g : D → D → (D → Kd → Prop) → Prop} (ho : DOp X Ts (binaryOp op) g) (ha : PE X a (upE X.K Ts W ta)) (hr : PAT X es (upA X.K Ts W tr)) (hs : starEach (.BinOp a op (.Constant (.str c) j p) pos :: es) X.env = (false, eval (.BinOp a op (.Constant (.str c) j p) pos) X.env) :: starEach es X.env := by rfl) : PA X (.BinOp a op (.Constant (.str c) j p) pos :: es) (upA X.K Ts W (dCons (dBin g ta (dC (.str c))) tr)) := by
  obtain ⟨r, h1, h2⟩ := ho
  exact (pa_consO (PEO.imp (peo_binR (tb := upE X.K Ts W (dC (.str c))) h1 ha fun σ H Q h => up_str h) fun σ H Q h => up_bin h2 h) hr hs).imp fun _ _ _ h => up_cons h
theorem da_binL {op : Operator} {g : D → D → (D → Kd → Prop) → Prop} (ho : DOp X Ts (binaryOp op) g) (hb : PE X b (upE X.K Ts W tb)) (hr : PAT X es (upA X.K Ts W tr)) (hs : starEach (.BinOp (.Constant (.str c) j p) op b pos :: es) X.env = (false, eval (.BinOp (.Constant (.str c) j p) op b pos) X.env) :: starEach es X.env := by rfl) : PA X (.BinOp (.Constant (.str c) j p) op b pos :: es) (upA X.K Ts W (dCons (dBin g (dC (.str c)) tb) tr)) := by
  obtain ⟨r, h1, h2⟩ := ho
  exact (pa_consO (PEO.imp (peo_binL (ta := upE X.K Ts W (dC (.str c))) h1 (fun σ H Q h => up_str h) hb) fun σ H Q h => up_bin h2 h) hr hs).imp fun _ _ _ h => up_cons h
/-- o.replace of two written texts -/
def dRepl (y z : Str) (to : DE) : DE := fun X ρ Q => to X ρ fun d _ ρ1 => zK d fun x => x.length + (x.length + 1) * z.length ≤ 16777216 ∧ Q (.str (Txt.replace x y z)) .sh ρ1
theorem dRepl_ev {Xf : XF} {ρ : List Sl} {Q : D → Kd → List Sl → Prop} : dRepl y z to Xf ρ Q = to Xf ρ (kk fun d _ ρ1 => zK d (kk fun x => x.length + (x.length + 1) * z.length ≤ 16777216 ∧ Q (.str (Txt.replace x y z)) .sh ρ1)) := rfl
theorem det_repl (ho : PE X o (upE X.K Ts W to)) (hyz : (y == z) = false := by decide)
    (hst : starEach [.Constant (.str y) j c0, .Constant (.str z) k c1] X.env = [(false, eval (.Constant (.str y) j c0) X.env), (false, eval (.Constant (.str z) k c1) X.env)] := by rfl)
    (hbase : attributeBase o "replace" X.env (eval o X.env) = eval o X.env := by rfl) (hline : (apos.endLine == pos.line) = true := by rfl) :
    PET X (.Call (.Attribute o "replace" apos) [.Constant (.str y) j c0, .Constant (.str z) k c1] [] pos) (upE X.K Ts W (dRepl y z to)) := by
  refine PET.imp (pet_replC ho hyz hst hbase hline) fun σ H Q h => ?_
  obtain ⟨A, O, ρ, Xf, Qd, m, h, c⟩ := h
  refine ⟨A, O, ρ, Xf, _, m, h, fun d κ ρ1 v H1 A1 O1 h1 s1 t1 m1 r1 => ?_, c.x⟩
  obtain ⟨x, rfl, h1, h2⟩ := h1.get
  exact ⟨x, r1.wk.str, h1, (c.move s1 t1 m).flat m1 h2 Rp.str⟩
/-! ### list.index -/
def liK (d : D) (Q : List D → Prop) : Prop := match d with
  | .lst ds => Q ds
  | _ => False
theorem liK_l {ds : List D} {Q : List D → Prop} : liK (.lst ds) Q = Q ds := rfl
theorem liK.get {d : D} {Q : List D → Prop} (h : liK d Q) : ∃ ds, d = .lst ds ∧ Q ds := by
  unfold liK at h
  split at h
  · exact ⟨_, rfl, h⟩
  · exact h.elim
/-- the first place of a value -/
def idK (ds : List D) (e : D) (Q : Nat → Prop) : Prop := shp e = true ∧ shp (.lst ds) = true ∧ ∃ (j : Nat) (z : D), ds[j]? = some z ∧ eqD z e = true ∧ (∀ (m : Nat) (z' : D), m < j → ds[m]? = some z' → eqD z' e = false) ∧ Q j
theorem idK.mk {ds : List D} {e : D} {Q : Nat → Prop} {j : Nat} {z : D} (h1 : shp e = true) (h2 : shp (.lst ds) = true) (h3 : ds[j]? = some z) (h4 : eqD z e = true) (h5 : ∀ (m : Nat) (z' : D), m < j → ds[m]? = some z' → eqD z' e = false) (q : Q j) : idK ds e Q := ⟨h1, h2, j, z, h3, h4, h5, q⟩
def dIdx (to te : DE) : DE := fun X ρ Q => to X ρ fun d _ ρ1 => liK d fun ds => te X ρ1 fun e _ ρ2 => idK ds e fun j => Q (.int (j : Nat)) .sh ρ2
theorem dIdx_ev {Xf : XF} {ρ : List Sl} {Q : D → Kd → List Sl → Prop} : dIdx to te Xf ρ Q = to Xf ρ (kk fun d _ ρ1 => liK d (kk fun ds => te Xf ρ1 (kk fun e _ ρ2 => idK ds e (kk fun j => Q (.int (j : Nat)) .sh ρ2)))) := rfl
theorem pdL_get : ∀ (ds : List D) (m : Nat) (z : PyData), (pdL ds)[m]? = some z → ∃ d, ds[m]? = some d ∧ pd d = z := fun ds m z h => by
  rw [pdL_map, List.getElem?_map] at h
  cases e : ds[m]? with
  | none => rw [e] at h; cases h
  | some d => rw [e] at h; cases h; exact ⟨d, rfl, rfl⟩
theorem de_idx (hu : X.A.units + 65 < cLine) (ho : PE X o (upE X.K Ts W to)) (he : PE X e (upE X.K Ts W te)) (hs : starEach [e] X.env = (false, eval e X.env) :: starEach [] X.env := by rfl)
    (hbase : attributeBase o "index" X.env (eval o X.env) = eval o X.env := by rfl)
    (hfew : ((backTo pos (starEach [e] X.env)).all (fun x => !x.1) && (backToKw pos (keywordEach [] X.env)).all (fun x => x.1.isSome)
      && decide ([e].length + ([] : List Keyword).length + (if ([] : List Keyword).isEmpty then 0 else 1) < 30)) = true := by rfl)
    (hline : (apos.endLine == pos.line) = true := by rfl) (hplain : (backTo pos (starEach [] X.env)).any (·.1) = false := by rfl) :
    PE X (.Call (.Attribute o "index" apos) [e] [] pos) (upE X.K Ts W (dIdx to te)) := by
  refine (pe_bm F.plainAttrs_list F.slot_list_index F.type_list_index (mt_indexD hu) ho (pa_cons he pa_nil hs) hbase hfew hline hs hplain).imp fun σ H Q h => ?_
  obtain ⟨A, O, ρ, Xf, Qd, m, h, c⟩ := h
  refine ⟨A, O, ρ, Xf, _, m, h, fun d κ ρ1 v H1 A1 O1 h1 s1 t1 m1 r1 => ?_, c.x⟩
  have c1 := c.move s1 t1 m
  obtain ⟨ds, rfl, h1⟩ := h1.get
  have wk := r1.wk
  obtain ⟨l, vs, rfl, q1, q2⟩ := id wk.lst
  refine ⟨Or.inl ⟨rfl, _, SqL.of q1⟩, A1, O1, ρ1, Xf, _, m1, h1, fun z κ2 ρ2 y H2 A2 O2 h2 s2 t2 m2 r2 => ?_, c1.x⟩
  obtain ⟨g1, g2, j, z', g3, g4, g5, q⟩ := h2
  have c2 := c1.move s2 t2 m1
  have wd := (wk.tr s2 t2 m1.sub).dp (He.ba g2).1
  have we := r2.wk.dp (He.ba g1).1
  have sl := shaped_of g2
  unfold pd at wd sl
  refine ⟨l, y, pd z, pdL ds, j, pd z', rfl, rfl, wd, we, sl, shaped_of g1, ?_, g4, fun mm zz lt e2 => ?_, c2.flat m2 q Rp.int⟩
  · rw [pdL_map, List.getElem?_map, g3]
    rfl
  · obtain ⟨d2, e3, rfl⟩ := pdL_get _ _ _ e2
    exact g5 mm d2 lt e3
end
/-! ### a number among numbers -/
theorem has_two (n a b : Int) : hasD (.int n) [.int a, .int b] = (decide (n = a) || decide (n = b)) := by
  have e1 : hasD (.int n) [.int a, .int b] = (eqV (.int a) (.int n) || (eqV (.int b) (.int n) || false)) := rfl
  rw [e1, Bool.or_false]
  have e : ∀ a b : Int, eqV (.int a) (.int b) = decide (b = a) := fun a b => by
    show decide (a = b) = _
    exact decide_eq_decide.mpr eq_comm
  rw [e, e]
end DL

-- part DL13
set_option Elab.async false
set_option linter.all false
set_option maxRecDepth 100000
set_option maxHeartbeats 2000000
/-! try: .. except C as e: .., C's instances have no field; try: .. except C: .. -/
namespace DL
open PySem PySem.Spec PyProof.Rows L2 GxR GS GA GD
/-- em: whether what is raised is caught; the caught one is of C itself, without a field -/
def dTryAs0 (em : Str → Option Bool) (C : Str) (i : Nat) (tb : DS) (ts : Addr → DS) : DS := fun X N ρ => tb (fun x ρ1 => oK (em x.cls) fun b => if b = true then x.cls = C ∧ x.arg = none ∧ i < ρ1.length ∧ ∀ a, ts a X0n { nx := fun ρ2 => N.nx (ρ2.set i .no), rt := N.rt, bk := fun ρ2 => N.bk (ρ2.set i .no), ct := fun ρ2 => N.ct (ρ2.set i .no) } (ρ1.set i (.va (.xn a))) else X x ρ1) N ρ
theorem dTryAs0_ev {em : Str → Option Bool} {C : Str} {i : Nat} {tb : DS} {ts : Addr → DS} {X : XF} {N : DN} {ρ : List Sl} : dTryAs0 em C i tb ts X N ρ = tb (kk fun x ρ1 => oK (em x.cls) (kk fun b => iK b (x.cls = C ∧ x.arg = none ∧ i < ρ1.length ∧ ∀ a, ts a X0n { nx := kk fun ρ2 => N.nx (ρ2.set i .no), rt := N.rt, bk := kk fun ρ2 => N.bk (ρ2.set i .no), ct := kk fun ρ2 => N.ct (ρ2.set i .no) } (ρ1.set i (.va (.xn a)))) (X x ρ1))) N ρ := rfl
/-- em: whether what is raised is caught -/
def dTryOn (em : Str → Option Bool) (tb ts : DS) : DS := fun X N ρ => tb (fun x ρ1 => oK (em x.cls) fun b => if b = true then ts X0n N ρ1 else X x ρ1) N ρ
theorem dTryOn_ev {em : Str → Option Bool} {tb ts : DS} {X : XF} {N : DN} {ρ : List Sl} : dTryOn em tb ts X N ρ = tb (kk fun x ρ1 => oK (em x.cls) (kk fun b => iK b (ts X0n N ρ1) (X x ρ1))) N ρ := rfl
section
variable {X : Cx} {Ts : AP} {W : WX} {tb : DS} {C x n : Str} {i : Nat} {em : Str → Option Bool} {body suite : List Stmt} {b₀ : Stmt} {np pos pos' : Pos}
theorem ds_tryAs0 {ts : Addr → DS} (hs : X.stack = X.env :: X.outer) (hf : X.env.frame = some X.env.locals) (hN : X.N.Nodup) (hi : X.N[i]? = some n) (hln : X.env.kindOf n = some .local) (hc : Names X x (.ref (He.ga X.K C))) (tk : Takes X W)
    (hem : ∀ c b, em c = some b → PySem.W.exmOne X.K (.ref (He.ga X.K c)) (.ref (He.ga X.K C)) = some b)
    (hb : ∀ (W : WX) (pn : List (Addr × Obj)) (xe : Value → Shared → Prop), Takes (X.tr pn xe) W → PassesOwn (model X.prog X.w) X.A X.env xe → PSs (X.tr pn xe) body (upS X.K Ts W tb))
    (hsu : ∀ (a : Addr) (oe : Obj) (pn : List (Addr × Obj)), Zc (.ref (He.ga X.K C)) none oe → (∃ vs, oe.data = .fields vs) → PSs (X.suite a ((a, oe) :: pn)) (b₀ :: suite) (upS X.K Ts W (ts a))) :
    PS X (.Try body [.ExceptHandler (some (.Name x np)) (some n) (b₀ :: suite) pos'] [] [] pos) (upS X.K Ts W (dTryAs0 em C i tb ts)) := by
  have run := ps_try_as (np := np) (pos := pos) (pos' := pos') (Wout := W) (tb := fun W => upS X.K Ts W tb) (ts := fun a cls d E σ H => cls = .ref (He.ga X.K C) ∧ d = none ∧ upS X.K Ts W (ts a) E σ H) hs hf hN hi hln hc tk hb fun a oe cls d pn hz hfd => by
    refine ⟨fun pins s σ H D I q => ?_⟩
    obtain ⟨rfl, rfl, q⟩ := q
    exact (hsu a oe pn hz hfd).run pins s σ H D I q
  refine run.imp fun E σ H h => ?_
  obtain ⟨A, O, ρ, Xf, N, m, h, c⟩ := h
  refine ⟨A, O, ρ, _, N, m, h, ⟨c.nx, c.bk, c.ct, c.rt, fun y ρ1 cls od σ1 H1 A1 O1 hx t1 m1 r1 => ?_⟩⟩
  obtain ⟨b, eb, hx⟩ := hx.get
  have r0 := r1.1
  refine ⟨b, by rw [r0]; exact hem _ _ eb, fun hbt a ha => ?_, fun hbf => ?_⟩
  · rw [if_pos hbt] at hx
    obtain ⟨ec, eq, il, hx⟩ := hx
    obtain ⟨_, r2⟩ := r1
    rw [eq] at r2
    have rx : Rp X.K H1 A1 (.xn a) (.ref a) := by unfold Rp; rfl
    obtain ⟨m2, t2⟩ := m1.setVa (i := i) rx
    have c2 := c.move (t1.trans t2 m.trk) m
    have back : ∀ {R : List Sl → Prop} {G : L2.St → Hp → Prop}, (∀ ρ' σ' H' A' O', R ρ' → Tr A1 (Om O1 ρ1 σ1 i) H1 A' O' H' → Mt X.K Ts H' A' O' ρ' σ' → G σ' H') → ∀ ρ' σ' H' A' O', R (ρ'.set i .no) → Tr A1 (Om O1 ρ1 σ1 i) H1 A' O' H' → Mt X.K Ts H' A' O' ρ' σ' → G (σ'.set i none) H' :=
      fun {R G} g ρ' σ' H' A' O' hr tr mt => by
        obtain ⟨n3, t3⟩ := mt.setNo (i := i) (x := none)
        exact g _ _ _ _ _ hr (tr.trans t3 m2.trk) n3
    exact ⟨by rw [r0, ec], r2, A1, _, _, X0n, _, m2, hx a, ⟨back c2.nx, back c2.bk, back c2.ct, c2.rt, fun _ _ _ _ _ _ _ _ z => z.elim⟩⟩
  · rw [if_neg (by rw [hbf]; decide)] at hx
    exact c.x y ρ1 cls od σ1 H1 A1 O1 hx t1 m1 r1
theorem ds_tryOn {ts : DS} (hs : X.stack = X.env :: X.outer) (hf : X.env.frame = some X.env.locals) (hc : Names X x (.ref (He.ga X.K C))) (tk : Takes X W)
    (hem : ∀ c b, em c = some b → PySem.W.exmOne X.K (.ref (He.ga X.K c)) (.ref (He.ga X.K C)) = some b)
    (hb : ∀ (W : WX) (pn : List (Addr × Obj)) (xe : Value → Shared → Prop), Takes (X.tr pn xe) W → PassesOwn (model X.prog X.w) X.A X.env xe → PSs (X.tr pn xe) body (upS X.K Ts W tb))
    (hsu : ∀ (a : Addr) (oe : Obj) (pn : List (Addr × Obj)), PSs (X.suite a ((a, oe) :: pn)) (b₀ :: suite) (upS X.K Ts W ts)) :
    PS X (.Try body [.ExceptHandler (some (.Name x np)) none (b₀ :: suite) pos'] [] [] pos) (upS X.K Ts W (dTryOn em tb ts)) := by
  have run := ps_try_only (np := np) (pos := pos) (pos' := pos') (Wout := W) (tb := fun W => upS X.K Ts W tb) (ts := fun _ _ _ E σ H => upS X.K Ts W ts E σ H) hs hf hc tk hb fun a oe cls d pn hz hfd => hsu a oe pn
  refine run.imp fun E σ H h => ?_
  obtain ⟨A, O, ρ, Xf, N, m, h, c⟩ := h
  refine ⟨A, O, ρ, _, N, m, h, ⟨c.nx, c.bk, c.ct, c.rt, fun y ρ1 cls od σ1 H1 A1 O1 hx t1 m1 r1 => ?_⟩⟩
  obtain ⟨b, eb, hx⟩ := hx.get
  have r0 := r1.1
  refine ⟨b, by rw [r0]; exact hem _ _ eb, fun hbt a ha => ?_, fun hbf => ?_⟩
  · rw [if_pos hbt] at hx
    have c2 := c.move t1 m
    exact ⟨A1, O1, _, X0n, N, m1, hx, ⟨c2.nx, c2.bk, c2.ct, c2.rt, fun _ _ _ _ _ _ _ _ z => z.elim⟩⟩
  · rw [if_neg (by rw [hbf]; decide)] at hx
    exact c.x y ρ1 cls od σ1 H1 A1 O1 hx t1 m1 r1
end
/-! ### what a caught exception without a field is asked -/
def xnK (s : Sl) (a : Addr) (Q : Prop) : Prop := match s with
  | .va (.xn a') => a' = a ∧ Q
  | _ => False
theorem xnK_x {a a' : Addr} {Q : Prop} : xnK (.va (.xn a')) a Q = (a' = a ∧ Q) := rfl
def dIsx0 (a : Addr) (i : Nat) (b : Bool) : DE := fun _ ρ Q => xnK (sl ρ i) a (Q (.bl b) .sh ρ)
theorem dIsx0_ev {a : Addr} {i : Nat} {b : Bool} {X : XF} {ρ : List Sl} {Q : D → Kd → List Sl → Prop} : dIsx0 a i b X ρ Q = xnK (sl ρ i) a (Q (.bl b) .sh ρ) := rfl
theorem xnK.get {ρ : List Sl} {i : Nat} {a : Addr} {Q : Prop} (h : xnK (sl ρ i) a Q) : ρ[i]? = some (.va (.xn a)) ∧ Q := by
  unfold xnK at h
  split at h
  · rename_i a' e
    obtain ⟨rfl, q⟩ := h
    refine ⟨?_, q⟩
    rw [sl_eq]
    by_cases hl : i < ρ.length
    · rw [if_pos hl, e]
    · have : sl ρ i = .no := by unfold sl; rw [List.getD_eq_getElem?_getD, List.getElem?_eq_none (by omega)]; rfl
      rw [this] at e
      cases e
  · exact h.elim
section
variable {X : Cx} {Ts : AP} {W : WX} {C n : Str} {i : Nat} {a : Addr} {oe : Obj} {pn : List (Addr × Obj)} {p p2 pos : Pos}
theorem de_isx0 {ce : Expr} {cv : V} {cu : Value} {b : Bool} (E : ExcC X.K (He.ga X.K C)) (hz : Zc (.ref (He.ga X.K C)) none oe) (hf : ∃ vs, oe.data = .fields vs) (hN : X.N[i]? = some n) (hv : Vis X.env.scope n) (hg : Gl X "isinstance") (hm : X.mg "isinstance" = none) (hbt : bootBuiltins "isinstance" = some (.builtin "isinstance"))
    (hc : PE (X.suite a ((a, oe) :: pn)) ce (tC cv)) (hu : ∀ u, RelV cv u → u = cu) (hk : PySem.W.kitOne X.K (.ref (He.ga X.K C)) cu = some b) (hd : (n == ("__debug__" : Str)) = false := by decide) (hcd : (n == ("__classdict__" : Str)) = false := by decide)
    (hs : starEach [.Name n p, ce] X.env = (false, eval (.Name n p) X.env) :: starEach [ce] X.env := by rfl) (hs2 : starEach [ce] X.env = (false, eval ce X.env) :: starEach [] X.env := by rfl) (hpl : (backTo pos (starEach [ce] X.env)).any (·.1) = false := by rfl) :
    PE (X.suite a ((a, oe) :: pn)) (.Call (.Name "isinstance" p2) [.Name n p, ce] [] pos) (upE X.K Ts W (dIsx0 a i b)) := by
  refine (pe_callB (X := X.suite a ((a, oe) :: pn)) (call_isE E hz hf) hg hm hbt (pa_cons (pe_var (X := X.suite a ((a, oe) :: pn)) hN hv hd hcd) (pa_cons hc pa_nil hs2) hs) (by decide) (by decide) hs hpl).imp fun σ H Q h => ?_
  obtain ⟨A, O, ρ, Xf, Qd, m, h, c⟩ := h
  obtain ⟨e, q⟩ := xnK.get h
  obtain ⟨v, e1, r⟩ := m.va i _ e
  have r0 := r
  unfold Rp at r0
  subst r0
  exact ⟨_, e1, cv, cu, b, rfl, hu, hk, c.flat m q (by unfold Rp; rfl)⟩
end
end DL

-- part GU
set_option Elab.async false
set_option linter.all false
set_option maxRecDepth 100000
set_option maxHeartbeats 2000000
/-! a law whose own def is walked with its caller known (no repr is under way there) -/
namespace LG
open PySem PySem.Spec PyProof.Rows L2 LamX
/-- the promise of the law's def, called by the caller -/
def RunC (P : Program) (w : World) (K : PySem.W.Frag) (mg : Str → Option Value) (base : Heap) (CX : CXT) (f : Addr) (fd : FuncData) (ps : List Str) (sp : Sp) : Prop :=
  ∀ (s : Shared) (H : Hp) (args : Args) (us : List Value) (vs : List V) (Q : VK) (E : XK), Env0 P w K mg base callerA [] s H → BindsTo s fd args (ps.zip us) → Vals vs us → sp vs H Q E →
    codeAny (model P w) callerA (.call (.ref f) args) (CR CX [] P w H s Q E) s
section
variable {P : Program} {w : World} {K : PySem.W.Frag} {mg mb : Str → Option Value} {CX : CXT} {f a : Addr} {fd : FuncData} {x : Str} {sp : Sp} {s : Shared} {us : List Value} {ns : List Int} {cs : List (Addr × Addr)}
abbrev tbO : Obj := { cls := .none, data := .fields #[] }
abbrev lsO (us : List Value) : Obj := { cls := .type "list", data := .seq us.toArray }
/-- what is tracked: the tables, the script where it is none of the module -/
theorem tracked (nT : ∀ p ∈ cs, K.lookup p.2 = none) (KX : K.In s.heap) (hT : ∀ p ∈ cs, s.heap.get? p.2 = some tbO) (ha : s.heap.get? a = some (lsO us)) (hi : IntsAre us ns) (hl : ns.length ≤ sizeLine) :
    ∃ H : Hp, (∀ p ∈ cs, H p.2 = some (.tbl #[])) ∧ (∀ b, H b = none ∨ (b ∈ cs.map (·.2) ∧ H b = some (.tbl #[])) ∨ (b = a ∧ K.lookup a = none ∧ H b = some (.frz (lsO us) (.lst (ns.map V.int))))) ∧ SqL K H a (ns.map V.int) ∧ HOk P w H s.heap := by
  have rv := vals_ints hi
  have lv := hi.length
  have anT : a ∉ cs.map (·.2) := fun z => by
    obtain ⟨p, hp, e⟩ := List.mem_map.mp z
    have q := hT p hp
    rw [e, ha] at q
    have := congrArg Obj.data (Option.some.inj q)
    cases this
  have onT : ∀ b, b ∈ cs.map (·.2) → s.heap.get? b = some tbO := fun b hb => by
    obtain ⟨p, hp, e⟩ := List.mem_map.mp hb
    rw [← e]; exact hT p hp
  by_cases hk : K.lookup a = none
  · refine ⟨fun b => if b ∈ cs.map (·.2) then some (.tbl #[]) else if b = a then some (.frz (lsO us) (.lst (ns.map V.int))) else none, fun p hp => if_pos (List.mem_map.mpr ⟨p, hp, rfl⟩), fun b => ?_, .inl (.inr ⟨lsO us, (if_neg anT).trans (if_pos rfl)⟩), fun b u e => ?_⟩
    · by_cases h1 : b ∈ cs.map (·.2)
      · exact .inr (.inl ⟨h1, if_pos h1⟩)
      · by_cases h2 : b = a
        · exact .inr (.inr ⟨h2, hk, (if_neg h1).trans (if_pos h2)⟩)
        · exact .inl ((if_neg h1).trans (if_neg h2))
    · by_cases h1 : b ∈ cs.map (·.2)
      · have e := (if_pos h1).symm.trans e
        cases e
        exact onT b h1
      · have e := (if_neg h1).symm.trans e
        by_cases h2 : b = a
        · have e := (if_pos h2).symm.trans e
          cases e
          rw [h2]
          exact ⟨ha, by rw [List.length_map]; exact hl, us, _, rv, ha⟩
        · have e := (if_neg h2).symm.trans e
          cases e
  · obtain ⟨o, ho⟩ := Option.ne_none_iff_exists'.mp hk
    have eo := KX a o ho
    rw [ha] at eo
    cases eo
    refine ⟨fun b => if b ∈ cs.map (·.2) then some (.tbl #[]) else none, fun p hp => if_pos (List.mem_map.mpr ⟨p, hp, rfl⟩), fun b => ?_, .inr ⟨_, us.toArray, _, ho, rfl, rfl, rfl, by rw [List.size_toArray, lv]; exact hl, by simpa using rv⟩, fun b u e => ?_⟩
    · by_cases h1 : b ∈ cs.map (·.2)
      · exact .inr (.inl ⟨h1, if_pos h1⟩)
      · exact .inl (if_neg h1)
    · by_cases h1 : b ∈ cs.map (·.2)
      · have e := (if_pos h1).symm.trans e
        cases e
        exact onT b h1
      · have e := (if_neg h1).symm.trans e
        cases e
/-- the caller's call -/
theorem callC (KX : K.In s.heap) (hns : s.heap.Ns mainGlobals mg) (hb : s.heap.Ns builtinsNs mb) (hbb : ∀ x : Str, x ≠ "__name__" → mb x = bootBuiltins x) (hlim : s.heap.NoLimit) (hg : s.gens = #[])
    (hT : ∀ p ∈ cs, s.heap.get? p.2 = some tbO) (nT : ∀ p ∈ cs, K.lookup p.2 = none) (C : ∀ p ∈ cs, PySem.W.CodeHd s.heap p.1 p.2)
    (hbm : ∃ (bm : Addr) (ob : Obj), mg "__builtins__" = some (.ref bm) ∧ bm ≠ builtinsNs ∧ s.heap.get? bm = some ob ∧ ob.cls = .type "module" ∧ ob.dict = some builtinsNs ∧ ob.data = .plain)
    (ha : s.heap.get? a = some (lsO us)) (hi : IntsAre us ns) (hl : ns.length ≤ sizeLine)
    (F : ∀ base : Heap, K.In base → base.Ns mainGlobals mg → (∀ p ∈ cs, LamX.TabB base mg p.1 p.2) → RunC P w K mg base CX f fd [x] sp) (hbind : ∀ (s : Shared) (u : Value), BindsTo s fd ⟨[u], []⟩ [(x, u)])
    (hsp : ∀ H : Hp, (∀ p ∈ cs, H p.2 = some (.tbl #[])) → SqL K H a (ns.map V.int) → sp [.ref a] H (fun v _ => v = .bl true) fun _ _ _ => False) (hCX : ∀ H e s', CX [] H s (fun _ _ _ => False) e s' → False) :
    codeAny (model P w) callerA (.call (.ref f) ⟨[.ref a], []⟩) (fun r s' => r = .ok (.ret (.bool true)) ∧ OldK s.heap s'.heap ∧ s'.os = s.os ∧ AllBare s'.gens) s := by
  obtain ⟨H, hH, hO, hS, hok⟩ := tracked (P := P) (w := w) nT KX hT ha hi hl
  -- what is untracked: all that is no list and no table
  have un : ∀ {b : Addr} {o : Obj}, s.heap.get? b = some o → (∀ d n, o.data ≠ .seq d n) → o.data ≠ .fields #[] → H b = none := fun {b o} e n1 n2 => by
    rcases hO b with z | ⟨z, _⟩ | ⟨z, _⟩
    · exact z
    · obtain ⟨p, hp, q⟩ := List.mem_map.mp z
      have g := hT p hp
      rw [q, e] at g
      cases g
      exact absurd rfl n2
    · rw [z, ha] at e
      cases e
      exact absurd rfl (n1 _ _)
  have ns' : ∀ {b : Addr} {m : Str → Option Value}, s.heap.Ns b m → (hidT s.heap H).Ns b m := fun {b m} ⟨o, es, ep, e, d, r⟩ =>
    ⟨o, es, ep, hidT_get e (un e (fun _ _ z => by rw [d] at z; cases z) fun z => by rw [d] at z; cases z), d, r⟩
  have kin : K.In (hidT s.heap H) := fun b o e => hidT_get (KX b o e) (by
    rcases hO b with z | ⟨z, _⟩ | ⟨z, k, _⟩
    · exact z
    · obtain ⟨p, hp, q⟩ := List.mem_map.mp z
      rw [← q, nT p hp] at e
      cases e
    · rw [z, k] at e
      cases e)
  obtain ⟨ml, l1, l2⟩ := hlim
  have hM : L2.Mod K mg (hidT s.heap H) := ⟨kin, ns' hns, ⟨mb, ns' hb, hbb⟩, ⟨ml, ns' l1, l2⟩⟩
  have e0 : Env0 P w K mg (hidT s.heap H) callerA [] s H := ⟨rfl, hM, fun b o e => of_hidT e, Nat.le_of_eq (hidT_size _ _), trivial, fun b hb => absurd (show b ∈ ([] : List Addr) from hb) List.not_mem_nil, hok, .of_eq hg⟩
  have tabs : ∀ p ∈ cs, LamX.TabB (hidT s.heap H) mg p.1 p.2 := fun p hp => by
    have tp := hT p hp
    refine ⟨?_, ?_, fun z => ?_⟩
    · obtain ⟨o, u1, fl, tf, gs, tg, iF, tx, tt, e1, r1, r2, r3, rr⟩ := C p hp
      refine ⟨o, u1, fl, tf, gs, tg, iF, tx, tt, hidT_get e1 (un e1 (fun _ _ z => by rw [r2] at z; cases z) fun z => ?_), r1, r2, r3, rr⟩
      rw [r2] at z
      cases z
      simp at r3
    · obtain ⟨bm, ob, b1, b2, b3, b4, b5, b6⟩ := hbm
      refine ⟨bm, ob, b1, b2, fun q => ?_, fun q => ?_, hidT_get b3 (un b3 (fun _ _ z => by rw [b6] at z; cases z) fun z => by rw [b6] at z; cases z), b4, b5, b6⟩
      · obtain ⟨o, es, ep, e, hd, _⟩ := hns
        rw [q, e] at b3
        cases b3
        rw [hd] at b6
        cases b6
      · rw [q, tp] at b3
        cases b3
        cases b6
    · obtain ⟨o, es, ep, e, hd, _⟩ := hns
      rw [z, tp] at e
      cases e
      cases hd
  refine codeAny_mono (F _ kin (ns' hns) tabs s H ⟨[.ref a], []⟩ [.ref a] [.ref a] _ _ e0 (hbind s (.ref a)) (.cons rfl .nil) (hsp H hH hS)) fun r s' h => ?_
  match r, h with
  | .error e, h => exact (hCX H e s' h).elim
  | .ok .next, h => exact h.elim
  | .ok .brk, h => exact h.elim
  | .ok .cont, h => exact h.elim
  | .ok (.ret u), ⟨v, H', os, bare, un', hok', r', q⟩ =>
    have q : v = .bl true := q
    subst q
    obtain rfl : u = Value.bool true := r'
    have still : ∀ b o, b ∉ cs.map (·.2) → s.heap.get? b = some o → s'.heap.get? b = some o := fun b o nb e => by
      rcases hO b with z | ⟨z, _⟩ | ⟨z, _, g⟩
      · exact un'.keep b o e z (fun z => absurd (show b ∈ ([] : List Addr) from z) List.not_mem_nil) List.not_mem_nil
      · exact absurd z nb
      · have g1 := (hok b _ g).1
        have g2 := (hok' b _ (un'.frzs b _ _ g)).1
        rw [e] at g1
        cases g1
        exact g2
    have more : ∀ b, b ∈ cs.map (·.2) → ∃ m : Array Value, s'.heap.get? b = some { cls := .none, data := .fields m } := fun b hb => by
      obtain ⟨p, hp, e⟩ := List.mem_map.mp hb
      obtain ⟨m, z⟩ := un'.tbls p.2 #[] (hH p hp)
      rw [← e]
      exact ⟨_, hok' p.2 _ z⟩
    refine ⟨rfl, ⟨fun b o e => ?_, fun b o e => ?_⟩, os, bare⟩
    · by_cases hb : b ∈ cs.map (·.2)
      · obtain ⟨m, hm⟩ := more b hb
        obtain ⟨p, hp, ep⟩ := List.mem_map.mp hb
        have tp := hT p hp
        rw [ep, e] at tp
        cases tp
        rw [← ep] at hm ⊢
        exact .inr (.inl ⟨((C p hp).tab (hT p hp)).isCodeTable, rfl, #[], m, rfl, by rw [Array.empty_append]; exact hm⟩)
      · exact .inl (still b o hb e)
    · by_cases hb : b ∈ cs.map (·.2)
      · exact ⟨_, (more b hb).choose_spec⟩
      · exact ⟨o, still b o hb e⟩
end
/-- what is known of the law at the head's heap -/
def LawAtC (l : PySem.W.OpenLaw) (w : World) (K : PySem.W.Frag) (CX : CXT) (n : Nat) (x : Str) (mg : Str → Option Value) (fa : Addr) (h : Heap) : Prop :=
  ∃ (fd : FuncData) (cs : List (Addr × Addr)) (sp : Sp), (∀ p ∈ cs, h.get? p.2 = some tbO) ∧ (∀ p ∈ cs, K.lookup p.2 = none) ∧ (∀ p ∈ cs, PySem.W.CodeHd h p.1 p.2) ∧ (∀ (s : Shared) (u : Value), BindsTo s fd ⟨[u], []⟩ [(x, u)]) ∧
    (∀ (H : Hp) (a : Addr) (ns : List Int), ns.length ≤ n → (∀ z ∈ ns, Builtin.Int.intBits z ≤ 1048576) → (∀ p ∈ cs, H p.2 = some (.tbl #[])) → SqL K H a (ns.map V.int) → sp [.ref a] H (fun v _ => v = .bl true) fun _ _ _ => False) ∧
    ∀ base : Heap, K.In base → base.Ns mainGlobals mg → (∀ p ∈ cs, LamX.TabB base mg p.1 p.2) → RunC l.prog w K mg base CX fa fd [x] sp
theorem walkC {l : PySem.W.OpenLaw} {n : Nat} {q : Program} {loose : List Str} {XP : (Str → Option Value) → Heap → Prop} {YP : World → Heap → Prop} {d : DefRec} {CX : World → CXT} {x : Str} (hn : l.most = some n) (hz : n ≤ sizeLine) (hdf : d.params.defaults = [])
    (F : ∀ (w : World) (mg : Str → Option Value) (fa : Addr) (h : Heap), YP w h → h.Ns mainGlobals mg → mg d.name = some (.ref fa) → ∃ K : PySem.W.Frag, K.In h ∧ LawAtC l w K (CX w) n x mg fa h)
    (hCX : ∀ (w : World) (H : Hp) (s : Shared) (e : Value) (s' : Shared), CX w [] H s (fun _ _ _ => False) e s' → False) : PySem.W.WalkO q loose XP YP l.row.toRowW d [] (fun f vs => PySem.call f vs) := by
  refine Att.attach_callB hn hdf fun w t0 t1 mg mb fa o pm cd doc a vs ns G Y _ _ _ hmg hob hin hlen hbit hg => ?_
  obtain ⟨K, KX, fd, cs, sp, hT, nT, C, bd, hs, hF⟩ := F w mg fa _ Y G.T.g hmg
  exact callC KX G.T.g G.T.b G.T.builtins G.T.nolimit hg hT nT C G.T.bmain hob hin (Nat.le_trans hlen hz) hF bd (fun H h1 h2 => hs H a ns hlen hbit h1 h2) fun H e s' => hCX w H t1 e s'
section
open GR GD GS
variable {P : Program} {w : World} {K : PySem.W.Frag} {mg : Str → Option Value} {base : Heap} {x qual : Str} {params : Arguments} {body : List Stmt} {scope : Scope} {dvs : List V} {kws : List (Str × V)} {f : Addr} {fd : FuncData}
/-- .. by its body, the caller known -/
theorem okG {CX : CXT} {N ps : List Str} {k : Nat} {sp : Sp} {c : Addr} (F : FunD K x qual params body scope dvs kws f fd) (hc : fd.code = .ref c) (S : FnScope N ps scope) (hr : Room (k + 1) callerA) (len : ∀ vs H Q E, sp vs H Q E → vs.length = ps.length)
    (hbody : ∀ (s : Shared) (H : Hp) (vs : List V) (Q : VK) (E : XK), Room k (callerA.deeper (envOfC qual scope s.heap.objs.size f (.ref c))) → sp vs H Q E →
      ∃ t, PSs (cxOf CX P w K mg base N qual scope f (.ref c) callerA [] s H E) body t ∧ t { nx := fun _ H' => Q .non H', rt := Q } (start N vs) H) : RunC P w K mg base CX f fd ps sp := by
  obtain ⟨oc, od, dV, kV, doc, pm, an, cdv, ct, osl, rfl, lk, hcd, _, _⟩ := F.ex
  obtain rfl : cdv = .ref c := hc
  intro s H args us vs Q E e0 hb r hsp
  have hl := len _ _ _ _ hsp
  have kept : ∀ b o, base.get? b = some o → s.heap.get? b = some o := fun b o e => (e0.bs b o e).1
  have KX := e0.mod.kin.keeps kept
  have lim := e0.mod.nolimit.keeps kept
  refine codeAny_call_function hr.depth (KX _ _ lk) rfl S.co S.gen rfl (PySem.W.codeRec_of KX hcd) (hb _ _ _ _ (wpAny_newFunctionEnv_cells S.kind (fun y hy => ?_) fun env he s1 z => ?_))
  · rcases S.par y.1 (List.of_mem_zip hy).1 with q | q
    · exact .inl q
    · exact .inr ⟨q, PySem.W.cellsFrom_some _ _ _ (.inl q)⟩
  · subst he
    refine ⟨lim.keeps z.toInCall.keep, codeAny_func ?_⟩
    obtain ⟨t, ht, hq⟩ := hbody s H vs Q E (hr.deeper _) hsp
    have I : Inv (cxOf CX P w K mg base N qual scope f (.ref c) callerA [] s H E) [] (start N vs) H s1 := inv_start S hr.hd e0 hl r z
    refine wpAny_mono (ht.run [] s1 (start N vs) H _ I hq) (fun fl s' hs => ?_) fun _ _ h => h
    match fl, hs with
    | .ret u, ⟨v, _, H', J, rv, q⟩ => exact ⟨v, H', J.os, J.bare, J.base, J.hok, rv, q⟩
    | .next, ⟨_, H', J, q⟩ => exact ⟨V.non, H', J.os, J.bare, J.base, J.hok, (rfl : RelV V.non Value.none), q⟩
    | .brk, ⟨_, _, _, q⟩ => exact q.elim
    | .cont, ⟨_, _, _, q⟩ => exact q.elim
end
end LG

-- part GV
set_option Elab.async false
set_option linter.all false
set_option maxRecDepth 100000
set_option maxHeartbeats 2000000
/-! the law's def over data, its caller known; repr of data there -/
namespace DL
open PySem PySem.Spec PyProof.Rows L2 GxR GS GA GD
theorem fnG_data {P : Program} {w : World} {K : PySem.W.Frag} {mg : Str → Option Value} {base : Heap} {f : Addr} {fd : FuncData} {ps : List Str} {n k : Nat} {φ : Ph} {Ts : AP} {xn qual : Str} {params : Arguments} {body : List Stmt} {scope : Scope} {dvs : List V} {kws : List (Str × V)} {c : Addr} {N : List Str} (F : FunD K xn qual params body scope dvs kws f fd) (hc : fd.code = .ref c) (S : FnScope N ps scope) (hn : ps.length = n) (hr : Room (k + 1) callerA)
    (hbody : ∀ (s : Shared) (H : Hp) (E : XK), Room k (callerA.deeper (envOfC qual scope s.heap.objs.size f (.ref c))) → ∃ t : DS, PSs (cxOf (L2.CX P w) P w K mg base N qual scope f (.ref c) callerA [] s H E) body (upS K Ts (fun cls d _ H => E cls d H) t) ∧
      ∀ ds Qd Xd, φ ds Qd Xd → ds.length = n → t (fun x _ => Xd x) ⟨fun _ => Qd .non, Qd, fun _ => False, fun _ => False⟩ (ds.map Sl.va ++ List.replicate (N.length - n) .no)) : LG.RunC P w K mg base (L2.CX P w) f fd ps (spD K Ts n φ) := by
  refine LG.okG F hc S hr (fun vs H Q E h => by rw [hn]; exact h.1) fun s H vs Q E hr h => ?_
  obtain ⟨t, hp, ht⟩ := hbody s H E hr
  refine ⟨_, hp, ?_⟩
  obtain ⟨hl, A0, ds, Qd, Xd, tb, trk, r, h, kq, kx⟩ := h
  have dl : ds.length = n := by rw [r.len]; exact hl
  have sl : ∀ {i : Nat} {x : Sl}, (ds.map Sl.va ++ List.replicate (N.length - n) .no)[i]? = some x → x ≠ .no → ∃ d, ds[i]? = some d ∧ x = .va d := fun {i x} e nx => by
    by_cases hi : i < ds.length
    · rw [List.getElem?_append_left (by rw [List.length_map]; exact hi), List.getElem?_map] at e
      cases q : ds[i]? with
      | none => rw [q] at e; cases e
      | some d => rw [q] at e; cases e; exact ⟨d, rfl, rfl⟩
    · rw [List.getElem?_append_right (by rw [List.length_map]; omega)] at e
      exact absurd (List.eq_of_mem_replicate (List.mem_of_getElem? e)) nx
  have m : Mt K Ts H A0 (fun _ => False) (ds.map Sl.va ++ List.replicate (N.length - n) .no) (L2.start N vs) := by
    refine ⟨tb, fun b z => z.elim, trk, ?_, fun i d e => ?_, fun i es e => ?_, fun i j es fs a e => ?_, fun b z => z.elim⟩
    · unfold L2.start
      rw [List.length_append, List.length_append, List.length_map, List.length_map, List.length_replicate, List.length_replicate, r.len, hl]
    · obtain ⟨z, e1, e2⟩ := sl e (by simp)
      cases e2
      obtain ⟨v, g1, g2⟩ := r.get' e1
      refine ⟨v, ?_, g2⟩
      unfold L2.start
      rw [List.getElem?_append_left (by rw [List.length_map]; exact (List.getElem?_eq_some_iff.mp g1).1), List.getElem?_map, g1]
      rfl
    · obtain ⟨z, e1, e2⟩ := sl e (by simp)
      cases e2
    · obtain ⟨z, e1, e2⟩ := sl e (by simp)
      cases e2
  have old : ∀ {A' O' : AP} {H' : Hp}, Tr A0 (fun _ => False) H A' O' H' → ∀ b, A0 b → A' b := fun t b z => t.old b z fun q => q
  refine ⟨A0, _, _, _, _, m, ht ds Qd Xd h dl, ⟨fun ρ' σ' H' A' O' q t m' => ?_, fun _ _ _ _ _ q => q.elim, fun _ _ _ _ _ q => q.elim, fun d v H' A' O' q t r' => ?_, fun x ρ' cls od σ' H' A' O' q t m' r' => ?_⟩⟩
  · exact kq .non .non H' A' q t.kp.sm (old t) (by unfold Rp; rfl)
  · exact kq d v H' A' q t.kp.sm (old t) r'
  · exact kx x cls od H' A' q t.kp.sm (old t) r'
/-! ### repr of a list, a tuple -/
def seqD : D → Bool
  | .lst _ => true
  | .tup _ => true
  | _ => false
mutual
theorem noDict : ∀ d : D, (pd d).hasDict = false
  | .non => by unfold pd PyData.hasDict; rfl
  | .bl _ => by unfold pd PyData.hasDict; rfl
  | .int _ => by unfold pd PyData.hasDict; rfl
  | .str _ => by unfold pd PyData.hasDict; rfl
  | .lst xs => by unfold pd PyData.hasDict; exact noDicts xs
  | .tup xs => by unfold pd PyData.hasDict; exact noDicts xs
  | .ins _ _ _ => by unfold pd PyData.hasDict; rfl
  | .dct _ _ => by unfold pd PyData.hasDict; rfl
  | .scr _ => by unfold pd PyData.hasDict; rfl
  | .xc _ _ _ _ => by unfold pd PyData.hasDict; rfl
  | .xn _ => by unfold pd PyData.hasDict; rfl
theorem noDicts : ∀ ds : List D, PyData.hasDictAll (pdL ds) = false
  | [] => by unfold pdL PyData.hasDictAll; rfl
  | d :: r => by unfold pdL PyData.hasDictAll; rw [noDict d, noDicts r]; rfl
end
def rRepr (K : PySem.W.Frag) : List V → Hp → VK → Prop := fun vs H Q => ∃ (a : Addr) (d : PyData), vs = [.ref a] ∧ Dp K H (.ref a) d ∧ d.showable = true ∧ d.hasDict = false ∧ d.depth ≤ 64 ∧ d.shown.length ≤ sizeLine ∧ Q (.str d.shown) H
theorem call_repr {X : Cx} (hg : X.A.guards = some []) (hu : X.A.units + 66 < cLine) : CallR X (.builtin "repr") (rRepr X.K) := by
  intro pins s σ H xs us Q I rv h
  obtain ⟨a, d, rfl, hd, h1, h2, h3, h4, q⟩ := h
  cases rv with
  | cons r1 r2 =>
    cases r2
    rename_i u
    obtain rfl : u = Value.ref a := r1
    obtain ⟨as, rd⟩ := Dp.reads I d (.ref a) (.ref a) hd rfl
    exact repr_of_reads' rd h1 (fun z => by rw [h2] at z; cases z) hg (by omega) (fun _ _ e => e) (fun h' u tk k => ⟨.str d.shown, H, I.kept k, ⟨u, rfl⟩, q⟩) h4
def gRepr : List D → (D → Kd → Prop) → Prop
  | [d], Q => seqD d = true ∧ okD d = true ∧ (pd d).showable = true ∧ dpt d ≤ 60 ∧ (pd d).shown.length ≤ sizeLine ∧ Q (.str (pd d).shown) .sh
  | _, _ => False
theorem gRepr_1 {d : D} {Q : D → Kd → Prop} : gRepr [d] Q = (seqD d = true ∧ okD d = true ∧ (pd d).showable = true ∧ dpt d ≤ 60 ∧ (pd d).shown.length ≤ sizeLine ∧ Q (.str (pd d).shown) .sh) := rfl
theorem dcl_repr {X : Cx} {Ts : AP} (hg : X.A.guards = some []) (hu : X.A.units + 66 < cLine) : DCl X Ts (.builtin "repr") gRepr := by
  refine ⟨_, call_repr hg hu, fun W σ H A O ρ Xf Qd Q ds vs hw m c g => ?_⟩
  unfold gRepr at g
  split at g
  · rename_i d
    obtain ⟨h1, h2, h3, h4, h5, q⟩ := g
    obtain ⟨v, rfl, wv⟩ := hw.one
    have dp := wv.dp h2
    have hv : ∃ a, v = .ref a := by
      cases d with
      | lst xs => obtain ⟨a, vs, e, _⟩ := wv.lst; exact ⟨a, e⟩
      | tup xs => obtain ⟨a, vs, e, _⟩ := wv.tup; exact ⟨a, e⟩
      | _ => cases h1
    obtain ⟨a, rfl⟩ := hv
    have := dpt_of d
    exact ⟨a, pd d, rfl, dp, h3, noDict d, by omega, h5, c.flat m q Rp.str⟩
  · exact g.elim
theorem units66 {k : Nat} {A : Around} (r : Room k A) : A.units + 66 < cLine := by have := r.un; omega
end DL

-- part RC
set_option Elab.async false
set_option linter.all false
set_option maxRecDepth 100000
set_option maxHeartbeats 2000000
/-! a comprehension whose element lets an exception out of a call -/
namespace RC
open PySem PySem.Spec PyProof.Rows L2 HandSPX
/-- the heap with the object at C put anew, where there is one -/
def put (h : Heap) (C : Addr) (o : Obj) : Heap := match h.get? C with
  | none => h
  | some _ => h.update C fun _ => o
theorem put_none {h : Heap} {C : Addr} {o : Obj} (e : h.get? C = none) : put h C o = h := by unfold put; rw [e]
theorem put_some {h : Heap} {C : Addr} {o o' : Obj} (e : h.get? C = some o') : put h C o = h.update C fun _ => o := by unfold put; rw [e]
theorem put_ne {h : Heap} {C b : Addr} {o : Obj} (n : b ≠ C) : (put h C o).get? b = h.get? b := by
  cases e : h.get? C with
  | none => rw [put_none e]
  | some o' => rw [put_some e]; exact Heap.get?_update_other _ _ (Ne.symm n)
theorem put_at {h : Heap} {C : Addr} {o o' : Obj} (e : h.get? C = some o') (hf : o.isFreed = false) : (put h C o).get? C = some o := by
  rw [put_some e]
  exact Heap.get?_update_self _ e hf
theorem put_no {h : Heap} {C b : Addr} {o : Obj} (e : h.get? b = none) : (put h C o).get? b = none := by
  by_cases hb : b = C
  · subst hb; rw [put_none e]; exact e
  · rw [put_ne hb]; exact e
theorem put_has {h : Heap} {C b : Addr} {o ob : Obj} (hf : o.isFreed = false) (e : (put h C o).get? b = some ob) : (b = C ∧ ob = o ∧ ∃ o', h.get? C = some o') ∨ (b ≠ C ∧ h.get? b = some ob) := by
  by_cases hb : b = C
  · subst hb
    cases q : h.get? b with
    | none => rw [put_none q, q] at e; cases e
    | some o' => rw [put_at q hf] at e; cases e; exact .inl ⟨rfl, rfl, o', rfl⟩
  · rw [put_ne hb] at e
    exact .inr ⟨hb, e⟩
theorem frames_put {h1 h2 B : Heap} {C : Addr} {o o2 : Obj} (sb : h1.SameBut C h2) (e2 : h2.get? C = some o2) (n2 : ∀ vs, o2.data ≠ .fields vs) : ∀ {l : List Env}, h1.FunFrames B l → h2.FunFrames (put B C o) l
  | [], _ => trivial
  | env :: rest, hl => by
    obtain ⟨hk, ⟨L, ob, hf, hn, ho, hd⟩, hr⟩ := hl
    refine ⟨hk, ?_, frames_put sb e2 n2 hr⟩
    by_cases hb : L = C
    · exact ⟨L, o2, hf, put_no hn, by rw [hb]; exact e2, n2⟩
    · exact ⟨L, ob, hf, put_no hn, (sb.2 L hb).trans ho, hd⟩
section
variable {X : Cx} {W : WX} {σ0 : L2.St} {u : Value} {s' : Shared} {ce : Env} {C L : Addr} {m : Str → Option Value} {use : Option (Value → Sem Unit)} {Qf : Value → Shared → Prop} {D : Value}
theorem fails (hs : X.stack = X.env :: X.outer) (hf : X.env.frame = some X.env.locals) (tk : Takes X W) (hcf : ce.frame = X.env.frame) (hCs : s'.heap.Ns ce.locals m)
    (c1 : ce.locals ≠ X.env.locals) (c2 : ce.locals ∈ X.ex ∨ X.s_0.heap.objs.size ≤ ce.locals) (c3 : ∀ x c, X.env.cells.lookup x = some c → c ≠ ce.locals) (c4 : ∀ p ∈ X.pn, p.1 ≠ ce.locals)
    (x : XE X (fun cls d σ H => W cls d σ H ∧ H ce.locals = none) u s') :
    notedBy (model X.prog X.w) X.A ce (fun e s2 => compEnds (model X.prog X.w) X.A X.xe use Qf D ce (.error e) s2) u s' := by
  obtain ⟨a, B, sI, pins, σ, H, cls, d, rfl, I, nb, up, sky, na, os, ag, w, hHC⟩ := x
  have hfr : X.A.frames = some (X.env :: X.outer) := by rw [I.ok.frames, hs]
  rw [hs] at sky
  show wpAny _ X.A (noteFrame (.ref a) ce) _ _ s'
  rw [noteFrame_env (.ref a) hcf]
  have fin : ∀ h1, HeldZ B (X.env :: X.outer) a (Zc cls d) X.env.locals h1 → s'.heap.UpToSlots h1 → compEnds (model X.prog X.w) X.A X.xe use Qf D ce (.error (.ref a)) { s' with heap := h1 } := by
    intro h1 held up1
    have hn1 : h1.Ns ce.locals m := hCs.upToSlots up1
    have go : CompFails (model X.prog X.w) X.A X.xe ce (.ref a) { s' with heap := h1 } := by
      refine ⟨m, hn1, fun h2 m2 hn2 sb => ?_⟩
      obtain ⟨f1, f2, f3, oe, vs, T, oT, ts, he, hz, hd, hv, hnT, hTe, hT, hdT, h3⟩ := held
      obtain ⟨o1, es1, ep1, ho1, hd1, r1⟩ := hn1
      obtain ⟨o2, es2, ep2, ho2, hd2, r2⟩ := id hn2
      have aC : a ≠ ce.locals := fun z => by
        rw [z] at he
        rw [he] at ho1
        cases ho1
        rw [hd] at hd1
        cases hd1
      have TC : T ≠ ce.locals := fun z => by
        rw [z] at hT
        rw [hT] at ho1
        cases ho1
        rw [hdT] at hd1
        cases hd1
      have he2 : h2.get? a = some oe := (sb.2 a aC).trans he
      have hT2 : h2.get? T = some oT := (sb.2 T TC).trans hT
      have nf2 : o2.isFreed = false := (Heap.get?_some_iff.mp ho2).2
      have held2 : HeldZ (put B ce.locals o2) (X.env :: X.outer) a (Zc cls d) X.env.locals h2 := by
        refine ⟨fun b o e => ?_, put_no f2, frames_put sb ho2 (fun vs q => by rw [hd2] at q; cases q) f3, oe, vs, T, oT, ts, he2, hz, hd, hv, put_no hnT, hTe, hT2, hdT, h3⟩
        rcases put_has nf2 e with ⟨rfl, rfl, _⟩ | ⟨hb, e⟩
        · exact ho2
        · exact (sb.2 b hb).trans (f1 b o e)
      unfold PySem.passOn
      refine wpAny_bind (wpAny_field he2 hd hv ?_)
      rw [if_neg (show ¬ ((Value.ref T == Value.none) = true) from by simp), hcf, hf]
      refine wpAny_bind (setFlight_onZ held2 fun h3' held3 up3 => wpAny_throw ?_)
      refine tk _ _ ⟨a, put B ce.locals o2, { sI with heap := put sI.heap ce.locals o2 }, [], σ, H, cls, d, rfl, ?_, fun b o e hb => ?_, fun b o e nf => ?_, .inr (.inr (by rw [hs]; exact held3)), na, os, ag, w⟩
      · exact (I.unpinned (pins := [])).turned (t' := sI.toks) (fun b o n e => (put_ne n).trans e) hHC c1 c2 c3 fun p hp => c4 p (by simpa using hp)
      · rcases put_has nf2 e with ⟨rfl, rfl, o', q⟩ | ⟨hb', e⟩
        · exact put_at (nb _ _ q hb) nf2
        · rw [put_ne hb']
          exact nb b o e hb
      · rcases put_has nf2 e with ⟨rfl, rfl, o', q⟩ | ⟨hb', e⟩
        · exact up3 _ _ ho2 nf
        · obtain ⟨sl, e1⟩ := up b o e nf
          obtain ⟨sl1, e2⟩ := up1 b _ e1 nf
          have e3 : h2.get? b = some { o with slots := sl1 } := (sb.2 b hb').trans e2
          obtain ⟨sl3, e4⟩ := up3 b _ e3 nf
          exact ⟨sl3, e4⟩
    cases use <;> exact go
  rcases sky with ⟨hB, hn, hl, oe, vs, he, hz, hd, h1⟩ | fl | hh
  · exact look_newZ Zc.steady hfr hl hf he hB hn hd h1 hz fin
  · exact looks_onZ Zc.steady hfr hf fl fin
  · exact againZ hf hh.2.2.2 (fin s'.heap hh (Heap.UpToSlots.refl _))
end
end RC
namespace RC
open PySem PySem.Spec PyProof.Rows L2 HandSPX
/-- a block whose element may let E out of a call -/
abbrev bx (X : Cx) (s : Shared) (H : Hp) (scope : Scope) (ce : Env) (fp : List Addr) (E : XK) : Cx := { X.blk s H scope ce fp with xe := fun u s' => ∃ (σ : L2.St) (H' : Hp) (s1 : Shared), L2.Inv (X.blk s H scope ce fp) [] σ H' s1 ∧ L2.CX X.prog X.w X.stack H' s1 E u s' }
section
variable {X : Cx} {s s1 : Shared} {H H1 : Hp} {scope : Scope} {ce : Env} {fp : List Addr} {E : XK} {pins : List (Addr × Obj)} {σ : L2.St}
theorem toB (I : L2.Inv (X.blk s H scope ce fp) pins σ H1 s1) : L2.Inv (bx X s H scope ce fp E) pins σ H1 s1 := ⟨I.ok.toTry [] _, I.os, I.bare, I.base, I.loc, I.cell, I.free, I.freeC, I.pin, I.hok, I.len⟩
theorem ofB (I : L2.Inv (bx X s H scope ce fp E) pins σ H1 s1) : L2.Inv (X.blk s H scope ce fp) pins σ H1 s1 := ⟨Cx.Ok.ofTry (pn := []) I.ok, I.os, I.bare, I.base, I.loc, I.cell, I.free, I.freeC, I.pin, I.hok, I.len⟩
theorem passB : Passes (L2.CX X.prog X.w) (bx X s H scope ce fp E) E := fun pins σ H s e s' I c => ⟨σ, H, s, ofB (I.unpinned (pins := [])), c⟩
end
/-- what came out of a call in the block goes on in the def -/
theorem out {X : Cx} {s3 s' : Shared} {H3 H0 : Hp} {scope : Scope} {ce : Env} {fp : List Addr} {E : XK} {pins : List (Addr × Obj)} {σ : L2.St} {u : Value} {use : Option (Value → Sem Unit)} {Qf : Value → Shared → Prop} {D : Value}
    (hs : X.stack = X.env :: X.outer) (hf : X.env.frame = some X.env.locals) (tk : Takes X (fun cls d _ H => E cls d H)) (I3 : L2.Inv X pins σ H3 s3) (hcf : ce.frame = X.env.frame) (cL : ce.locals = s3.heap.objs.size)
    (hfp : ∀ b ∈ fp, FpOk X pins H0 b) (h : ∃ (σ' : L2.St) (H' : Hp) (s1 : Shared), L2.Inv (X.blk s3 H3 scope ce fp) [] σ' H' s1 ∧ L2.CX X.prog X.w X.stack H' s1 E u s') :
    notedBy (model X.prog X.w) X.A ce (fun e s2 => compEnds (model X.prog X.w) X.A X.xe use Qf D ce (.error e) s2) u s' := by
  obtain ⟨σ', H', s1, IB, c⟩ := h
  have I7 : L2.Inv X pins σ H' s1 := I3.call' (ch := fp) IB.os IB.base IB.hok IB.bare fun b hb => ⟨(hfp b hb).2.2.2.1, (hfp b hb).2.1, (hfp b hb).2.2.2.2.1, (hfp b hb).2.2.2.2.2⟩
  have hC : H' ce.locals = none := IB.free
  obtain ⟨f0, f1, f2, f3, f4, f5⟩ : FpOk X pins H' ce.locals := I3.fpOk (Nat.le_of_eq cL.symm) hC
  have nst : ce.locals ∉ frs X.stack := fun z => by
    rw [hs] at z
    unfold frs at z
    rw [List.filterMap_cons, hf] at z
    rcases List.mem_cons.mp z with z | z
    · exact f1 z
    · exact f2 z
  obtain ⟨m, hn, _⟩ := IB.loc
  obtain ⟨o, es, ep, ho, hd, r⟩ := hn
  obtain ⟨a, B, H'', cls, d, rfl, fl, hok, ub, na, os, ag, hE⟩ := c
  have hCs : s'.heap.Ns ce.locals m := ⟨o, es, ep, fl.1 _ _ (ub.keep _ _ ho hC nst), hd, r⟩
  refine fails hs hf tk hcf hCs f1 f3 f4 (fun p hp => f5 p (List.mem_append_left _ hp)) ?_
  exact XE.of_call (E := fun cls d H => E cls d H ∧ H ce.locals = none) I7 (fun cls d H h => h) ⟨a, B, H'', cls, d, rfl, fl, hok, ub, na, os, ag, hE, ub.free _ _ ho hC⟩
end RC
namespace RC
open PySem PySem.Spec PyProof.Rows L2 HandSPX
/-- [elt for tg in iter], where a call in elt may let E out -/
theorem core {X : Cx} {tg iter elt : Expr} {scope : Scope} {own : List (Str × Nat)} {pos : Pos} {wi : TI} {g : TG} {te : TE} {E : XK} (hc : X.calm = true) (hN : X.N.Nodup) (hs : X.stack = X.env :: X.outer) (hf : X.env.frame = some X.env.locals) (tk : Takes X (fun cls d _ H => E cls d H))
    (hi : PI X tg iter wi) (ok : BlkOk X.N X.env.scope scope own) (hg : ∀ (s : Shared) (H : Hp) (C : Addr) (cl : List (Str × Addr)) (fp : List Addr), PG (X.blk s H scope (compEnvC scope cl C X.env) fp) tg g)
    (he : ∀ (s : Shared) (H : Hp) (C : Addr) (cl : List (Str × Addr)) (fp : List Addr), PE (bx X s H scope (compEnvC scope cl C X.env) fp E) elt te) (h0 : ∀ x, foldedSetIterable iter X.env x = pure x) {pins : List (Addr × Obj)} {s : Shared} {σ : L2.St} {H : Hp} {Q : VK} {pos' : Pos} {use : Option (Value → Sem Unit)} {Qf : Value → Shared → Prop} (I : L2.Inv X pins σ H s) (h : tLc wi g tYes te (own.map (·.2)) σ H Q)
    (hRR : ∀ (D : Addr) (ce : Env) (s' : Shared) (m : Str → Option Value) (H' : Hp), L2.Inv X pins σ H' s' → Q (.ref D) H' → s'.heap.Ns ce.locals m → FpOk X pins H' ce.locals → compEnds (model X.prog X.w) X.A X.xe use Qf (.ref D) ce (.ok .next) s') :
    wpAny (model X.prog X.w) X.A (comprehension (.ListComp elt [⟨tg, iter, [], 0⟩] scope pos) scope X.env pos' (newList []) false (eval iter X.env) use) Qf X.xe s := by
  have free : ∀ y ∈ scope.names, y.2 = .free → ∃ c, X.env.cells.lookup y.1 = some c := fun y hy e => (ok.free y hy e).elim (fun k => I.ok.has _ (.inl k)) fun k => I.ok.has _ (.inr k)
  refine comprehension_at (use := use) rfl h0 (closure_ok free) ok.kind (fun y hy e => by rw [ok.uniq y hy, e]) (thn (hi.run pins s σ H _ I h) fun xv _ hx => thn hx fun itv s2 h2 => ?_)
  obtain ⟨it, fp, tn, J, H2, rfl, I2, T, st2, f2, q⟩ := h2
  refine wpAny_newObj_type (newEnv_comp ?_) (by show 0 ≤ sizeLine; decide)
  have hDn : H2 s2.heap.objs.size = none := I2.hok.fresh (Nat.le_refl _)
  obtain ⟨Wt, ⟨m0, w0⟩, turn⟩ := q _ hDn
  -- behind the new list
  generalize e3 : ({ s2 with heap := s2.heap.push { cls := .type "list", data := .seq ([] : List Value).toArray } } : Shared) = s3
  have hp3 : s3.heap = s2.heap.push { cls := .type "list", data := .seq ([] : List Value).toArray } := by rw [← e3]
  have I3 : L2.Inv X pins σ (upd H2 s2.heap.objs.size (.lst [])) s3 := by
    rw [← e3]
    exact I2.laid (t' := s2.toks) (fun b o e => Heap.get?_push_of_some _ e) (Nat.le_refl _) ⟨Nat.zero_le _, [], 0, .nil, Heap.get?_push_size _ rfl⟩
  have lt2 : ∀ b ∈ fp, b < s2.heap.objs.size := fun b hb => let ⟨_, e, _⟩ := T.obj _ _ st2 b hb; Heap.lt_size e
  have f3 : ∀ b ∈ fp, FpOk X pins (upd H2 s2.heap.objs.size (.lst [])) b ∧ b < s3.heap.objs.size := fun b hb => by
    refine ⟨⟨?_, (f2 b hb).2⟩, ?_⟩
    · rw [upd_ne (Nat.ne_of_lt (lt2 b hb))]; exact (f2 b hb).1
    · rw [hp3, Heap.size_push]; exact Nat.lt_succ_of_lt (lt2 b hb)
  have st3 : tn 0 s3.heap := T.keep _ _ _ st2 fun b _ o e => by rw [hp3]; exact Heap.get?_push_of_some _ e
  have IB := block_start I3 ok hN f3
  have pg := hg s3 (upd H2 s2.heap.objs.size (.lst [])) s3.heap.objs.size (cellsFrom (s3.heap.objs.size + 1) scope.names (cloFrom X.env.cells scope.names [])) fp
  have pe := he s3 (upd H2 s2.heap.objs.size (.lst [])) s3.heap.objs.size (cellsFrom (s3.heap.objs.size + 1) scope.names (cloFrom X.env.cells scope.names [])) fp
  show codeAny (model X.prog X.w) X.A (.compStart (.ListComp elt [⟨tg, iter, [], 0⟩] scope pos) 0 (.ref it) (.ref s2.heap.objs.size) (compEnvC scope (cellsFrom (s3.heap.objs.size + 1) scope.names (cloFrom X.env.cells scope.names [])) s3.heap.objs.size X.env))
    (compEnds (model X.prog X.w) X.A X.xe use Qf (.ref s2.heap.objs.size) (compEnvC scope (cellsFrom (s3.heap.objs.size + 1) scope.names (cloFrom X.env.cells scope.names [])) s3.heap.objs.size X.env)) { s3 with heap := pushCells (s3.heap.push { cls := .type "dict", data := .dict #[] }) scope.names }
  have cF : (compEnvC scope (cellsFrom (s3.heap.objs.size + 1) scope.names (cloFrom X.env.cells scope.names [])) s3.heap.objs.size X.env).frame = X.env.frame := rfl
  have cL : (compEnvC scope (cellsFrom (s3.heap.objs.size + 1) scope.names (cloFrom X.env.cells scope.names [])) s3.heap.objs.size X.env).locals = s3.heap.objs.size := rfl
  generalize compEnvC scope (cellsFrom (s3.heap.objs.size + 1) scope.names (cloFrom X.env.cells scope.names [])) s3.heap.objs.size X.env = ce at IB pg pe cF cL ⊢
  generalize upd H2 s2.heap.objs.size (.lst []) = H3 at I3 IB pg pe w0 f3
  have old4 : ∀ b o, s3.heap.get? b = some o → (pushCells (s3.heap.push { cls := .type "dict", data := .dict #[] }) scope.names).get? b = some o := fun b o e => pushCells_keeps _ _ _ _ (Heap.get?_push_of_some _ e)
  generalize pushCells (s3.heap.push { cls := .type "dict", data := .dict #[] }) scope.names = h4 at IB old4 ⊢
  have st4 : tn 0 h4 := T.keep _ _ _ st3 fun b _ o e => old4 b o e
  have nfp : ∀ b ∈ fp, H3 b = none := fun b hb => (f3 b hb).1.1
  have fpB : ∀ {σ' : L2.St} {H' : Hp} {s' : Shared}, L2.Inv (X.blk s3 H3 scope ce fp) [] σ' H' s' → (∀ b ∈ fp, H' b = none) → ∀ b ∈ fp, FpOk (X.blk s3 H3 scope ce fp) [] H' b := fun {σ' H' s'} I' hn b hb =>
    ⟨hn b hb, (I'.ok.exf b hb).1, I'.ok.exfs b hb, .inl hb, fun x c e => (I'.ok.exf b hb).2 x c e, fun p hp => absurd (show p ∈ ([] : List (Addr × Obj)) ++ [] from hp) (by simp)⟩
  generalize hw : own.map (·.2) = vs at turn IB
  have raised : ∀ u s', (bx X s3 H3 scope ce fp E).xe u s' → notedBy (model X.prog X.w) X.A ce (fun e s2' => compEnds (model X.prog X.w) X.A X.xe use Qf (.ref s2.heap.objs.size) ce (.error e) s2') u s' := fun u s' hx => out hs hf tk I3 cF cL (fun b hb => (f3 b hb).1) hx
  have loop : codeAny (model X.prog X.w) X.A (.compLoop (.ListComp elt [⟨tg, iter, [], 0⟩] scope pos) 0 (.ref it) (.ref s2.heap.objs.size) ce) (compEnds (model X.prog X.w) X.A X.xe use Qf (.ref s2.heap.objs.size) ce) { s3 with heap := h4 } := by
    refine compLoop_any (fun n s' => ∃ k H', L2.Inv (X.blk s3 H3 scope ce fp) [] (wipe σ vs) H' s' ∧ tn k s'.heap ∧ (∀ b ∈ fp, H' b = none) ∧ Wt k n H') ?_ m0 ⟨0, H3, IB, st4, nfp, w0⟩
    rintro n s5 ⟨k, H5, I5, st5, n5, w5⟩
    rcases turn k n H5 w5 with ⟨stop, fin⟩ | ⟨go, Nx, hNx, step⟩
    · refine thnF (T.done (X.blk s3 H3 scope ce fp) rfl rfl rfl hc k [] s5 _ H5 (fun _ _ => False) I5 (fpB I5 n5) st5 stop) fun r s6 ⟨hr, I6⟩ => ?_
      subst hr
      have I7 : L2.Inv X pins σ H5 s6 := I3.call' (ch := fp) I6.os I6.base I6.hok I6.bare fun b hb => ⟨(f3 b hb).1.2.2.2.1, (f3 b hb).1.2.1, (f3 b hb).1.2.2.2.2.1, (f3 b hb).1.2.2.2.2.2⟩
      obtain ⟨m, hn, _⟩ := I6.loc
      exact hRR _ ce s6 m H5 I7 fin hn (I3.fpOk (Nat.le_of_eq cL.symm) I6.free)
    · refine thnF (T.item (X.blk s3 H3 scope ce fp) rfl rfl rfl hc k [] s5 _ H5 (fun _ _ => False) I5 (fpB I5 n5) st5 go) fun r s6 ⟨v, hr, h6⟩ => ?_
      subst hr
      refine thnF h6 fun _ s7 ⟨x, H7, I7, r7, y7, st7, n7⟩ => ?_
      have I7p := I7.pinned (fpB I7 n7) (T.obj _ _ st7)
      refine thnF (pg.run _ s7 _ H7 x v _ I7p r7 (step x H7 y7)) fun _ s8 ⟨σ8, H8, I8, hw8, q8⟩ => ?_
      refine wpAny_tests_nil ?_
      have q8 : te σ8 H8 _ := q8
      refine wpAny_mono (pe.run _ s8 σ8 H8 _ (toB I8) q8) (fun z s10 hz => ?_) raised
      obtain ⟨yv, H10, I10, r10, acc, hD10, hz10, nx⟩ := hz
      refine app_ok (X := X.blk s3 H3 scope ce fp) (ofB I10) hD10 hz10 r10 fun s11 I11 => ?_
      obtain ⟨m', hm, w'⟩ := hNx _ nx
      have pin : ∀ b ∈ fp, ∀ o, s7.heap.get? b = some o → s11.heap.get? b = some o ∧ _ = none := fun b hb o e =>
        let z := I11.pin (b, o) (List.mem_append_right _ (List.mem_append_right _ (mem_pinsAt hb e)))
        ⟨z.1, z.2.1⟩
      refine ⟨m', hm, k + 1, _, (I11.unpinned (pins := [])).weak (by rw [← hw8, wipe_length]) (fun j v e => ?_), T.keep _ _ _ st7 fun b hb o e => (pin b hb o e).1, fun b hb => ?_, w'⟩
      · rw [← hw8] at e
        exact (wipe_some e).1
      · obtain ⟨o, e, _⟩ := T.obj _ _ st7 b hb
        exact (pin b hb o e).2
  exact codeAny_compStart_list loop (T.self X.A 0 _ _ _ st4 loop)
section
variable {X : Cx} {tg iter elt : Expr} {scope : Scope} {own : List (Str × Nat)} {pos : Pos} {wi : TI} {g : TG} {te : TE} {E : XK}
/-- .. as a value -/
theorem pe_lcX (hc : X.calm = true) (hN : X.N.Nodup) (hs : X.stack = X.env :: X.outer) (hf : X.env.frame = some X.env.locals) (tk : Takes X (fun cls d _ H => E cls d H))
    (hi : PI X tg iter wi) (ok : BlkOk X.N X.env.scope scope own) (hg : ∀ (s : Shared) (H : Hp) (C : Addr) (cl : List (Str × Addr)) (fp : List Addr), PG (X.blk s H scope (compEnvC scope cl C X.env) fp) tg g)
    (he : ∀ (s : Shared) (H : Hp) (C : Addr) (cl : List (Str × Addr)) (fp : List Addr), PE (bx X s H scope (compEnvC scope cl C X.env) fp E) elt te) (h0 : ∀ x, foldedSetIterable iter X.env x = pure x := by intro _; rfl) :
    PE X (.ListComp elt [⟨tg, iter, [], 0⟩] scope pos) (GD.tLcI wi g tYes te (own.map (·.2))) := by
  unfold GD.tLcI
  refine ⟨fun pins s σ H Q I h => ?_⟩
  rw [eval_ListComp]
  refine core hc hN hs hf tk hi ok hg he h0 I h fun D ce s' m H' I' q hn ⟨f0, f1, _, f3, f4, f5⟩ => ?_
  exact ⟨m, hn, fun h' sb => ⟨.ref D, H', I'.turned (t' := s'.toks) (fun b o hb e => (sb.2 b hb).trans e) f0 f1 f3 f4 f5, rfl, q⟩⟩
/-- .. stored under a name of the def -/
theorem ps_setLcX {i : Nat} {y : Str} {py spos : Pos} (hc : X.calm = true) (hN : X.N.Nodup) (hy : X.N[i]? = some y) (hyl : X.env.scope.names.lookup y = some .local) (hsw : swapsWith (.ListComp elt [⟨tg, iter, [], 0⟩] scope pos) (some (.Name y py)) spos.line X.env = pure true)
    (hs : X.stack = X.env :: X.outer) (hf : X.env.frame = some X.env.locals) (tk : Takes X (fun cls d _ H => E cls d H))
    (hi : PI X tg iter wi) (ok : BlkOk X.N X.env.scope scope own) (hg : ∀ (s : Shared) (H : Hp) (C : Addr) (cl : List (Str × Addr)) (fp : List Addr), PG (X.blk s H scope (compEnvC scope cl C X.env) fp) tg g)
    (he : ∀ (s : Shared) (H : Hp) (C : Addr) (cl : List (Str × Addr)) (fp : List Addr), PE (bx X s H scope (compEnvC scope cl C X.env) fp E) elt te) (h0 : ∀ x, foldedSetIterable iter X.env x = pure x := by intro _; rfl) :
    PS X (.Assign [.Name y py] (.ListComp elt [⟨tg, iter, [], 0⟩] scope pos) spos) (tAsg (GD.tLcI wi g tYes te (own.map (·.2))) (gName i)) := by
  unfold GD.tLcI
  refine ⟨fun pins s σ H D I h => ?_⟩
  have h : tLc wi g tYes te (own.map (·.2)) σ H (fun x H1 => gName i x σ H1 D.nx) := h
  rw [exec_Assign_Name_used _ _ _ _ hsw]
  refine wpAny_bind (wpAny_standAt (wpAny_bind ?_))
  refine wpAny_bind (thn (core (Qf := fun _ s' => SP X pins D .next s') hc hN hs hf tk hi ok hg he h0 I h fun L ce s' m H' I' q hn f => ?_) fun _ s' hq => wpAny_pure (wpAny_pure hq))
  show wpAny _ _ (assign (.Name y py) X.env (.ref L)) _ _ _
  refine wpAny_assign_Name (store_ok2 (v := V.ref L) I' hN hy (.inl hyl) rfl (fun s2 I2 ⟨a, sb, ha⟩ => ?_) (.inr hyl))
  obtain ⟨f0, f1, f2, f3, f4, f5⟩ := f
  have ne : ce.locals ≠ a := ha.elim (fun z e => f1 (e.trans z)) fun z e => f4 y a z e.symm
  exact ⟨m, hn.sameBut sb ne, fun h3 sb3 => ⟨_, H', I2.turned (t' := s2.toks) (fun b o hb e => (sb3.2 b hb).trans e) f0 f1 f3 f4 f5, q⟩⟩
end
end RC
namespace RC
open PySem PySem.Spec PyProof.Rows L2 GxR GS GA GD
/-- [g for x in us] where the item may raise: each item told by a relation, as far as there was one -/
theorem rd_lcX {κ ρ : Type} {F : V → κ → Prop} {us : List V} {ks : List κ} (hp : Paired F us ks) {K : PySem.W.Frag} {Rel : Hp → V → ρ → Prop} {hk : κ → Option ρ} {te : TE} {i : Nat} {σ : L2.St} {H : Hp} {Q : VK} (hz : us.length ≤ sizeLine) {tl : TE}
    (htl : ∀ R : VK, (∀ a H1, Sm H H1 → Sq K H1 a us → R (.ref a) H1) → tl σ H R) (mono : ∀ {H' H'' : Hp} {v : V} {z : ρ}, Tu H' H'' → Rel H' v z → Rel H'' v z)
    (hte : ∀ x y H' (R : VK), F x y → y ∈ ks → Sm H H' → (∀ v H'' r, Sm H' H'' → hk y = some r → Rel H'' v r → R v H'') → te ((wipe σ [i]).set i (some x)) H' R)
    (hq : ∀ D H' vs rs, H D = none → Sm H H' → H' D = some (.lst vs) → ks.map hk = rs.map some → Paired (Rel H') vs rs → Q (.ref D) H') : tLcI (iSq K tl) (gName i) tYes te [i] σ H Q := by
  have core : ∀ (H1 : Hp), Sm H H1 → ∀ (J : It) (G : Hp → Prop), Walk J us.length G (YAt us) → (∀ H', Sm H1 H' → G H') → ∀ D, H1 D = none → ∃ W : Nat → Nat → Hp → Prop, (∃ m, W 0 m (upd H1 D (.lst []))) ∧ ∀ k m H, W k m H →
      (J.stop k H ∧ Q (.ref D) H) ∨ (J.go k H ∧ ∃ Nx : Hp → Prop, (∀ H', Nx H' → ∃ m', m' < m ∧ W (k + 1) m' H') ∧ ∀ x H', J.yld k H x H' → gName i x (wipe σ [i]) H' fun σ2 H2 => wipe σ2 [i] = wipe σ [i] ∧ tYes σ2 H2 fun b H3 =>
        if b = true then te σ2 H3 fun y H4 => ∃ acc, H4 D = some (.lst acc) ∧ acc.length < sizeLine ∧ Nx (upd H4 D (.lst (acc ++ [y]))) else Nx H3) := by
    intro H1 s1 J G w hG D hD
    refine lc_it w (Qd := fun H => Q (.ref D) H) (fun k H' => Sm H1 H' ∧ ∃ vs rs, H' D = some (.lst vs) ∧ vs.length = k ∧ (ks.take k).map hk = rs.map some ∧ Paired (Rel H') vs rs) ⟨Sm.new hD, [], [], upd_same, rfl, rfl, .nil⟩ (fun k H' _ z => hG H' z.1) (fun k x H' H'' hk' r y => ?_) fun H' r => ?_
    · obtain ⟨rfl, hx⟩ := y
      obtain ⟨y, hy, hF⟩ := Paired.get hp hx
      obtain ⟨r1, vs, rs, r2, r3, r5, r4⟩ := r
      refine ⟨wipe_set σ i (some x), ?_⟩
      dsimp only [tYes]
      rw [if_pos rfl]
      refine hte x y H'' _ hF (List.mem_of_getElem? hy) (s1.trans r1) fun v H4 z s4 ez hv => ?_
      have q4 := s4.st D _ r2 fun _ z => by cases z
      have t4 : Tu H4 (upd H4 D (.lst (vs ++ [v]))) := Tu.lset q4
      refine ⟨vs, q4, by omega, Sm.own (r1.trans s4) hD (fun P t => tabG_ne t q4 fun _ z => by cases z), vs ++ [v], rs ++ [z], upd_same, by rw [List.length_append, r3]; rfl, ?_, GD.Paired.snoc (GD.Paired.imp (fun _ _ z => mono (s4.tu.trans t4) z) r4) (mono t4 hv)⟩
      rw [List.take_add_one, hy, List.map_append, List.map_append, r5]
      show _ ++ [hk y] = _ ++ [some z]
      rw [ez]
    · obtain ⟨r1, vs, rs, r2, r3, r5, r4⟩ := r
      rw [List.take_of_length_le (by rw [Paired.len hp]; exact Nat.le_refl _)] at r5
      exact hq D H' vs rs (s1.fr D hD) (s1.trans r1) r2 r5 r4
  unfold tLcI tLc
  refine htl _ fun a H1 s1 hs => ⟨a, rfl, ?_⟩
  rcases hs with hs | hs
  · exact .inl ⟨⟨us, hs⟩, core H1 s1 _ _ walk_list fun H' s => s.lst hs⟩
  · exact .inr ⟨⟨us, hs⟩, core H1 s1 _ _ walk_tup fun H' s => s.tup hs⟩
end RC

-- part H08
set_option Elab.async false
set_option linter.all false
set_option maxRecDepth 100000
set_option maxHeartbeats 0
namespace K8
open PySem PySem.Spec PyProof.Rows L2
def top (i : Nat) : Stmt := PySem.Challenge.pw_whoevermay_k03_charters_edited.main.body.getD i (.Pass ⟨0, 0, 0, 0⟩)
abbrev sis_name : Stmt := top 9
abbrev s_check_names : Stmt := top 10
abbrev s_listed : Stmt := top 11
abbrev s_share : Stmt := top 12
abbrev s_kept_founders : Stmt := top 13
abbrev s_has_its_parts : Stmt := top 14
abbrev s_kept_rule : Stmt := top 15
abbrev s_check_right : Stmt := top 16
abbrev s_put : Stmt := top 17
abbrev s_law_row : Stmt := top 20
abbrev s_law_numbers : Stmt := top 21
abbrev s_law_names : Stmt := top 22
abbrev s_law_some : Stmt := top 23
abbrev s_law_rule : Stmt := top 24
abbrev s_law_count : Stmt := top 25
abbrev s_law_parts : Stmt := top 26
abbrev s_law_made : Stmt := top 27
abbrev s_law_ordered : Stmt := top 28
abbrev s_law_frozen : Stmt := top 29
abbrev s_law_same : Stmt := top 30
abbrev s_law_answer : Stmt := top 31
abbrev s_law_due : Stmt := top 32
abbrev s_law_in : Stmt := top 33
abbrev slaw : Stmt := top 34
abbrev sCharter___init__ : Stmt := inClass (top 18) 0
abbrev sCharter_with_rule : Stmt := inClass (top 18) 7
abbrev sCharter_without_rules : Stmt := inClass (top 18) 8
abbrev sCharter_with_founder : Stmt := inClass (top 18) 9
abbrev sCharter_rule_names : Stmt := inClass (top 18) 3
def dis_name : He.DefD := ⟨("is_name", none), "is_name", "is_name", defArgs sis_name, defBody sis_name, defScope sis_name, [], []⟩
def d_check_names : He.DefD := ⟨("_check_names", none), "_check_names", "_check_names", defArgs s_check_names, defBody s_check_names, defScope s_check_names, [], []⟩
def d_listed : He.DefD := ⟨("_listed", none), "_listed", "_listed", defArgs s_listed, defBody s_listed, defScope s_listed, [], []⟩
def d_share : He.DefD := ⟨("_share", none), "_share", "_share", defArgs s_share, defBody s_share, defScope s_share, [], []⟩
def d_kept_founders : He.DefD := ⟨("_kept_founders", none), "_kept_founders", "_kept_founders", defArgs s_kept_founders, defBody s_kept_founders, defScope s_kept_founders, [], []⟩
def d_has_its_parts : He.DefD := ⟨("_has_its_parts", none), "_has_its_parts", "_has_its_parts", defArgs s_has_its_parts, defBody s_has_its_parts, defScope s_has_its_parts, [], []⟩
def d_kept_rule : He.DefD := ⟨("_kept_rule", none), "_kept_rule", "_kept_rule", defArgs s_kept_rule, defBody s_kept_rule, defScope s_kept_rule, [], []⟩
def d_check_right : He.DefD := ⟨("_check_right", none), "_check_right", "_check_right", defArgs s_check_right, defBody s_check_right, defScope s_check_right, [], []⟩
def d_put : He.DefD := ⟨("_put", none), "_put", "_put", defArgs s_put, defBody s_put, defScope s_put, [], []⟩
def d_law_row : He.DefD := ⟨("_law_row", none), "_law_row", "_law_row", defArgs s_law_row, defBody s_law_row, defScope s_law_row, [], []⟩
def d_law_numbers : He.DefD := ⟨("_law_numbers", none), "_law_numbers", "_law_numbers", defArgs s_law_numbers, defBody s_law_numbers, defScope s_law_numbers, [], []⟩
def d_law_names : He.DefD := ⟨("_law_names", none), "_law_names", "_law_names", defArgs s_law_names, defBody s_law_names, defScope s_law_names, [], []⟩
def d_law_some : He.DefD := ⟨("_law_some", none), "_law_some", "_law_some", defArgs s_law_some, defBody s_law_some, defScope s_law_some, [], []⟩
def d_law_rule : He.DefD := ⟨("_law_rule", none), "_law_rule", "_law_rule", defArgs s_law_rule, defBody s_law_rule, defScope s_law_rule, [], []⟩
def d_law_count : He.DefD := ⟨("_law_count", none), "_law_count", "_law_count", defArgs s_law_count, defBody s_law_count, defScope s_law_count, [], []⟩
def d_law_parts : He.DefD := ⟨("_law_parts", none), "_law_parts", "_law_parts", defArgs s_law_parts, defBody s_law_parts, defScope s_law_parts, [], []⟩
def d_law_made : He.DefD := ⟨("_law_made", none), "_law_made", "_law_made", defArgs s_law_made, defBody s_law_made, defScope s_law_made, [], []⟩
def d_law_ordered : He.DefD := ⟨("_law_ordered", none), "_law_ordered", "_law_ordered", defArgs s_law_ordered, defBody s_law_ordered, defScope s_law_ordered, [], []⟩
def d_law_frozen : He.DefD := ⟨("_law_frozen", none), "_law_frozen", "_law_frozen", defArgs s_law_frozen, defBody s_law_frozen, defScope s_law_frozen, [], []⟩
def d_law_same : He.DefD := ⟨("_law_same", none), "_law_same", "_law_same", defArgs s_law_same, defBody s_law_same, defScope s_law_same, [], []⟩
def d_law_answer : He.DefD := ⟨("_law_answer", none), "_law_answer", "_law_answer", defArgs s_law_answer, defBody s_law_answer, defScope s_law_answer, [], []⟩
def d_law_due : He.DefD := ⟨("_law_due", none), "_law_due", "_law_due", defArgs s_law_due, defBody s_law_due, defScope s_law_due, [], []⟩
def d_law_in : He.DefD := ⟨("_law_in", none), "_law_in", "_law_in", defArgs s_law_in, defBody s_law_in, defScope s_law_in, [], []⟩
def dlaw : He.DefD := ⟨("law", none), "law", "law", defArgs slaw, defBody slaw, defScope slaw, [], []⟩
def dCharter___init__ : He.DefD := ⟨("Charter", some "__init__"), "__init__", "Charter.__init__", defArgs sCharter___init__, defBody sCharter___init__, defScope sCharter___init__, [], [("sole", .adr (Hd.kwAt ("Charter", some "__init__") "sole")), ("founders", .adr (Hd.kwAt ("Charter", some "__init__") "founders")), ("rules", .adr (Hd.kwAt ("Charter", some "__init__") "rules"))]⟩
def dCharter_with_rule : He.DefD := ⟨("Charter", some "with_rule"), "with_rule", "Charter.with_rule", defArgs sCharter_with_rule, defBody sCharter_with_rule, defScope sCharter_with_rule, [], []⟩
def dCharter_without_rules : He.DefD := ⟨("Charter", some "without_rules"), "without_rules", "Charter.without_rules", defArgs sCharter_without_rules, defBody sCharter_without_rules, defScope sCharter_without_rules, [], []⟩
def dCharter_with_founder : He.DefD := ⟨("Charter", some "with_founder"), "with_founder", "Charter.with_founder", defArgs sCharter_with_founder, defBody sCharter_with_founder, defScope sCharter_with_founder, [], []⟩
def fn : List He.DefD := [dis_name, d_check_names, d_listed, d_share, d_kept_founders, d_has_its_parts, d_kept_rule, d_check_right, d_put, d_law_row, d_law_numbers, d_law_names, d_law_some, d_law_rule, d_law_count, d_law_parts, d_law_made, d_law_ordered, d_law_frozen, d_law_same, d_law_answer, d_law_due, d_law_in, dlaw, dCharter___init__, dCharter_with_rule, dCharter_without_rules, dCharter_with_founder]
def pCharter_rule_names : Hd.PrD := ⟨"Charter", "rule_names", "rule_names", "Charter.rule_names", defArgs sCharter_rule_names, defBody sCharter_rule_names, defScope sCharter_rule_names⟩
def prs : List Hd.PrD := [pCharter_rule_names]
def fa : List He.Fa := [.glo "is_name", .glo "_check_names", .glo "_listed", .glo "_share", .glo "_kept_founders", .glo "_has_its_parts", .glo "_kept_rule", .glo "_check_right", .glo "_put", .glo "_law_row", .glo "_law_numbers", .glo "_law_names", .glo "_law_some", .glo "_law_rule", .glo "_law_count", .glo "_law_parts", .glo "_law_made", .glo "_law_ordered", .glo "_law_frozen", .glo "_law_same", .glo "_law_answer", .glo "_law_due", .glo "_law_in", .glo "law", .glo "Charter", .glo "InvalidCharter", .glo "WhoevermayError", .glo "LISTS", .glo "UnknownName", .free "len", .free "set", .free "all", .free "any", .free "tuple", .free "abs", .free "int", .free "range", .free "max", .free "isinstance", .free "str", .free "list", .free "super", .free "ValueError", .str "LETTERS" "abcdefghijklmnopqrstuvwxyz", .str "SIGNS" "abcdefghijklmnopqrstuvwxyz0123456789", .cls "Charter", .mkr "Charter", .noat "Charter" "rights", .noat "Charter" "sole", .noat "Charter" "founders", .noat "Charter" "rules", .exc "InvalidCharter", .exc "WhoevermayError", .exm "InvalidCharter" "InvalidCharter" true, .exm "UnknownName" "UnknownName" true, .exm "UnknownName" "InvalidCharter" false, .meth "Charter" "with_rule", .meth "Charter" "without_rules", .meth "Charter" "with_founder"]
def tf : List He.Defn := [("is_name", none), ("_check_names", none), ("_listed", none), ("_share", none)]
def tbs : List He.Tab := [(fun K => He.ga K "LISTS", ["join", "claim", "drop", "give", "take", "pass"])]
def exq : PySem.W.Frag → Bool := fun K => (Hd.emptyB K (Hd.kwAt ("Charter", some "__init__") "sole" K) && (Hd.emptyB K (Hd.kwAt ("Charter", some "__init__") "founders" K) && Hd.emptyB K (Hd.kwAt ("Charter", some "__init__") "rules" K))) && He.valsB K (He.ga K "LISTS") [("join", .int 1), ("claim", .int 2), ("drop", .int 2), ("give", .int 3), ("take", .int 3), ("pass", .int 3)]
abbrev sUnknownName___init__ : Stmt := inClass (top 4) 0
def suUnknownName : Hd.SuD := ⟨"UnknownName", "name", "name", "UnknownName.__init__", defArgs sUnknownName___init__, defBody sUnknownName___init__, defScope sUnknownName___init__⟩
def sus : List Hd.SuD := [suUnknownName]
def exk : PySem.W.Frag → Bool := fun K => (Hd.excB K (He.ga K "UnknownName") && (Hd.excB K (He.ga K "InvalidCharter") && (decide (PySem.W.kitOne K (.ref (He.ga K "InvalidCharter")) (.ref (He.ga K "UnknownName")) = some false) && (decide (PySem.W.kitOne K (.ref (He.ga K "InvalidCharter")) (.type "ValueError") = some true) && true))))
abbrev R : PySem.W.OpenRow := PySem.W.OpenLaw.row PySem.Challenge.rw_whoevermay_k03_charters_edited
abbrev hk : PySem.W.Hook := Hd.hookS R.prog 6 fa fn tbs tf (fun K => exq K && exk K) prs sus
def ob (s : PySem.W.SharedT) : Hd.AlS := Hd.obsS R.prog 6 fa fn tbs tf (fun K => exq K && exk K) prs sus (HandSHeadRun.getT s)
theorem ob_eq (s : PySem.W.SharedT) : ob s = hk.obs s.abs := Hd.obsS_eq (HandSHeadRun.getT_eq s)
def loose : List Str := (["_wall", "WhoevermayError", "InvalidCharter", "UnknownName", "LETTERS", "SIGNS", "LISTS", "is_name", "_check_names", "_listed", "_share", "_kept_founders", "_has_its_parts", "_kept_rule", "_check_right", "_put", "Charter", "_law_row", "_law_numbers", "_law_names", "_law_some", "_law_rule", "_law_count", "_law_parts", "_law_made", "_law_ordered", "_law_frozen", "_law_same", "_law_answer", "_law_due", "_law_in"] : List Str)
def steps : Nat := 8000
theorem runF (w : World) : HandSHeadRun.RunEq R (PySem.W.view R.prog [34]) hk ob steps loose (PySem.World.withFollow w "special-get-raises" false) := by
  intro os
  kernel_rfl
theorem runT (w : World) : HandSHeadRun.RunEq R (PySem.W.view R.prog [34]) hk ob steps loose (PySem.World.withFollow w "special-get-raises" true) := by
  intro os
  kernel_rfl
theorem run (w : World) : HandSHeadRun.RunEq R (PySem.W.view R.prog [34]) hk ob steps loose w := PySem.W.byRow2 "special-get-raises" (P := HandSHeadRun.RunEq R (PySem.W.view R.prog [34]) hk ob steps loose) runF runT w
end K8

-- part F08
set_option Elab.async false
set_option linter.all false
set_option maxRecDepth 100000
set_option maxHeartbeats 2000000
namespace K8
open PySem PySem.Spec PyProof.Rows L2
/-- what the walk of a def is given: the head's facts at h, the tables over base -/
structure Tx (w : World) (K : PySem.W.Frag) (mg : Str → Option Value) (base : Heap) : Prop where
  x : ∃ h : Heap, K.In h ∧ h.Ns mainGlobals mg ∧ Hd.SaysP fa fn tbs tf exq prs w h K
  tb : ∀ p ∈ tf, GxR.TabB base mg (He.cT K p).1 (He.cT K p).2
  sx : ∃ h : Heap, Hd.SaysS R.prog fa fn tbs tf (fun K => exq K && exk K) prs sus w h K
section
variable {w : World} {K : PySem.W.Frag} {mg : Str → Option Value} {base : Heap}
theorem Tx.glo_is_name (T : Tx w K mg base) : mg "is_name" = some (.ref (He.ga K "is_name")) := by
  obtain ⟨⟨h, X, G, c⟩, _⟩ := T
  exact He.glo_ok X G (c.x.t.d.fact 0 rfl)
theorem Tx.glo__check_names (T : Tx w K mg base) : mg "_check_names" = some (.ref (He.ga K "_check_names")) := by
  obtain ⟨⟨h, X, G, c⟩, _⟩ := T
  exact He.glo_ok X G (c.x.t.d.fact 1 rfl)
theorem Tx.glo__listed (T : Tx w K mg base) : mg "_listed" = some (.ref (He.ga K "_listed")) := by
  obtain ⟨⟨h, X, G, c⟩, _⟩ := T
  exact He.glo_ok X G (c.x.t.d.fact 2 rfl)
theorem Tx.glo__share (T : Tx w K mg base) : mg "_share" = some (.ref (He.ga K "_share")) := by
  obtain ⟨⟨h, X, G, c⟩, _⟩ := T
  exact He.glo_ok X G (c.x.t.d.fact 3 rfl)
theorem Tx.glo__kept_founders (T : Tx w K mg base) : mg "_kept_founders" = some (.ref (He.ga K "_kept_founders")) := by
  obtain ⟨⟨h, X, G, c⟩, _⟩ := T
  exact He.glo_ok X G (c.x.t.d.fact 4 rfl)
theorem Tx.glo__has_its_parts (T : Tx w K mg base) : mg "_has_its_parts" = some (.ref (He.ga K "_has_its_parts")) := by
  obtain ⟨⟨h, X, G, c⟩, _⟩ := T
  exact He.glo_ok X G (c.x.t.d.fact 5 rfl)
theorem Tx.glo__kept_rule (T : Tx w K mg base) : mg "_kept_rule" = some (.ref (He.ga K "_kept_rule")) := by
  obtain ⟨⟨h, X, G, c⟩, _⟩ := T
  exact He.glo_ok X G (c.x.t.d.fact 6 rfl)
theorem Tx.glo__check_right (T : Tx w K mg base) : mg "_check_right" = some (.ref (He.ga K "_check_right")) := by
  obtain ⟨⟨h, X, G, c⟩, _⟩ := T
  exact He.glo_ok X G (c.x.t.d.fact 7 rfl)
theorem Tx.glo__put (T : Tx w K mg base) : mg "_put" = some (.ref (He.ga K "_put")) := by
  obtain ⟨⟨h, X, G, c⟩, _⟩ := T
  exact He.glo_ok X G (c.x.t.d.fact 8 rfl)
theorem Tx.glo__law_row (T : Tx w K mg base) : mg "_law_row" = some (.ref (He.ga K "_law_row")) := by
  obtain ⟨⟨h, X, G, c⟩, _⟩ := T
  exact He.glo_ok X G (c.x.t.d.fact 9 rfl)
theorem Tx.glo__law_numbers (T : Tx w K mg base) : mg "_law_numbers" = some (.ref (He.ga K "_law_numbers")) := by
  obtain ⟨⟨h, X, G, c⟩, _⟩ := T
  exact He.glo_ok X G (c.x.t.d.fact 10 rfl)
theorem Tx.glo__law_names (T : Tx w K mg base) : mg "_law_names" = some (.ref (He.ga K "_law_names")) := by
  obtain ⟨⟨h, X, G, c⟩, _⟩ := T
  exact He.glo_ok X G (c.x.t.d.fact 11 rfl)
theorem Tx.glo__law_some (T : Tx w K mg base) : mg "_law_some" = some (.ref (He.ga K "_law_some")) := by
  obtain ⟨⟨h, X, G, c⟩, _⟩ := T
  exact He.glo_ok X G (c.x.t.d.fact 12 rfl)
theorem Tx.glo__law_rule (T : Tx w K mg base) : mg "_law_rule" = some (.ref (He.ga K "_law_rule")) := by
  obtain ⟨⟨h, X, G, c⟩, _⟩ := T
  exact He.glo_ok X G (c.x.t.d.fact 13 rfl)
theorem Tx.glo__law_count (T : Tx w K mg base) : mg "_law_count" = some (.ref (He.ga K "_law_count")) := by
  obtain ⟨⟨h, X, G, c⟩, _⟩ := T
  exact He.glo_ok X G (c.x.t.d.fact 14 rfl)
theorem Tx.glo__law_parts (T : Tx w K mg base) : mg "_law_parts" = some (.ref (He.ga K "_law_parts")) := by
  obtain ⟨⟨h, X, G, c⟩, _⟩ := T
  exact He.glo_ok X G (c.x.t.d.fact 15 rfl)
theorem Tx.glo__law_made (T : Tx w K mg base) : mg "_law_made" = some (.ref (He.ga K "_law_made")) := by
  obtain ⟨⟨h, X, G, c⟩, _⟩ := T
  exact He.glo_ok X G (c.x.t.d.fact 16 rfl)
theorem Tx.glo__law_ordered (T : Tx w K mg base) : mg "_law_ordered" = some (.ref (He.ga K "_law_ordered")) := by
  obtain ⟨⟨h, X, G, c⟩, _⟩ := T
  exact He.glo_ok X G (c.x.t.d.fact 17 rfl)
theorem Tx.glo__law_frozen (T : Tx w K mg base) : mg "_law_frozen" = some (.ref (He.ga K "_law_frozen")) := by
  obtain ⟨⟨h, X, G, c⟩, _⟩ := T
  exact He.glo_ok X G (c.x.t.d.fact 18 rfl)
theorem Tx.glo__law_same (T : Tx w K mg base) : mg "_law_same" = some (.ref (He.ga K "_law_same")) := by
  obtain ⟨⟨h, X, G, c⟩, _⟩ := T
  exact He.glo_ok X G (c.x.t.d.fact 19 rfl)
theorem Tx.glo__law_answer (T : Tx w K mg base) : mg "_law_answer" = some (.ref (He.ga K "_law_answer")) := by
  obtain ⟨⟨h, X, G, c⟩, _⟩ := T
  exact He.glo_ok X G (c.x.t.d.fact 20 rfl)
theorem Tx.glo__law_due (T : Tx w K mg base) : mg "_law_due" = some (.ref (He.ga K "_law_due")) := by
  obtain ⟨⟨h, X, G, c⟩, _⟩ := T
  exact He.glo_ok X G (c.x.t.d.fact 21 rfl)
theorem Tx.glo__law_in (T : Tx w K mg base) : mg "_law_in" = some (.ref (He.ga K "_law_in")) := by
  obtain ⟨⟨h, X, G, c⟩, _⟩ := T
  exact He.glo_ok X G (c.x.t.d.fact 22 rfl)
theorem Tx.glo_law (T : Tx w K mg base) : mg "law" = some (.ref (He.ga K "law")) := by
  obtain ⟨⟨h, X, G, c⟩, _⟩ := T
  exact He.glo_ok X G (c.x.t.d.fact 23 rfl)
theorem Tx.glo_Charter (T : Tx w K mg base) : mg "Charter" = some (.ref (He.ga K "Charter")) := by
  obtain ⟨⟨h, X, G, c⟩, _⟩ := T
  exact He.glo_ok X G (c.x.t.d.fact 24 rfl)
theorem Tx.glo_InvalidCharter (T : Tx w K mg base) : mg "InvalidCharter" = some (.ref (He.ga K "InvalidCharter")) := by
  obtain ⟨⟨h, X, G, c⟩, _⟩ := T
  exact He.glo_ok X G (c.x.t.d.fact 25 rfl)
theorem Tx.glo_WhoevermayError (T : Tx w K mg base) : mg "WhoevermayError" = some (.ref (He.ga K "WhoevermayError")) := by
  obtain ⟨⟨h, X, G, c⟩, _⟩ := T
  exact He.glo_ok X G (c.x.t.d.fact 26 rfl)
theorem Tx.glo_LISTS (T : Tx w K mg base) : mg "LISTS" = some (.ref (He.ga K "LISTS")) := by
  obtain ⟨⟨h, X, G, c⟩, _⟩ := T
  exact He.glo_ok X G (c.x.t.d.fact 27 rfl)
theorem Tx.glo_UnknownName (T : Tx w K mg base) : mg "UnknownName" = some (.ref (He.ga K "UnknownName")) := by
  obtain ⟨⟨h, X, G, c⟩, _⟩ := T
  exact He.glo_ok X G (c.x.t.d.fact 28 rfl)
theorem Tx.free_len (T : Tx w K mg base) : mg "len" = none := by
  obtain ⟨⟨h, X, G, c⟩, _⟩ := T
  exact He.free_ok X G (c.x.t.d.fact 29 rfl)
theorem Tx.free_set (T : Tx w K mg base) : mg "set" = none := by
  obtain ⟨⟨h, X, G, c⟩, _⟩ := T
  exact He.free_ok X G (c.x.t.d.fact 30 rfl)
theorem Tx.free_all (T : Tx w K mg base) : mg "all" = none := by
  obtain ⟨⟨h, X, G, c⟩, _⟩ := T
  exact He.free_ok X G (c.x.t.d.fact 31 rfl)
theorem Tx.free_any (T : Tx w K mg base) : mg "any" = none := by
  obtain ⟨⟨h, X, G, c⟩, _⟩ := T
  exact He.free_ok X G (c.x.t.d.fact 32 rfl)
theorem Tx.free_tuple (T : Tx w K mg base) : mg "tuple" = none := by
  obtain ⟨⟨h, X, G, c⟩, _⟩ := T
  exact He.free_ok X G (c.x.t.d.fact 33 rfl)
theorem Tx.free_abs (T : Tx w K mg base) : mg "abs" = none := by
  obtain ⟨⟨h, X, G, c⟩, _⟩ := T
  exact He.free_ok X G (c.x.t.d.fact 34 rfl)
theorem Tx.free_int (T : Tx w K mg base) : mg "int" = none := by
  obtain ⟨⟨h, X, G, c⟩, _⟩ := T
  exact He.free_ok X G (c.x.t.d.fact 35 rfl)
theorem Tx.free_range (T : Tx w K mg base) : mg "range" = none := by
  obtain ⟨⟨h, X, G, c⟩, _⟩ := T
  exact He.free_ok X G (c.x.t.d.fact 36 rfl)
theorem Tx.free_max (T : Tx w K mg base) : mg "max" = none := by
  obtain ⟨⟨h, X, G, c⟩, _⟩ := T
  exact He.free_ok X G (c.x.t.d.fact 37 rfl)
theorem Tx.free_isinstance (T : Tx w K mg base) : mg "isinstance" = none := by
  obtain ⟨⟨h, X, G, c⟩, _⟩ := T
  exact He.free_ok X G (c.x.t.d.fact 38 rfl)
theorem Tx.free_str (T : Tx w K mg base) : mg "str" = none := by
  obtain ⟨⟨h, X, G, c⟩, _⟩ := T
  exact He.free_ok X G (c.x.t.d.fact 39 rfl)
theorem Tx.free_list (T : Tx w K mg base) : mg "list" = none := by
  obtain ⟨⟨h, X, G, c⟩, _⟩ := T
  exact He.free_ok X G (c.x.t.d.fact 40 rfl)
theorem Tx.free_super (T : Tx w K mg base) : mg "super" = none := by
  obtain ⟨⟨h, X, G, c⟩, _⟩ := T
  exact He.free_ok X G (c.x.t.d.fact 41 rfl)
theorem Tx.free_ValueError (T : Tx w K mg base) : mg "ValueError" = none := by
  obtain ⟨⟨h, X, G, c⟩, _⟩ := T
  exact He.free_ok X G (c.x.t.d.fact 42 rfl)
theorem Tx.str_LETTERS (T : Tx w K mg base) : ∃ t, mg "LETTERS" = some (.str "abcdefghijklmnopqrstuvwxyz" t) := by
  obtain ⟨⟨h, X, G, c⟩, _⟩ := T
  exact He.str_ok X G (c.x.t.d.fact 43 rfl)
theorem Tx.str_SIGNS (T : Tx w K mg base) : ∃ t, mg "SIGNS" = some (.str "abcdefghijklmnopqrstuvwxyz0123456789" t) := by
  obtain ⟨⟨h, X, G, c⟩, _⟩ := T
  exact He.str_ok X G (c.x.t.d.fact 44 rfl)
theorem Tx.cls_Charter (T : Tx w K mg base) : Cls K (He.ga K "Charter") := by
  obtain ⟨⟨h, X, G, c⟩, _⟩ := T
  exact He.cls_ok (c.x.t.d.fact 45 rfl)
theorem Tx.mkr_Charter (T : Tx w K mg base) : Mk K (He.ga K "Charter") (He.ma K (He.ga K "Charter") "__init__") := by
  obtain ⟨⟨h, X, G, c⟩, _⟩ := T
  exact He.mkr_ok (c.x.t.d.fact 46 rfl)
theorem Tx.noat_Charter_rights (T : Tx w K mg base) : NoAttr K (He.ga K "Charter") "rights" := by
  obtain ⟨⟨h, X, G, c⟩, _⟩ := T
  exact He.noat_ok (c.x.t.d.fact 47 rfl)
theorem Tx.noat_Charter_sole (T : Tx w K mg base) : NoAttr K (He.ga K "Charter") "sole" := by
  obtain ⟨⟨h, X, G, c⟩, _⟩ := T
  exact He.noat_ok (c.x.t.d.fact 48 rfl)
theorem Tx.noat_Charter_founders (T : Tx w K mg base) : NoAttr K (He.ga K "Charter") "founders" := by
  obtain ⟨⟨h, X, G, c⟩, _⟩ := T
  exact He.noat_ok (c.x.t.d.fact 49 rfl)
theorem Tx.noat_Charter_rules (T : Tx w K mg base) : NoAttr K (He.ga K "Charter") "rules" := by
  obtain ⟨⟨h, X, G, c⟩, _⟩ := T
  exact He.noat_ok (c.x.t.d.fact 50 rfl)
theorem Tx.exc_InvalidCharter (T : Tx w K mg base) : PySem.W.excIn K (He.ga K "InvalidCharter") He.veBase "ValueError.__new__" = true ∧ PySem.W.keepIn K (.ref (He.ga K "InvalidCharter")) = true ∧ PySem.W.subIn K (.ref (He.ga K "InvalidCharter")) (.type "BaseException") = some true ∧ PySem.W.typeIn K (.ref (He.ga K "InvalidCharter")) = some (.type "type") := by
  obtain ⟨⟨h, X, G, c⟩, _⟩ := T
  exact He.exc_ok (c.x.t.d.fact 51 rfl)
theorem Tx.exc_WhoevermayError (T : Tx w K mg base) : PySem.W.excIn K (He.ga K "WhoevermayError") He.veBase "ValueError.__new__" = true ∧ PySem.W.keepIn K (.ref (He.ga K "WhoevermayError")) = true ∧ PySem.W.subIn K (.ref (He.ga K "WhoevermayError")) (.type "BaseException") = some true ∧ PySem.W.typeIn K (.ref (He.ga K "WhoevermayError")) = some (.type "type") := by
  obtain ⟨⟨h, X, G, c⟩, _⟩ := T
  exact He.exc_ok (c.x.t.d.fact 52 rfl)
theorem Tx.exm_InvalidCharter_InvalidCharter (T : Tx w K mg base) : PySem.W.exmOne K (.ref (He.ga K "InvalidCharter")) (.ref (He.ga K "InvalidCharter")) = some true := by
  obtain ⟨⟨h, X, G, c⟩, _⟩ := T
  exact He.exm_ok (c.x.t.d.fact 53 rfl)
theorem Tx.exm_UnknownName_UnknownName (T : Tx w K mg base) : PySem.W.exmOne K (.ref (He.ga K "UnknownName")) (.ref (He.ga K "UnknownName")) = some true := by
  obtain ⟨⟨h, X, G, c⟩, _⟩ := T
  exact He.exm_ok (c.x.t.d.fact 54 rfl)
theorem Tx.exm_UnknownName_InvalidCharter (T : Tx w K mg base) : PySem.W.exmOne K (.ref (He.ga K "UnknownName")) (.ref (He.ga K "InvalidCharter")) = some false := by
  obtain ⟨⟨h, X, G, c⟩, _⟩ := T
  exact He.exm_ok (c.x.t.d.fact 55 rfl)
theorem Tx.meth_Charter_with_rule (T : Tx w K mg base) : Meth K (He.ga K "Charter") "with_rule" (He.ma K (He.ga K "Charter") "with_rule") := by
  obtain ⟨⟨h, X, G, c⟩, _⟩ := T
  exact He.meth_ok (c.x.t.d.fact 56 rfl)
theorem Tx.meth_Charter_without_rules (T : Tx w K mg base) : Meth K (He.ga K "Charter") "without_rules" (He.ma K (He.ga K "Charter") "without_rules") := by
  obtain ⟨⟨h, X, G, c⟩, _⟩ := T
  exact He.meth_ok (c.x.t.d.fact 57 rfl)
theorem Tx.meth_Charter_with_founder (T : Tx w K mg base) : Meth K (He.ga K "Charter") "with_founder" (He.ma K (He.ga K "Charter") "with_founder") := by
  obtain ⟨⟨h, X, G, c⟩, _⟩ := T
  exact He.meth_ok (c.x.t.d.fact 58 rfl)
theorem Tx.F_is_name (T : Tx w K mg base) : ∃ fd, FunD K "is_name" "is_name" (defArgs sis_name) (defBody sis_name) (defScope sis_name) [] [] (He.fAd K ("is_name", none)) fd := by
  obtain ⟨⟨h, X, G, c⟩, _⟩ := T
  exact c.x.t.d.def_ 0 (d := dis_name) rfl
theorem Tx.F__check_names (T : Tx w K mg base) : ∃ fd, FunD K "_check_names" "_check_names" (defArgs s_check_names) (defBody s_check_names) (defScope s_check_names) [] [] (He.fAd K ("_check_names", none)) fd := by
  obtain ⟨⟨h, X, G, c⟩, _⟩ := T
  exact c.x.t.d.def_ 1 (d := d_check_names) rfl
theorem Tx.F__listed (T : Tx w K mg base) : ∃ fd, FunD K "_listed" "_listed" (defArgs s_listed) (defBody s_listed) (defScope s_listed) [] [] (He.fAd K ("_listed", none)) fd := by
  obtain ⟨⟨h, X, G, c⟩, _⟩ := T
  exact c.x.t.d.def_ 2 (d := d_listed) rfl
theorem Tx.F__share (T : Tx w K mg base) : ∃ fd, FunD K "_share" "_share" (defArgs s_share) (defBody s_share) (defScope s_share) [] [] (He.fAd K ("_share", none)) fd := by
  obtain ⟨⟨h, X, G, c⟩, _⟩ := T
  exact c.x.t.d.def_ 3 (d := d_share) rfl
theorem Tx.F__kept_founders (T : Tx w K mg base) : ∃ fd, FunD K "_kept_founders" "_kept_founders" (defArgs s_kept_founders) (defBody s_kept_founders) (defScope s_kept_founders) [] [] (He.fAd K ("_kept_founders", none)) fd := by
  obtain ⟨⟨h, X, G, c⟩, _⟩ := T
  exact c.x.t.d.def_ 4 (d := d_kept_founders) rfl
theorem Tx.F__has_its_parts (T : Tx w K mg base) : ∃ fd, FunD K "_has_its_parts" "_has_its_parts" (defArgs s_has_its_parts) (defBody s_has_its_parts) (defScope s_has_its_parts) [] [] (He.fAd K ("_has_its_parts", none)) fd := by
  obtain ⟨⟨h, X, G, c⟩, _⟩ := T
  exact c.x.t.d.def_ 5 (d := d_has_its_parts) rfl
theorem Tx.F__kept_rule (T : Tx w K mg base) : ∃ fd, FunD K "_kept_rule" "_kept_rule" (defArgs s_kept_rule) (defBody s_kept_rule) (defScope s_kept_rule) [] [] (He.fAd K ("_kept_rule", none)) fd := by
  obtain ⟨⟨h, X, G, c⟩, _⟩ := T
  exact c.x.t.d.def_ 6 (d := d_kept_rule) rfl
theorem Tx.F__check_right (T : Tx w K mg base) : ∃ fd, FunD K "_check_right" "_check_right" (defArgs s_check_right) (defBody s_check_right) (defScope s_check_right) [] [] (He.fAd K ("_check_right", none)) fd := by
  obtain ⟨⟨h, X, G, c⟩, _⟩ := T
  exact c.x.t.d.def_ 7 (d := d_check_right) rfl
theorem Tx.F__put (T : Tx w K mg base) : ∃ fd, FunD K "_put" "_put" (defArgs s_put) (defBody s_put) (defScope s_put) [] [] (He.fAd K ("_put", none)) fd := by
  obtain ⟨⟨h, X, G, c⟩, _⟩ := T
  exact c.x.t.d.def_ 8 (d := d_put) rfl
theorem Tx.F__law_row (T : Tx w K mg base) : ∃ fd, FunD K "_law_row" "_law_row" (defArgs s_law_row) (defBody s_law_row) (defScope s_law_row) [] [] (He.fAd K ("_law_row", none)) fd := by
  obtain ⟨⟨h, X, G, c⟩, _⟩ := T
  exact c.x.t.d.def_ 9 (d := d_law_row) rfl
theorem Tx.F__law_numbers (T : Tx w K mg base) : ∃ fd, FunD K "_law_numbers" "_law_numbers" (defArgs s_law_numbers) (defBody s_law_numbers) (defScope s_law_numbers) [] [] (He.fAd K ("_law_numbers", none)) fd := by
  obtain ⟨⟨h, X, G, c⟩, _⟩ := T
  exact c.x.t.d.def_ 10 (d := d_law_numbers) rfl
theorem Tx.F__law_names (T : Tx w K mg base) : ∃ fd, FunD K "_law_names" "_law_names" (defArgs s_law_names) (defBody s_law_names) (defScope s_law_names) [] [] (He.fAd K ("_law_names", none)) fd := by
  obtain ⟨⟨h, X, G, c⟩, _⟩ := T
  exact c.x.t.d.def_ 11 (d := d_law_names) rfl
theorem Tx.F__law_some (T : Tx w K mg base) : ∃ fd, FunD K "_law_some" "_law_some" (defArgs s_law_some) (defBody s_law_some) (defScope s_law_some) [] [] (He.fAd K ("_law_some", none)) fd := by
  obtain ⟨⟨h, X, G, c⟩, _⟩ := T
  exact c.x.t.d.def_ 12 (d := d_law_some) rfl
theorem Tx.F__law_rule (T : Tx w K mg base) : ∃ fd, FunD K "_law_rule" "_law_rule" (defArgs s_law_rule) (defBody s_law_rule) (defScope s_law_rule) [] [] (He.fAd K ("_law_rule", none)) fd := by
  obtain ⟨⟨h, X, G, c⟩, _⟩ := T
  exact c.x.t.d.def_ 13 (d := d_law_rule) rfl
theorem Tx.F__law_count (T : Tx w K mg base) : ∃ fd, FunD K "_law_count" "_law_count" (defArgs s_law_count) (defBody s_law_count) (defScope s_law_count) [] [] (He.fAd K ("_law_count", none)) fd := by
  obtain ⟨⟨h, X, G, c⟩, _⟩ := T
  exact c.x.t.d.def_ 14 (d := d_law_count) rfl
theorem Tx.F__law_parts (T : Tx w K mg base) : ∃ fd, FunD K "_law_parts" "_law_parts" (defArgs s_law_parts) (defBody s_law_parts) (defScope s_law_parts) [] [] (He.fAd K ("_law_parts", none)) fd := by
  obtain ⟨⟨h, X, G, c⟩, _⟩ := T
  exact c.x.t.d.def_ 15 (d := d_law_parts) rfl
theorem Tx.F__law_made (T : Tx w K mg base) : ∃ fd, FunD K "_law_made" "_law_made" (defArgs s_law_made) (defBody s_law_made) (defScope s_law_made) [] [] (He.fAd K ("_law_made", none)) fd := by
  obtain ⟨⟨h, X, G, c⟩, _⟩ := T
  exact c.x.t.d.def_ 16 (d := d_law_made) rfl
theorem Tx.F__law_ordered (T : Tx w K mg base) : ∃ fd, FunD K "_law_ordered" "_law_ordered" (defArgs s_law_ordered) (defBody s_law_ordered) (defScope s_law_ordered) [] [] (He.fAd K ("_law_ordered", none)) fd := by
  obtain ⟨⟨h, X, G, c⟩, _⟩ := T
  exact c.x.t.d.def_ 17 (d := d_law_ordered) rfl
theorem Tx.F__law_frozen (T : Tx w K mg base) : ∃ fd, FunD K "_law_frozen" "_law_frozen" (defArgs s_law_frozen) (defBody s_law_frozen) (defScope s_law_frozen) [] [] (He.fAd K ("_law_frozen", none)) fd := by
  obtain ⟨⟨h, X, G, c⟩, _⟩ := T
  exact c.x.t.d.def_ 18 (d := d_law_frozen) rfl
theorem Tx.F__law_same (T : Tx w K mg base) : ∃ fd, FunD K "_law_same" "_law_same" (defArgs s_law_same) (defBody s_law_same) (defScope s_law_same) [] [] (He.fAd K ("_law_same", none)) fd := by
  obtain ⟨⟨h, X, G, c⟩, _⟩ := T
  exact c.x.t.d.def_ 19 (d := d_law_same) rfl
theorem Tx.F__law_answer (T : Tx w K mg base) : ∃ fd, FunD K "_law_answer" "_law_answer" (defArgs s_law_answer) (defBody s_law_answer) (defScope s_law_answer) [] [] (He.fAd K ("_law_answer", none)) fd := by
  obtain ⟨⟨h, X, G, c⟩, _⟩ := T
  exact c.x.t.d.def_ 20 (d := d_law_answer) rfl
theorem Tx.F__law_due (T : Tx w K mg base) : ∃ fd, FunD K "_law_due" "_law_due" (defArgs s_law_due) (defBody s_law_due) (defScope s_law_due) [] [] (He.fAd K ("_law_due", none)) fd := by
  obtain ⟨⟨h, X, G, c⟩, _⟩ := T
  exact c.x.t.d.def_ 21 (d := d_law_due) rfl
theorem Tx.F__law_in (T : Tx w K mg base) : ∃ fd, FunD K "_law_in" "_law_in" (defArgs s_law_in) (defBody s_law_in) (defScope s_law_in) [] [] (He.fAd K ("_law_in", none)) fd := by
  obtain ⟨⟨h, X, G, c⟩, _⟩ := T
  exact c.x.t.d.def_ 22 (d := d_law_in) rfl
theorem Tx.F_law (T : Tx w K mg base) : ∃ fd, FunD K "law" "law" (defArgs slaw) (defBody slaw) (defScope slaw) [] [] (He.fAd K ("law", none)) fd := by
  obtain ⟨⟨h, X, G, c⟩, _⟩ := T
  exact c.x.t.d.def_ 23 (d := dlaw) rfl
theorem Tx.F_Charter___init__ (T : Tx w K mg base) : ∃ fd, FunD K "__init__" "Charter.__init__" (defArgs sCharter___init__) (defBody sCharter___init__) (defScope sCharter___init__) (dCharter___init__.dvs K) (dCharter___init__.kws K) (He.fAd K ("Charter", some "__init__")) fd := by
  obtain ⟨⟨h, X, G, c⟩, _⟩ := T
  exact c.x.t.d.def_ 24 (d := dCharter___init__) rfl
theorem Tx.F_Charter_with_rule (T : Tx w K mg base) : ∃ fd, FunD K "with_rule" "Charter.with_rule" (defArgs sCharter_with_rule) (defBody sCharter_with_rule) (defScope sCharter_with_rule) (dCharter_with_rule.dvs K) (dCharter_with_rule.kws K) (He.fAd K ("Charter", some "with_rule")) fd := by
  obtain ⟨⟨h, X, G, c⟩, _⟩ := T
  exact c.x.t.d.def_ 25 (d := dCharter_with_rule) rfl
theorem Tx.F_Charter_without_rules (T : Tx w K mg base) : ∃ fd, FunD K "without_rules" "Charter.without_rules" (defArgs sCharter_without_rules) (defBody sCharter_without_rules) (defScope sCharter_without_rules) (dCharter_without_rules.dvs K) (dCharter_without_rules.kws K) (He.fAd K ("Charter", some "without_rules")) fd := by
  obtain ⟨⟨h, X, G, c⟩, _⟩ := T
  exact c.x.t.d.def_ 26 (d := dCharter_without_rules) rfl
theorem Tx.F_Charter_with_founder (T : Tx w K mg base) : ∃ fd, FunD K "with_founder" "Charter.with_founder" (defArgs sCharter_with_founder) (defBody sCharter_with_founder) (defScope sCharter_with_founder) (dCharter_with_founder.dvs K) (dCharter_with_founder.kws K) (He.fAd K ("Charter", some "with_founder")) fd := by
  obtain ⟨⟨h, X, G, c⟩, _⟩ := T
  exact c.x.t.d.def_ 27 (d := dCharter_with_founder) rfl
theorem Tx.P_Charter_rule_names (T : Tx w K mg base) : PropOf K (He.ga K "Charter") "rule_names" (Hd.prpA K "Charter" "rule_names") (Hd.gtrA K "Charter" "rule_names") ∧ ∃ fd, FunD K "rule_names" "Charter.rule_names" (defArgs sCharter_rule_names) (defBody sCharter_rule_names) (defScope sCharter_rule_names) [] [] (Hd.gtrA K "Charter" "rule_names") fd := by
  obtain ⟨⟨h, X, G, c⟩, _⟩ := T
  exact c.pr 0 (d := pCharter_rule_names) rfl
theorem Tx.tab_LISTS (T : Tx w K mg base) : GD.KLook K w (He.ga K "LISTS") [("join", 1), ("claim", 2), ("drop", 2), ("give", 3), ("take", 3), ("pass", 3)] := by
  obtain ⟨⟨h, X, G, c⟩, _⟩ := T
  have e : He.obsT fa fn tbs K = He.valT fn tbs w := c.x.t
  have e2 : (tbs.map fun t => He.dicW K (t.1 K))[0]? = (tbs.map fun t => some (He.keysIn w.params t.2))[0]? := congrArg (fun z : He.AlT => z.2[0]?) e
  exact GD.klook_of (Option.some.inj e2) (He.ba c.exB).2
theorem Tx.sup_UnknownName (T : Tx w K mg base) : ∃ cc fd, SU.Sup R.prog K (He.ga K "UnknownName") (Hd.suA K suUnknownName) cc fd "UnknownName.__init__" "name" (defScope sUnknownName___init__) ∧ fd.body = .stmts (defBody sUnknownName___init__) ∧ Binds K fd ["self", "name"] [] ∧ PySem.W.findIn K (.ref (He.ga K "UnknownName")) "__init__" = some (some (.ref (Hd.suA K suUnknownName))) ∧ PySem.W.typeIn K (.ref (Hd.suA K suUnknownName)) = some (.type "function") ∧ PySem.W.findIn K (.ref (He.ga K "UnknownName")) "name" = some none := by
  obtain ⟨h, c⟩ := T.sx
  obtain ⟨e, ok⟩ := c.su 0 (d := suUnknownName) rfl
  exact Hd.SuD.sup (d := suUnknownName) e ok ⟨_, rfl, rfl⟩ (by decide +kernel) rfl rfl rfl rfl rfl rfl rfl (by decide) (by decide +kernel) (fun _ _ _ _ _ _ _ us hl => match us, hl with | [_, _], _ => rfl)
theorem Tx.xc_UnknownName (T : Tx w K mg base) : XfC K (He.ga K "UnknownName") ∧ ExcC K (He.ga K "UnknownName") := Hd.excB_ok (He.ba T.sx.choose_spec.more).1
theorem Tx.xc_InvalidCharter (T : Tx w K mg base) : XfC K (He.ga K "InvalidCharter") ∧ ExcC K (He.ga K "InvalidCharter") := Hd.excB_ok (He.ba (He.ba T.sx.choose_spec.more).2).1
theorem Tx.kit_InvalidCharter_UnknownName (T : Tx w K mg base) : PySem.W.kitOne K (.ref (He.ga K "InvalidCharter")) (.ref (He.ga K "UnknownName")) = some false := of_decide_eq_true (He.ba (He.ba (He.ba T.sx.choose_spec.more).2).2).1
theorem Tx.kit_InvalidCharter_ValueError (T : Tx w K mg base) : PySem.W.kitOne K (.ref (He.ga K "InvalidCharter")) (.type "ValueError") = some true := of_decide_eq_true (He.ba (He.ba (He.ba (He.ba T.sx.choose_spec.more).2).2).2).1
end
def Gd (K : PySem.W.Frag) (H : Hp) : Prop := ∀ p ∈ tf, GxR.TabG H (He.cT K p).2
theorem Gd.mono {K : PySem.W.Frag} {H H' : Hp} (g : Gd K H) (s : GD.Sm H H') : Gd K H' := fun p hp => s.tb _ (g p hp)
end K8

-- part C08a
set_option Elab.async false
set_option linter.all false
set_option maxRecDepth 100000
set_option maxHeartbeats 2000000
namespace K8
open PySem PySem.Spec PyProof.Rows L2 GxR GS GA GD
def letters : Str := "abcdefghijklmnopqrstuvwxyz"
def signs : Str := "abcdefghijklmnopqrstuvwxyz0123456789"
def isName (t : Str) : Bool := (decide (1 ≤ t.length) && decide (t.length ≤ 12)) && ((t.cps.toList.head?.any fun c => decide (c ∈ letters.cps.toList)) && t.cps.toList.all fun c => decide (c ∈ signs.cps.toList))
section
variable {P : Program} {w : World} {K : PySem.W.Frag} {mg : Str → Option Value} {base : Heap}
def spIsName (K : PySem.W.Frag) : Sp := fun vs H Q _ => ∃ t : Str, vs = [.str t] ∧ t.length ≤ sizeLine ∧ Gd K H ∧ ∀ H', Sm H H' → Q (.bl (isName t)) H'
theorem sc_is_name : FnScope ["text", "sign"] ["text"] (defScope sis_name) := ⟨rfl, rfl, rfl, by decide +kernel, rfl, by decide +kernel, by decide +kernel⟩
theorem ok_is_name (T : Tx w K mg base) : ∃ fd, FnOk P w K mg base CX0 1 (He.ga K "is_name") fd ["text"] (spIsName K) ∧ Binds K fd ["text"] [] ∧ PySem.W.keepIn K (.ref (He.ga K "is_name")) = true := by
  obtain ⟨fd, F⟩ := T.F_is_name
  obtain ⟨tL, gL⟩ := T.str_LETTERS
  obtain ⟨tS, gS⟩ := T.str_SIGNS
  have TB := T.tb ("is_name", none) (by simp [tf])
  refine ⟨fd, okC (k := 0) F (codeOf_at F) sc_is_name (fun vs H Q E h => ?_) (fun A outer s H vs Q E hr h => ?_), F.bindsN (ps := ["text"]) fun _ _ _ _ _ _ us hl => match us, hl with | [_], _ => rfl, F.kp⟩
  · obtain ⟨t, rfl, _⟩ := h
    rfl
  · obtain ⟨t, rfl, hl, g, k⟩ := h
    have gT := g ("is_name", none) (by simp [tf])
    refine ⟨_, PSs.nox (pss_cons (ps_if (PW.pt (pw_or (pt_not (pt_chain op_le op_le pe_int (pe_callB call_len_str (by rfl) T.free_len PySem.boot_len (pa_cons (pv 0) pa_nil)) pe_int))
        (pw_or1 (pt_cmpR op_notIn_sign (pe_item_str (pv 0) pe_int (fun _ _ => rfl)) (pe_glob (v := .str letters) rfl gL ⟨_, rfl⟩) (by rfl))))) (pss_one (ps_ret pe_bl)) pss_nil)
      (pss_one (ps_ret (pe_all (own := [("sign", 1)]) (g := gName 1) hr rfl sc_is_name.nd T.free_all TB rfl (blkOk_by (own := [("sign", 1)]) (N := ["text", "sign"]) (sc := defScope sis_name) (by decide +kernel)) (pi_str (pv 0))
        (fun _ _ _ _ _ _ => pg_name (i := 1) sc_is_name.nd rfl (Or.inl rfl)) (fun _ _ _ _ _ _ => pe_cmpR op_in_sign (pv 1) (pe_glob (v := .str signs) rfl gS ⟨_, rfl⟩) (by rfl)))))), ?_⟩
    refine ⟨_, rfl, t, rfl, hl, _, _, rfl, rfl, _, rfl, ?_⟩
    have no : isName t = false → Q (.bl false) H := fun e => e ▸ k H Sm.refl
    by_cases h1 : 1 ≤ t.length
    · refine ifT (by simp; omega) ⟨_, _, rfl, rfl, _, rfl, ?_⟩
      by_cases h2 : t.length ≤ 12
      · refine ifF (by simp; omega) ?_
        obtain ⟨x, r, e⟩ : ∃ x r, t.cps.toList = x :: r := by
          cases e : t.cps.toList with
          | nil => have : t.cps.size = 0 := by rw [← Array.length_toList, e]; rfl
                   have h1 : 1 ≤ t.cps.size := h1
                   omega
          | cons x r => exact ⟨x, r, rfl⟩
        have hx : t.cps[(0 : Int).toNat]? = some x := by
          rw [← Array.getElem?_toList, e]; rfl
        refine ⟨_, rfl, t, 0, x, rfl, rfl, by omega, by omega, by omega, hx, x, letters, rfl, rfl, _, rfl, ?_⟩
        have e0 : isName t = (decide (x ∈ letters.cps.toList) && t.cps.toList.all fun c => decide (c ∈ signs.cps.toList)) := by
          unfold isName
          rw [decide_eq_true h1, decide_eq_true h2, e]
          rfl
        cases h3 : decide (x ∈ letters.cps.toList) with
        | true =>
          refine ifF rfl ?_
          show tGen false _ (iStr (tVar 0)) (gName 1) _ [1] _ H _
          refine rd_genS false (z := t) (f := fun v => match v with | .str u => u.cps.toList.all fun c => decide (c ∈ signs.cps.toList) | _ => false) gT (fun v H' R hv s1 hR => ?_) (fun H' s1 => ?_) (fun R hR => ⟨_, rfl, hR⟩)
          · obtain ⟨c, hc, rfl⟩ := List.mem_map.mp hv
            refine ⟨_, rfl, c, signs, rfl, rfl, ?_⟩
            have := hR H' s1
            simpa using this
          · have q := k H' s1
            rw [e0, h3] at q
            simpa [List.all_map, Function.comp_def] using q
        | false =>
          refine ifT rfl (no ?_)
          rw [e0, h3]
          rfl
      · refine ifT (by simp; omega) (no ?_)
        simp [isName, h2]
    · refine ifF (by simp; omega) ⟨_, rfl, ifT rfl (no ?_)⟩
      simp [isName, h1]
end
end K8

-- part C08b
set_option Elab.async false
set_option linter.all false
set_option maxRecDepth 100000
set_option maxHeartbeats 2000000
namespace K8
open PySem PySem.Spec PyProof.Rows L2 GxR GS GA GD
def checkNames (xs : List Str) (most : Int) : Bool := decide ((xs.length : Int) ≤ most) && (xs.all isName && decide xs.Nodup)
/-- the class InvalidCharter -/
abbrev IC (K : PySem.W.Frag) : Addr := He.ga K "InvalidCharter"
section
variable {P : Program} {w : World} {K : PySem.W.Frag} {mg : Str → Option Value} {base : Heap}
theorem raiseIC {X : Cx} (T : Tx w X.K X.mg X.base) {W : WX} {m : Str} {j : Nat} {p p2 pos pos2 : Pos} (hc : X.calm = true) (tk : Takes X W) (hg : Gl X "InvalidCharter") :
    PS X (.Raise (some (.Call (.Name "InvalidCharter" p) [.Constant (.str m) j p2] [] pos)) none pos2) (fun _ σ H => W (.ref (IC X.K)) none σ H) := by
  obtain ⟨x1, x2, x3, x4⟩ := T.exc_InvalidCharter
  exact ps_raise hc tk (pmk_own PySem.F.excBase_ValueError x1 T.glo_InvalidCharter x2 (raises_own x3 x4) hg)
def spCheckNames (K : PySem.W.Frag) : Sp := fun vs H Q E => ∃ (a : Addr) (xs : List Str) (most : Int), vs = [.ref a, .int most] ∧ TxL K H a xs ∧ xs.length ≤ 4000 ∧ (∀ x ∈ xs, x.length ≤ sizeLine) ∧ Gd K H ∧
  (∀ H', Sm H H' → checkNames xs most = true → Q .non H') ∧ ∀ H', Sm H H' → checkNames xs most = false → E (.ref (IC K)) none H'
theorem sc_check_names : FnScope ["names", "most", "name"] ["names", "most"] (defScope s_check_names) := ⟨rfl, rfl, rfl, by decide +kernel, rfl, by decide +kernel, by decide +kernel⟩
theorem ok_check_names (T : Tx w K mg base) : ∃ fd, FnOk P w K mg base (L2.CX P w) 3 (He.ga K "_check_names") fd ["names", "most"] (spCheckNames K) ∧ Binds K fd ["names", "most"] [] ∧ PySem.W.keepIn K (.ref (He.ga K "_check_names")) = true := by
  obtain ⟨fd, F⟩ := T.F__check_names
  obtain ⟨fdI, GI, bI, kI⟩ := ok_is_name (P := P) T
  have TB := T.tb ("_check_names", none) (by simp [tf])
  refine ⟨fd, okC (k := 2) F (codeOf_at F) sc_check_names (fun vs H Q E h => ?_) (fun A outer s H vs Q E hr h => ?_), F.bindsN (ps := ["names", "most"]) fun _ _ _ _ _ _ us hl => match us, hl with | [_, _], _ => rfl, F.kp⟩
  · obtain ⟨a, xs, most, rfl, _⟩ := h
    rfl
  · obtain ⟨a, xs, most, rfl, hx, hlen, hlx, g, kT, kF⟩ := h
    have gT := g ("_check_names", none) (by simp [tf])
    refine ⟨_, pss_cons (ps_if (pt_cmpR op_gt (pe_callB call_len_seq (by rfl) T.free_len PySem.boot_len (pa_cons (pv 0) pa_nil)) (pv 1) (nomark _)) (pss_one (raiseIC T rfl (takes_of rfl rfl rfl rfl) rfl)) pss_nil)
      (pss_cons (ps_if (pt_not (pt_val (pe_all (own := [("name", 2)]) (g := gName 2) hr rfl sc_check_names.nd T.free_all TB rfl (blkOk_by (own := [("name", 2)]) (N := ["names", "most", "name"]) (sc := defScope s_check_names) (by decide +kernel)) (pi_sq (pv 0))
          (fun _ _ _ _ _ _ => pg_name (i := 2) sc_check_names.nd rfl (Or.inl rfl)) (fun _ _ _ _ _ _ => pe_call GI (room_gen hr) rfl T.glo_is_name kI bI .nil pass0 (pa_cons (pv 2) pa_nil))))) (pss_one (raiseIC T rfl (takes_of rfl rfl rfl rfl) rfl)) pss_nil)
      (pss_one (ps_if (pt_cmpR op_lt (pe_lenSetS rfl T.free_len T.free_set (pv 0)) (pe_callB call_len_seq (by rfl) T.free_len PySem.boot_len (pa_cons (pv 0) pa_nil)) (nomark _)) (pss_one (raiseIC T rfl (takes_of rfl rfl rfl rfl) rfl)) pss_nil))), ?_⟩
    have len : (xs.map V.str).length = xs.length := List.length_map ..
    refine ⟨_, rfl, a, xs.map V.str, rfl, hx, _, rfl, _, _, rfl, rfl, _, rfl, ?_⟩
    rw [len]
    by_cases c1 : most < (xs.length : Int)
    · refine ifT (decide_eq_true c1) (kF H Sm.refl ?_)
      unfold checkNames
      rw [decide_eq_false (by omega)]
      rfl
    refine ifF (decide_eq_false c1) ?_
    have e1 : checkNames xs most = (xs.all isName && decide xs.Nodup) := by
      unfold checkNames
      rw [decide_eq_true (by omega)]
      rfl
    show tGen false _ (iSq K (tVar 0)) (gName 2) _ [2] _ H _
    refine rd_gen false (f := fun v => match v with | .str t => isName t | _ => false) (TxL.sq hx) gT (fun v H' R hv s1 hR => ?_) (fun H' s1 => ⟨_, rfl, ?_⟩) (fun R hR => ⟨_, rfl, hR⟩)
    · obtain ⟨t, ht, rfl⟩ := List.mem_map.mp hv
      exact ⟨_, rfl, t, rfl, hlx t ht, g.mono s1, fun H2 s2 => hR H2 (s1.trans s2)⟩
    · have e2 : (if false = true then (xs.map V.str).any (fun v => match v with | .str t => isName t | _ => false) else (xs.map V.str).all (fun v => match v with | .str t => isName t | _ => false)) = xs.all isName := by
        rw [if_neg Bool.false_ne_true, List.all_map]
        rfl
      rw [e2]
      cases c2 : xs.all isName with
      | false =>
        refine ifT rfl (kF H' s1 ?_)
        rw [e1, c2]
        rfl
      | true =>
        refine ifF rfl ?_
        refine ⟨_, rfl, a, xs, rfl, s1.txl hx, hlen, _, rfl, a, xs.map V.str, rfl, s1.txl hx, _, _, rfl, rfl, _, rfl, ?_⟩
        rw [len]
        by_cases c3 : xs.Nodup
        · refine ifF (decide_eq_false fun z => (dis_lt xs).mp (by omega) c3) (kT H' s1 ?_)
          rw [e1, c2, decide_eq_true c3]
          rfl
        · refine ifT (decide_eq_true (by have := (dis_lt xs).mpr c3; omega)) (kF H' s1 ?_)
          rw [e1, c2, decide_eq_false c3]
          rfl
end
end K8

-- part C08c
set_option Elab.async false
set_option linter.all false
set_option maxRecDepth 100000
set_option maxHeartbeats 2000000
namespace K8
open PySem PySem.Spec PyProof.Rows L2 GxR GS GA GD
theorem inV_str (x : Str) (xs : List Str) : inV (.str x) (xs.map V.str) = xs.contains x := by
  unfold inV
  rw [List.any_map, Bool.eq_iff_iff, List.any_eq_true]
  constructor
  · rintro ⟨y, hy, e⟩
    have e : (y == x) = true := e
    rw [← beq_iff_eq.mp e]
    simpa using hy
  · intro h
    exact ⟨x, by simpa using h, by show (x == x) = true; simp⟩
theorem flat_strs (xs : List Str) : (xs.map V.str).all flatV = true := by
  rw [List.all_map, List.all_eq_true]
  intro x _
  rfl
def listed (rights words : List Str) : Option (List Str) := if (decide words.Nodup && words.all fun x => rights.contains x) = true then some (rights.filter fun x => words.contains x) else none
section
variable {P : Program} {w : World} {K : PySem.W.Frag} {mg : Str → Option Value} {base : Heap}
def spListed (K : PySem.W.Frag) : Sp := fun vs H Q E => ∃ (a b : Addr) (rights words : List Str), vs = [.ref a, .ref b] ∧ TxL K H a rights ∧ TxL K H b words ∧ rights.length ≤ 4000 ∧ words.length ≤ 4000 ∧ Gd K H ∧
  (∀ H' p r, Sm H H' → listed rights words = some r → H' p = some (.tup (r.map V.str)) → Q (.ref p) H') ∧ ∀ H', Sm H H' → listed rights words = none → E (.ref (IC K)) none H'
theorem sc_listed : FnScope ["rights", "words", "word", "right"] ["rights", "words"] (defScope s_listed) := ⟨rfl, rfl, rfl, by decide +kernel, rfl, by decide +kernel, by decide +kernel⟩
theorem ok_listed (T : Tx w K mg base) : ∃ fd, FnOk P w K mg base (L2.CX P w) 1 (He.ga K "_listed") fd ["rights", "words"] (spListed K) ∧ Binds K fd ["rights", "words"] [] ∧ PySem.W.keepIn K (.ref (He.ga K "_listed")) = true := by
  obtain ⟨fd, F⟩ := T.F__listed
  have TB := T.tb ("_listed", none) (by simp [tf])
  refine ⟨fd, okC (k := 0) F (codeOf_at F) sc_listed (fun vs H Q E h => ?_) (fun A outer s H vs Q E hr h => ?_), F.bindsN (ps := ["rights", "words"]) fun _ _ _ _ _ _ us hl => match us, hl with | [_, _], _ => rfl, F.kp⟩
  · obtain ⟨a, b, r, x, rfl, _⟩ := h
    rfl
  · obtain ⟨a, b, rights, words, rfl, hr1, hw1, lr, lw, g, kT, kF⟩ := h
    have gT := g ("_listed", none) (by simp [tf])
    refine ⟨_, pss_cons (ps_if (pt_cmpR op_lt (pe_lenSetS rfl T.free_len T.free_set (pv 1)) (pe_callB call_len_seq (by rfl) T.free_len PySem.boot_len (pa_cons (pv 1) pa_nil)) (nomark _)) (pss_one (raiseIC T rfl (takes_of rfl rfl rfl rfl) rfl)) pss_nil)
      (pss_cons (ps_if (pt_not (pt_val (pe_all (own := [("word", 2)]) (g := gName 2) (te := tOp (rIn K false) (tVar 2) (tVar 0)) hr rfl sc_listed.nd T.free_all TB rfl (blkOk_by (own := [("word", 2)]) (N := ["rights", "words", "word", "right"]) (sc := defScope s_listed) (by decide +kernel)) (pi_sq (pv 1))
          (fun _ _ _ _ _ _ => pg_name (i := 2) sc_listed.nd rfl (Or.inl rfl)) (fun _ _ _ _ _ _ => pe_cmpR op_in_seq (pv 2) (pv 0) (by rfl))))) (pss_one (raiseIC T rfl (takes_of rfl rfl rfl rfl) rfl)) pss_nil)
      (pss_one (ps_ret (pe_callTy call_tuple_of (by rfl) T.free_tuple (by decide +kernel) (pa_cons (pe_lcI (own := [("right", 3)]) (g := gName 3) (tt := tTest (tOp (rIn K false) (tVar 3) (tVar 1))) (te := tVar 3) rfl sc_listed.nd (pi_sq (pv 0)) (blkOk_by (own := [("right", 3)]) (N := ["rights", "words", "word", "right"]) (sc := defScope s_listed) (by decide +kernel))
          (fun _ _ _ _ _ => pg_name (i := 3) sc_listed.nd rfl (Or.inl rfl)) (fun _ _ _ _ _ => pts_one (pt_cmpR op_in_seq (pv 3) (pv 1) (by rfl))) (fun _ _ _ _ _ => pv 3)) pa_nil))))), ?_⟩
    have len : (words.map V.str).length = words.length := List.length_map ..
    refine ⟨_, rfl, b, words, rfl, hw1, lw, _, rfl, b, words.map V.str, rfl, hw1, _, _, rfl, rfl, _, rfl, ?_⟩
    rw [len]
    by_cases c1 : words.Nodup
    rotate_left
    · refine ifT (decide_eq_true (by have := (dis_lt words).mpr c1; omega)) (kF H Sm.refl ?_)
      unfold listed
      rw [decide_eq_false c1]
      rfl
    refine ifF (decide_eq_false fun z => (dis_lt words).mp (by omega) c1) ?_
    refine rd_gen false (f := fun v => match v with | .str t => rights.contains t | _ => false) (TxL.sq hw1) gT (fun v H' R hv s1 hR => ?_) (fun H' s1 => ⟨_, rfl, ?_⟩) (fun R hR => ⟨_, rfl, hR⟩)
    · obtain ⟨t, ht, rfl⟩ := List.mem_map.mp hv
      refine ⟨_, rfl, _, rfl, a, rights.map V.str, rfl, s1.txl hr1, rfl, flat_strs _, ?_⟩
      have q := hR H' s1
      rw [if_neg Bool.false_ne_true, inV_str]
      exact q
    · have e2 : (if false = true then (words.map V.str).any (fun v => match v with | .str t => rights.contains t | _ => false) else (words.map V.str).all (fun v => match v with | .str t => rights.contains t | _ => false)) = words.all fun x => rights.contains x := by
        rw [if_neg Bool.false_ne_true, List.all_map]
        rfl
      rw [e2]
      cases c2 : words.all fun x => rights.contains x with
      | false =>
        refine ifT rfl (kF H' s1 ?_)
        unfold listed
        rw [c2, Bool.and_false]
        rfl
      | true =>
        refine ifF rfl ?_
        have e3 : listed rights words = some (rights.filter fun x => words.contains x) := by
          unfold listed
          rw [c2, decide_eq_true c1]
          rfl
        refine rd_lc (p := fun v => match v with | .str t => words.contains t | _ => false) (f := fun v => v) (TxL.sq (s1.txl hr1)) (by rw [List.length_map]; unfold sizeLine; omega) (fun v H2 R hv s2 hR => ?_) (fun v H2 R hv hp s2 hR => ?_) (fun D H2 hD s2 h2 => ?_) (fun R hR => ⟨_, rfl, hR⟩)
        · obtain ⟨t, ht, rfl⟩ := List.mem_map.mp hv
          refine ⟨_, rfl, _, rfl, b, words.map V.str, rfl, (s1.trans s2).txl hw1, rfl, flat_strs _, _, rfl, ?_⟩
          have q := hR H2 Sm.refl
          rw [if_neg Bool.false_ne_true, inV_str]
          exact q
        · exact ⟨v, rfl, hR H2 Sm.refl⟩
        · refine ⟨D, _, rfl, .inl ⟨SqL.of h2, fun l hl => ?_⟩⟩
          refine kT _ l _ (s1.trans (s2.trans (Sm.new hl))) e3 ?_
          rw [upd_same, List.map_id', List.filter_map]
          rfl
end
end K8

-- part C08d
set_option Elab.async false
set_option linter.all false
set_option maxRecDepth 100000
set_option maxHeartbeats 2000000
namespace K8
open PySem PySem.Spec PyProof.Rows L2 GxR GS GA GD
/-- a founder as it is handed in: a pair -/
def FdAt (K : PySem.W.Frag) (H : Hp) (v : V) (f : Str × List Str) : Prop := ∃ p b, v = .ref p ∧ SqT K H p [.str f.1, .ref b] ∧ TxL K H b f.2
/-- a founder as it is kept -/
def KfAt (K : PySem.W.Frag) (H : Hp) (v : V) (f : Str × List Str) : Prop := ∃ p b, v = .ref p ∧ SqT K H p [.str f.1, .ref b] ∧ SqT K H b (f.2.map V.str)
theorem FdAt.mono {K : PySem.W.Frag} {H H' : Hp} {v : V} {f : Str × List Str} (s : Sm H H') (h : FdAt K H v f) : FdAt K H' v f := let ⟨p, b, e, h1, h2⟩ := h; ⟨p, b, e, s.tup h1, s.txl h2⟩
theorem KfAt.tu {K : PySem.W.Frag} {H H' : Hp} {v : V} {f : Str × List Str} (s : Tu H H') (h : KfAt K H v f) : KfAt K H' v f := let ⟨p, b, e, h1, h2⟩ := h; ⟨p, b, e, s.sqt h1, s.sqt h2⟩
theorem KfAt.mono {K : PySem.W.Frag} {H H' : Hp} {v : V} {f : Str × List Str} (s : Sm H H') (h : KfAt K H v f) : KfAt K H' v f := let ⟨p, b, e, h1, h2⟩ := h; ⟨p, b, e, s.tup h1, s.tup h2⟩
/-- the rights of each founder, listed -/
def heldAll (rights : List Str) : List (Str × List Str) → Option (List (Str × List Str))
  | [] => some []
  | f :: r => (listed rights f.2).bind fun h => (heldAll rights r).map fun t => (f.1, h) :: t
theorem heldAll_cons {rights : List Str} {f : Str × List Str} {r : List (Str × List Str)} : heldAll rights (f :: r) = (listed rights f.2).bind fun h => (heldAll rights r).map fun t => (f.1, h) :: t := rfl
theorem heldAll_names {rights : List Str} : ∀ {fs ks : List (Str × List Str)}, heldAll rights fs = some ks → ks.map (·.1) = fs.map (·.1)
  | [], ks, e => by cases e; rfl
  | f :: r, ks, e => by
    unfold heldAll at e
    cases h1 : listed rights f.2 with
    | none => rw [h1] at e; cases e
    | some h =>
      rw [h1] at e
      cases h2 : heldAll rights r with
      | none => rw [h2] at e; cases e
      | some t =>
        rw [h2] at e
        have e : (f.1, h) :: t = ks := Option.some.inj e
        rw [← e, List.map_cons, List.map_cons, heldAll_names h2]
def keptFounders (rights sole : List Str) (fs : List (Str × List Str)) : Option (List (Str × List Str)) :=
  (heldAll rights fs).bind fun ks => if (checkNames (ks.map (·.1)) 5 && sole.all fun r => decide ((ks.filter fun f => f.2.contains r).length ≤ 1)) = true then some ks else none
section
variable {P : Program} {w : World} {K : PySem.W.Frag} {mg : Str → Option Value} {base : Heap}
def spShare (K : PySem.W.Frag) : Sp := fun vs H Q _ => ∃ (a b : Addr) (xs ys : List Str), vs = [.ref a, .ref b] ∧ TxL K H a xs ∧ TxL K H b ys ∧ Gd K H ∧ ∀ H', Sm H H' → Q (.bl (xs.any fun x => ys.contains x)) H'
theorem sc_share : FnScope ["some", "others", "right"] ["some", "others"] (defScope s_share) := ⟨rfl, rfl, rfl, by decide +kernel, rfl, by decide +kernel, by decide +kernel⟩
theorem ok_share (T : Tx w K mg base) : ∃ fd, FnOk P w K mg base CX0 1 (He.ga K "_share") fd ["some", "others"] (spShare K) ∧ Binds K fd ["some", "others"] [] ∧ PySem.W.keepIn K (.ref (He.ga K "_share")) = true := by
  obtain ⟨fd, F⟩ := T.F__share
  have TB := T.tb ("_share", none) (by simp [tf])
  refine ⟨fd, okC (k := 0) F (codeOf_at F) sc_share (fun vs H Q E h => ?_) (fun A outer s H vs Q E hr h => ?_), F.bindsN (ps := ["some", "others"]) fun _ _ _ _ _ _ us hl => match us, hl with | [_, _], _ => rfl, F.kp⟩
  · obtain ⟨a, b, x, y, rfl, _⟩ := h
    rfl
  · obtain ⟨a, b, xs, ys, rfl, hx, hy, g, k⟩ := h
    have gT := g ("_share", none) (by simp [tf])
    refine ⟨_, PSs.nox (pss_one (ps_ret (pe_any (own := [("right", 2)]) (g := gName 2) (te := tOp (rIn K false) (tVar 2) (tVar 1)) hr rfl sc_share.nd T.free_any TB rfl (blkOk_by (own := [("right", 2)]) (N := ["some", "others", "right"]) (sc := defScope s_share) (by decide +kernel)) (pi_sq (pv 0))
      (fun _ _ _ _ _ _ => pg_name (i := 2) sc_share.nd rfl (Or.inl rfl)) (fun _ _ _ _ _ _ => pe_cmpR op_in_seq (pv 2) (pv 1) (by rfl))))), ?_⟩
    refine rd_gen true (f := fun v => match v with | .str t => ys.contains t | _ => false) (TxL.sq hx) gT (fun v H' R hv s1 hR => ?_) (fun H' s1 => ?_) (fun R hR => ⟨_, rfl, hR⟩)
    · obtain ⟨t, ht, rfl⟩ := List.mem_map.mp hv
      refine ⟨_, rfl, _, rfl, b, ys.map V.str, rfl, s1.txl hy, rfl, flat_strs _, ?_⟩
      have q := hR H' s1
      rw [if_neg Bool.false_ne_true, inV_str]
      exact q
    · have e2 : (if true = true then (xs.map V.str).any (fun v => match v with | .str t => ys.contains t | _ => false) else (xs.map V.str).all (fun v => match v with | .str t => ys.contains t | _ => false)) = xs.any fun x => ys.contains x := by
        rw [if_pos rfl, List.any_map]
        rfl
      rw [e2]
      exact k H' s1
def spKeptFounders (K : PySem.W.Frag) : Sp := fun vs H Q E => ∃ (a b c : Addr) (rights sole : List Str) (ws : List V) (fs : List (Str × List Str)), vs = [.ref a, .ref b, .ref c] ∧ TxL K H a rights ∧ TxL K H b sole ∧ Sq K H c ws ∧ Paired (FdAt K H) ws fs ∧
  rights.length ≤ 4000 ∧ sole.length ≤ 4000 ∧ fs.length ≤ 4000 ∧ (∀ f ∈ fs, f.1.length ≤ sizeLine ∧ f.2.length ≤ 4000) ∧ Gd K H ∧
  (∀ H' p r us, Sm H H' → keptFounders rights sole fs = some r → H' p = some (.tup us) → Paired (KfAt K H') us r → Q (.ref p) H') ∧ ∀ H', Sm H H' → keptFounders rights sole fs = none → E (.ref (IC K)) none H'
theorem sc_kept_founders : FnScope ["rights", "sole", "founders", "kept", "founder", "right"] ["rights", "sole", "founders"] (defScope s_kept_founders) := ⟨rfl, rfl, rfl, by decide +kernel, rfl, by decide +kernel, by decide +kernel⟩
theorem ok_kept_founders (T : Tx w K mg base) : ∃ fd, FnOk P w K mg base (L2.CX P w) 5 (He.ga K "_kept_founders") fd ["rights", "sole", "founders"] (spKeptFounders K) ∧ Binds K fd ["rights", "sole", "founders"] [] ∧ PySem.W.keepIn K (.ref (He.ga K "_kept_founders")) = true := by
  obtain ⟨fd, F⟩ := T.F__kept_founders
  obtain ⟨fdL, GL, bL, kL⟩ := ok_listed (P := P) T
  obtain ⟨fdC, GC, bC, kC⟩ := ok_check_names (P := P) T
  refine ⟨fd, okC (k := 4) F (codeOf_at (p := ("_kept_founders", none)) F) sc_kept_founders (fun vs H Q E h => ?_) (fun A outer s H vs Q E hr h => ?_), F.bindsN (ps := ["rights", "sole", "founders"]) fun _ _ _ _ _ _ us hl => match us, hl with | [_, _, _], _ => rfl, F.kp⟩
  · obtain ⟨a, b, c, r, x, y, z, rfl, _⟩ := h
    rfl
  · obtain ⟨a, b, c, rights, sole, ws, fs, rfl, hri, hso, hws, hpf, lr, ls, lf, lfs, g, kT, kF⟩ := h
    have nd := sc_kept_founders.nd
    have bk : ∀ {scope : Scope}, blkC ["rights", "sole", "founders", "kept", "founder", "right"] (defScope s_kept_founders) scope [("founder", 4)] = true → BlkOk ["rights", "sole", "founders", "kept", "founder", "right"] (defScope s_kept_founders) scope [("founder", 4)] := fun h => blkOk_by h
    refine ⟨_, pss_cons (ps_set (i := 3) nd rfl (Or.inl rfl) (pe_lst pa_nil))
      (pss_cons (ps_forI (passes_of rfl) rfl (pi_sq (pv 2)) (pg_name (i := 4) nd rfl (Or.inl rfl))
        (pss_cons (ps_if (pt_cmpR op_ne (pe_callB call_len_seq (by rfl) T.free_len PySem.boot_len (pa_cons (pv 4) pa_nil)) pe_int (nomark _)) (pss_one (raiseIC T rfl (takes_of rfl rfl rfl rfl) rfl)) pss_nil)
        (pss_one (ps_expr (pe_bm PySem.F.plainAttrs_list PySem.F.slot_list_append PySem.F.type_list_append mt_append (pv 3) (pa_cons (pe_tup (pa_cons (pe_ix ix_tup (pv 4) pe_int (fun _ _ => rfl))
          (pa_cons (pe_call GL (hr.mono (by decide)) rfl T.glo__listed kL bL .nil (passX (takes_of rfl rfl rfl rfl)) (pa_cons (pv 0) (pa_cons (pe_ix ix_tup (pv 4) pe_int (fun _ _ => rfl)) pa_nil))) pa_nil))) pa_nil))))))
      (pss_cons (ps_expr (pe_call GC (hr.mono (by decide)) rfl T.glo__check_names kC bC .nil (passX (takes_of rfl rfl rfl rfl)) (pa_cons (pe_lcI (own := [("founder", 4)]) (g := gName 4) (tt := tYes) (te := tOp (rIxT K) (tVar 4) (tC (.int 0))) rfl nd (pi_sq (pv 3)) (bk (by decide +kernel))
          (fun _ _ _ _ _ => pg_name (i := 4) nd rfl (Or.inl rfl)) (fun _ _ _ _ _ => pts_nil) (fun _ _ _ _ _ => pe_ix ix_tup (pv 4) pe_int (fun _ _ => rfl))) (pa_cons pe_int pa_nil))))
      (pss_cons (ps_forI (passes_of rfl) rfl (pi_sq (pv 1)) (pg_name (i := 5) nd rfl (Or.inr rfl))
        (pss_one (ps_if (pt_cmpR op_gt (pe_callB call_len_seq (by rfl) T.free_len PySem.boot_len (pa_cons (pe_lcI (own := [("founder", 4)]) (g := gName 4) (tt := tTest (tOp (rIn K false) (tVar 5) (tOp (rIxT K) (tVar 4) (tC (.int 1))))) (te := tVar 4) rfl nd (pi_sq (pv 3)) (bk (by decide +kernel))
          (fun _ _ _ _ _ => pg_name (i := 4) nd rfl (Or.inl rfl)) (fun _ _ _ _ _ => pts_one (pt_cmpR op_in_seq (pv 5) (pe_ix ix_tup (pv 4) pe_int (fun _ _ => rfl)) (by rfl))) (fun _ _ _ _ _ => pv 4)) pa_nil)) pe_int (nomark _)) (pss_one (raiseIC T rfl (takes_of rfl rfl rfl rfl) rfl)) pss_nil)))
      (pss_one (ps_ret (pe_callTy call_tuple_of (by rfl) T.free_tuple (by decide +kernel) (pa_cons (pv 3) pa_nil))))))), ?_⟩
    refine ⟨Nat.zero_le _, fun l hl => ?_⟩
    have s0 : Sm H (upd H l (.lst [])) := Sm.new hl
    refine rd_for (H0 := H) hws (fun k σ' H' => ∃ (v : Option V) (us : List V) (ks : List (Str × List Str)), σ' = [some (.ref a), some (.ref b), some (.ref c), some (.ref l), v, none] ∧ Sm H H' ∧ H' l = some (.lst us) ∧ us.length = k ∧ Paired (KfAt K H') us ks ∧
        heldAll rights fs = (heldAll rights (fs.drop k)).map fun t => ks ++ t)
      ⟨none, [], [], rfl, s0, upd_same, rfl, .nil, by simp⟩ (fun k σ' H' p => by obtain ⟨_, _, _, _, q, _⟩ := p; exact q) (fun k x σ' H' hx p => ?_) (fun σ' H' p => ?_) (fun R hR => ⟨_, rfl, hR⟩)
    · obtain ⟨v, us, ks, rfl, s1, h1, hk, hp, he⟩ := p
      obtain ⟨f, hf, pf, bf, rfl, hf1, hf2⟩ := Paired.get hpf hx
      refine ⟨_, rfl, pf, _, rfl, .inr (s1.tup hf1), rfl, _, rfl, ifF (by simp) ?_⟩
      have hlf := lfs f (List.mem_of_getElem? hf)
      have hdrop : fs.drop k = f :: fs.drop (k + 1) := by
        have hlt : k < fs.length := (List.getElem?_eq_some_iff.mp hf).1
        rw [List.drop_eq_getElem_cons hlt]
        have := (List.getElem?_eq_some_iff.mp hf).2
        rw [this]
      refine ⟨_, rfl, .inl ⟨rfl, _, SqL.of h1⟩, _, rfl, pf, _, 0, .str f.1, rfl, rfl, s1.tup hf1, rfl, ?_⟩
      refine ⟨_, rfl, _, rfl, pf, _, 1, .ref bf, rfl, rfl, s1.tup hf1, rfl, a, bf, rights, f.2, rfl, s1.txl hri, s1.txl hf2, lr, hlf.2, g.mono s1, fun H2 p r s2 e hp2 => ?_, fun H2 s2 e => ?_⟩
      · refine ⟨by show 2 ≤ sizeLine; decide, fun t ht => ?_⟩
        have q1 : H2 l = some (.lst us) := s2.st _ _ h1 fun _ z => by cases z
        have nt : l ≠ t := ne_of_none q1 ht
        have q2 : upd H2 t (.tup [.str f.1, .ref p]) l = some (.lst us) := by rw [upd_ne nt]; exact q1
        have t1 : Tu H' (upd (upd H2 t (.tup [.str f.1, .ref p])) l (.lst (us ++ [.ref t]))) := (s2.tu.trans (Sm.new ht).tu).trans (Tu.lset q2)
        refine ⟨l, us, .ref t, rfl, rfl, q2, by
          have := (List.getElem?_eq_some_iff.mp hx).1
          have := Paired.len hpf
          unfold sizeLine; omega, some (.ref pf), us ++ [.ref t], ks ++ [(f.1, r)], rfl, ?_, upd_same, by rw [List.length_append, hk]; rfl, GD.Paired.snoc (GD.Paired.imp (fun _ _ z => z.tu t1) hp) ⟨t, p, rfl, ?_, ?_⟩, ?_⟩
        · exact Sm.own ((s1.trans s2).trans (Sm.new ht)) hl fun P tb => tabG_ne tb q2 fun _ z => by cases z
        · exact (Tu.lset q2).sqt (SqT.of upd_same)
        · exact ((Sm.new ht).tu.trans (Tu.lset q2)).sqt (SqT.of hp2)
        · rw [he, hdrop, heldAll_cons, e]
          show Option.map _ (Option.map _ _) = _
          rw [Option.map_map]
          congr 1
          funext z
          simp
      · refine kF H2 (s1.trans s2) ?_
        unfold keptFounders
        rw [he, hdrop, heldAll_cons, e]
        rfl
    · obtain ⟨v, us, ks, rfl, s1, h1, hk, hp, he⟩ := p
      have lw := Paired.len hpf
      rw [List.drop_of_length_le (by omega)] at he
      have he2 : heldAll rights fs = some ks := by rw [he]; simp [heldAll]
      have lk : us.length = ks.length := Paired.len hp
      refine rd_lcP hp (q := fun _ => true) (g := fun _ y => .str y.1) (.inl (SqL.of h1)) (by unfold sizeLine; omega) (fun x y H2 R _ _ _ hR => hR H2 Sm.refl) (fun x y H2 R hF _ _ s2 hR => ?_) (fun D H2 hD s2 h2 => ?_) (fun R hR => ⟨_, rfl, hR⟩)
      · obtain ⟨p, b, rfl, k1, _⟩ := hF
        exact ⟨_, rfl, p, _, 0, .str y.1, rfl, rfl, s2.tup k1, rfl, hR H2 Sm.refl⟩
      rw [zip_all hp (fun y => V.str y.1)] at h2
      have e1 : ks.map (fun y => V.str y.1) = (ks.map (·.1)).map V.str := by rw [List.map_map]; rfl
      rw [e1] at h2
      have none_of : checkNames (ks.map (·.1)) 5 = false → keptFounders rights sole fs = none := fun e => by
        unfold keptFounders
        rw [he2]
        show (if (checkNames (ks.map (·.1)) 5 && _) = true then some ks else none) = none
        rw [e]
        rfl
      refine ⟨D, ks.map (·.1), 5, rfl, .inl (SqL.of h2), by rw [List.length_map]; omega, fun x hx => ?_, g.mono (s1.trans s2), fun H3 s3 e => ?_, fun H3 s3 e => kF H3 ((s1.trans s2).trans s3) (none_of e)⟩
      · have hx : x ∈ ks.map (·.1) := hx
        rw [heldAll_names he2] at hx
        obtain ⟨f, hf, rfl⟩ := List.mem_map.mp hx
        exact (lfs f hf).1
      have h3 : H3 l = some (.lst us) := s3.st _ _ (s2.st _ _ h1 fun _ z => by cases z) fun _ z => by cases z
      have hp3 : Paired (KfAt K H3) us ks := GD.Paired.imp (fun _ _ z => (z.mono s2).mono s3) hp
      have end_ : keptFounders rights sole fs = if (sole.all fun r => decide ((ks.filter fun f => f.2.contains r).length ≤ 1)) = true then some ks else none := by
        unfold keptFounders
        rw [he2]
        show (if (checkNames (ks.map (·.1)) 5 && _) = true then some ks else none) = _
        rw [e, Bool.true_and]
      refine rd_for (H0 := H) (TxL.sq hso) (fun k σ' H' => ∃ (v v2 : Option V), σ' = [some (.ref a), some (.ref b), some (.ref c), some (.ref l), v, v2] ∧ Sm H H' ∧ H' l = some (.lst us) ∧ Paired (KfAt K H') us ks ∧
          (sole.take k).all (fun r => decide ((ks.filter fun f => f.2.contains r).length ≤ 1)) = true)
        ⟨v, none, rfl, (s1.trans s2).trans s3, h3, hp3, rfl⟩ (fun k σ' H' p => by obtain ⟨_, _, _, q, _⟩ := p; exact q) (fun k x σ' H' hx p => ?_) (fun σ' H' p => ?_) (fun R hR => ⟨_, rfl, hR⟩)
      · obtain ⟨v, v2, rfl, s4, h4, hp4, hall⟩ := p
        rw [List.getElem?_map] at hx
        obtain ⟨r, hr5, rfl⟩ := Option.map_eq_some_iff.mp hx
        have tk : sole.take (k + 1) = sole.take k ++ [r] := by rw [List.take_add_one, hr5]; rfl
        refine rd_lcP hp4 (q := fun y => y.2.contains r) (g := fun x _ => x) (.inl (SqL.of h4)) (by unfold sizeLine; omega) (fun x y H5 R hF _ s5 hR => ?_) (fun x y H5 R _ _ _ s5 hR => ⟨x, rfl, hR H5 Sm.refl⟩) (fun D H5 hD s5 h5 => ?_) (fun R hR => ⟨_, rfl, hR⟩)
        · obtain ⟨p, b2, rfl, k1, k2⟩ := hF
          refine ⟨_, rfl, _, rfl, p, _, 1, .ref b2, rfl, rfl, s5.tup k1, rfl, b2, y.2.map V.str, rfl, .inr (s5.tup k2), rfl, flat_strs _, _, rfl, ?_⟩
          rw [if_neg Bool.false_ne_true, inV_str]
          exact hR H5 Sm.refl
        · refine ⟨D, _, rfl, .inl (SqL.of h5), _, _, rfl, rfl, _, rfl, ?_⟩
          rw [zip_len hp4 (fun y => y.2.contains r) (fun x _ => x)]
          by_cases c1 : (ks.filter fun f => f.2.contains r).length ≤ 1
          · refine ifF (decide_eq_false (by omega)) ⟨v, some (.str r), rfl, s4.trans s5, s5.st _ _ h4 (fun _ z => by cases z), GD.Paired.imp (fun _ _ z => z.mono s5) hp4, ?_⟩
            rw [tk, List.all_append, hall, List.all_cons, List.all_nil, decide_eq_true c1]
            rfl
          · refine ifT (decide_eq_true (by omega)) (kF H5 (s4.trans s5) ?_)
            rw [end_, if_neg]
            intro z
            have := List.all_eq_true.mp z r (List.mem_of_getElem? hr5)
            exact c1 (of_decide_eq_true this)
      · obtain ⟨v, v2, rfl, s4, h4, hp4, hall⟩ := p
        rw [List.length_map, List.take_length] at hall
        rw [hall, if_pos rfl] at end_
        exact ⟨_, rfl, l, us, rfl, .inl ⟨SqL.of h4, fun t ht => kT _ t ks us (s4.trans (Sm.new ht)) end_ upd_same (GD.Paired.imp (fun _ _ z => z.mono (Sm.new ht)) hp4)⟩⟩
end
end K8

-- part C08e
set_option Elab.async false
set_option linter.all false
set_option maxRecDepth 100000
set_option maxHeartbeats 2000000
namespace K8
open PySem PySem.Spec PyProof.Rows L2 GxR GS GA GD
/-- a part of a rule: a text, a list of rights -/
inductive RI where
  | t (s : Str)
  | l (xs : List Str)
def RiAt (K : PySem.W.Frag) (H : Hp) (v : V) : RI → Prop
  | .t s => v = .str s
  | .l xs => ∃ a, v = .ref a ∧ TxL K H a xs
theorem RiAt.mono {K : PySem.W.Frag} {H H' : Hp} {v : V} {r : RI} (s : Sm H H') (h : RiAt K H v r) : RiAt K H' v r := by
  cases r with
  | t z => exact h
  | l xs => obtain ⟨a, e, h⟩ := h; exact ⟨a, e, s.txl h⟩
abbrev kinds : List (Str × Int) := [("join", 1), ("claim", 2), ("drop", 2), ("give", 3), ("take", 3), ("pass", 3)]
/-- has the rule of this kind its number of parts (n behind the kind) -/
def hasParts (kind : Str) (n : Nat) : Bool := match kinds.lookup kind with
  | none => false
  | some m => decide ((n : Int) + 1 = m + (if kind = "join" then 2 else 3))
def checkRight (kind : Str) (lss : List (List Str)) (right : Str) (sole : List Str) : Bool :=
  !((decide (kind = "claim") || decide (kind = "give")) && sole.contains right) && (!(decide (kind = "pass") && (!sole.contains right || (lss.getD 0 []).contains right)) &&
  !(((lss.getD (lss.length - 2) []).any fun x => (lss.getD (lss.length - 1) []).contains x) || ((lss.getD (lss.length - 2) []).contains right || (lss.getD (lss.length - 1) []).contains right)))
/-- a tuple of texts -/
def TtAt (K : PySem.W.Frag) (H : Hp) (v : V) (xs : List Str) : Prop := ∃ a, v = .ref a ∧ SqT K H a (xs.map V.str)
section
variable {P : Program} {w : World} {K : PySem.W.Frag} {mg : Str → Option Value} {base : Heap}
def spHasParts (K : PySem.W.Frag) : Sp := fun vs H Q _ => ∃ (p : Addr) (kind : Str) (us : List V), vs = [.ref p] ∧ SqT K H p (.str kind :: us) ∧ Q (.bl (hasParts kind us.length)) H
theorem sc_has : FnScope ["rule", "others"] ["rule"] (defScope s_has_its_parts) := ⟨rfl, rfl, rfl, by decide +kernel, rfl, by decide +kernel, by decide +kernel⟩
theorem ok_has_its_parts (T : Tx w K mg base) : ∃ fd, FnOk P w K mg base CX0 1 (He.ga K "_has_its_parts") fd ["rule"] (spHasParts K) ∧ Binds K fd ["rule"] [] ∧ PySem.W.keepIn K (.ref (He.ga K "_has_its_parts")) = true := by
  obtain ⟨fd, F⟩ := T.F__has_its_parts
  have LK := T.tab_LISTS
  refine ⟨fd, okC (k := 0) F (codeOf_at (p := ("_has_its_parts", none)) F) sc_has (fun vs H Q E h => ?_) (fun A outer s H vs Q E hr h => ?_), F.bindsN (ps := ["rule"]) fun _ _ _ _ _ _ us hl => match us, hl with | [_], _ => rfl, F.kp⟩
  · obtain ⟨p, k, us, rfl, _⟩ := h
    rfl
  · obtain ⟨p, kind, us, rfl, hp, k⟩ := h
    refine ⟨_, PSs.nox (pss_cons (ps_if (PW.pt (pw_or (pt_cmpR op_eq (pe_callB call_len_seq (by rfl) T.free_len PySem.boot_len (pa_cons (pv 0) pa_nil)) pe_int (nomark _))
        (pw_or1 (pt_cmpR op_notInK (pe_ix ix_tup (pv 0) pe_int (fun _ _ => rfl)) (pe_glob (v := .ref (He.ga K "LISTS")) rfl T.glo_LISTS rfl) (by rfl))))) (pss_one (ps_ret pe_bl)) pss_nil)
      (pss_cons (ps_set (i := 1) sc_has.nd rfl (Or.inl rfl) (pe_ifExp (pt_cmpR op_eq (pe_ix ix_tup (pv 0) pe_int (fun _ _ => rfl)) pe_str (nomark _)) pe_int pe_int))
      (pss_one (ps_ret (pe_cmpR op_eq (pe_callB call_len_seq (by rfl) T.free_len PySem.boot_len (pa_cons (pv 0) pa_nil)) (pe_op op_add (pe_ix ix_kdict (pe_glob (v := .ref (He.ga K "LISTS")) rfl T.glo_LISTS rfl) (pe_ix ix_tup (pv 0) pe_int (fun _ _ => rfl)) (fun _ _ => rfl)) (pv 1)) (nomark _)))))), ?_⟩
    refine ⟨_, rfl, p, _, rfl, .inr hp, rfl, _, rfl, ifF (decide_eq_false fun z => by
      have z : ((us.length + 1 : Nat) : Int) = 0 := V.int.inj z
      omega) ?_⟩
    refine ⟨_, rfl, p, _, 0, .str kind, rfl, rfl, hp, atI_nat (j := 0) rfl, _, kind, _, rfl, rfl, (LK kind).2, _, rfl, ?_⟩
    cases e : kinds.lookup kind with
    | none =>
      refine ifT rfl ?_
      have q : hasParts kind us.length = false := by unfold hasParts; rw [e]
      rw [q] at k
      exact k
    | some m =>
      refine ifF rfl ?_
      refine ⟨_, rfl, p, _, 0, .str kind, rfl, rfl, hp, atI_nat (j := 0) rfl, rfl, _, rfl, ?_⟩
      have q : hasParts kind us.length = decide ((us.length : Int) + 1 = m + (if kind = "join" then 2 else 3)) := by unfold hasParts; rw [e]
      have len : (((V.str kind :: us).length : Nat) : Int) = (us.length : Int) + 1 := by rw [List.length_cons]; omega
      by_cases hj : kind = "join"
      · refine ifT (decide_eq_true (congrArg V.str hj)) ?_
        rw [if_pos hj] at q
        refine ⟨_, rfl, p, _, rfl, .inr hp, _, rfl, p, _, 0, .str kind, rfl, rfl, hp, atI_nat (j := 0) rfl, _, kind, .int m, rfl, rfl, (LK kind).1 m e, _, rfl, _, _, rfl, rfl, rfl, ?_⟩
        rw [len, dec_int, Bool.beq_eq_decide_eq, ← q]
        exact k
      · refine ifF (decide_eq_false fun z => hj (V.str.inj z)) ?_
        rw [if_neg hj] at q
        refine ⟨_, rfl, p, _, rfl, .inr hp, _, rfl, p, _, 0, .str kind, rfl, rfl, hp, atI_nat (j := 0) rfl, _, kind, .int m, rfl, rfl, (LK kind).1 m e, _, rfl, _, _, rfl, rfl, rfl, ?_⟩
        rw [len, dec_int, Bool.beq_eq_decide_eq, ← q]
        exact k
def spCheckRight (K : PySem.W.Frag) : Sp := fun vs H Q E => ∃ (kind right : Str) (lp sp : Addr) (us : List V) (lss : List (List Str)) (sole : List Str), vs = [.str kind, .ref lp, .str right, .ref sp] ∧ SqL K H lp us ∧ Paired (TtAt K H) us lss ∧ 2 ≤ lss.length ∧ TxL K H sp sole ∧ Gd K H ∧
  (∀ H', Sm H H' → checkRight kind lss right sole = true → Q .non H') ∧ ∀ H', Sm H H' → checkRight kind lss right sole = false → E (.ref (IC K)) none H'
theorem sc_check_right : FnScope ["kind", "lists", "right", "sole", "asked", "lacks"] ["kind", "lists", "right", "sole"] (defScope s_check_right) := ⟨rfl, rfl, rfl, by decide +kernel, rfl, by decide +kernel, by decide +kernel⟩
theorem ok_check_right (T : Tx w K mg base) : ∃ fd, FnOk P w K mg base (L2.CX P w) 2 (He.ga K "_check_right") fd ["kind", "lists", "right", "sole"] (spCheckRight K) ∧ Binds K fd ["kind", "lists", "right", "sole"] [] ∧ PySem.W.keepIn K (.ref (He.ga K "_check_right")) = true := by
  obtain ⟨fd, F⟩ := T.F__check_right
  obtain ⟨fdS, GSh, bS, kS⟩ := ok_share (P := P) T
  refine ⟨fd, okC (k := 1) F (codeOf_at (p := ("_check_right", none)) F) sc_check_right (fun vs H Q E h => ?_) (fun A outer s H vs Q E hr h => ?_), F.bindsN (ps := ["kind", "lists", "right", "sole"]) fun _ _ _ _ _ _ us hl => match us, hl with | [_, _, _, _], _ => rfl, F.kp⟩
  · obtain ⟨a, b, c, d, e, f, g, rfl, _⟩ := h
    rfl
  · obtain ⟨kind, right, lp, sp, us, lss, sole, rfl, hlp, hp, h2, hso, g, kT, kF⟩ := h
    have nd := sc_check_right.nd
    refine ⟨_, pss_cons (ps_if (PW.pt (pw_and (pt_cmpR op_in_seq (pv 0) (pe_tup (pa_cons pe_str (pa_cons pe_str pa_nil))) (by rfl)) (pw_and1 (pt_cmpR op_in_seq (pv 2) (pv 3) (by rfl))))) (pss_one (raiseIC T rfl (takes_of rfl rfl rfl rfl) rfl)) pss_nil)
      (pss_cons (ps_if (PW.pt (pw_and (pt_cmpR op_eq (pv 0) pe_str (nomark _)) (pw_and1 (PW.pt (pw_or (pt_cmpR op_notIn_seq (pv 2) (pv 3) (by rfl)) (pw_or1 (pt_cmpR op_in_seq (pv 2) (pe_ix ix_list (pv 1) pe_int (fun _ _ => rfl)) (by rfl)))))))) (pss_one (raiseIC T rfl (takes_of rfl rfl rfl rfl) rfl)) pss_nil)
      (pss_cons (ps_asg (pe_slice sl_list (pv 1) (po_some (pe_un un_neg pe_int)) po_none) (pg_unl rfl (pgs_cons (pg_name (i := 4) nd rfl (Or.inl rfl)) (pgs_cons (pg_name (i := 5) nd rfl (Or.inl rfl)) pgs_nil))))
      (pss_one (ps_if (PW.pt (pw_or (pt_val (pe_call GSh (hr.mono (by decide)) rfl T.glo__share kS bS .nil pass0 (pa_cons (pv 4) (pa_cons (pv 5) pa_nil)))) (pw_or (pt_cmpR op_in_seq (pv 2) (pv 4) (by rfl)) (pw_or1 (pt_cmpR op_in_seq (pv 2) (pv 5) (by rfl)))))) (pss_one (raiseIC T rfl (takes_of rfl rfl rfl rfl) rfl)) pss_nil)))), ?_⟩
    obtain ⟨pu, u1, u2, rfl⟩ : ∃ pu u1 u2, us = pu ++ [u1, u2] := by
      have l1 := Paired.len hp
      refine ⟨us.take (us.length - 2), us[us.length - 2]'(by omega), us[us.length - 1]'(by omega), ?_⟩
      have e : us.drop (us.length - 2) = [us[us.length - 2]'(by omega), us[us.length - 1]'(by omega)] := by
        rw [List.drop_eq_getElem_cons (by omega), List.drop_eq_getElem_cons (by omega), List.drop_of_length_le (by omega)]
        congr 3
        omega
      rw [← e, List.take_append_drop]
    have lp' : pu.length + 2 = lss.length := by rw [← Paired.len hp, List.length_append]; rfl
    obtain ⟨xs, hxs, q1, rfl, k1⟩ := Paired.get (i := pu.length) hp (by rw [List.getElem?_append_right (Nat.le_refl _), Nat.sub_self]; rfl)
    obtain ⟨ys, hys, q2, rfl, k2⟩ := Paired.get (i := pu.length + 1) hp (by rw [List.getElem?_append_right (by omega), Nat.add_sub_cancel_left]; rfl)
    obtain ⟨zs, hzs, q0, e0, k0⟩ : ∃ zs, lss[0]? = some zs ∧ ∃ q0, (pu ++ [V.ref q1, V.ref q2])[0]? = some (.ref q0) ∧ SqT K H q0 (zs.map V.str) := by
      have hlt : 0 < (pu ++ [V.ref q1, V.ref q2]).length := by rw [List.length_append]; show 0 < pu.length + 2; omega
      obtain ⟨zs, h1, q0, h2, h3⟩ := Paired.get (i := 0) hp (List.getElem?_eq_getElem hlt)
      exact ⟨zs, h1, q0, by rw [List.getElem?_eq_getElem hlt, h2], h3⟩
    have d0 : lss.getD 0 [] = zs := by rw [List.getD_eq_getElem?_getD, hzs]; rfl
    have d1 : lss.getD (lss.length - 2) [] = xs := by rw [List.getD_eq_getElem?_getD, show lss.length - 2 = pu.length by omega, hxs]; rfl
    have d2 : lss.getD (lss.length - 1) [] = ys := by rw [List.getD_eq_getElem?_getD, show lss.length - 1 = pu.length + 1 by omega, hys]; rfl
    have inT : ∀ {H' : Hp} {a : Addr} {x : Str} {ys : List Str} {R : V → Hp → Prop}, TxL K H' a ys → R (.bl (ys.contains x)) H' → rIn K false (.str x) (.ref a) H' R := fun h q => ⟨_, _, rfl, h, rfl, flat_strs _, by rw [if_neg Bool.false_ne_true, inV_str]; exact q⟩
    have niT : ∀ {H' : Hp} {a : Addr} {x : Str} {ys : List Str} {R : V → Hp → Prop}, TxL K H' a ys → R (.bl (!ys.contains x)) H' → rIn K true (.str x) (.ref a) H' R := fun h q => ⟨_, _, rfl, h, rfl, flat_strs _, by rw [if_pos rfl, inV_str]; exact q⟩
    refine rd_ifN ((decide (kind = "claim") || decide (kind = "give")) && sole.contains right) (fun R hR => ?_) (fun e H1 s1 => kF H1 s1 ?_) (fun e1 H1 s1 => ?_)
    · refine ⟨_, rfl, by show 2 ≤ sizeLine; decide, fun t ht => ⟨t, [.str "claim", .str "give"], rfl, .inr (SqT.of upd_same), rfl, rfl, _, rfl, ?_⟩⟩
      have e : (if false = true then !inV (.str kind) [.str "claim", .str "give"] else inV (.str kind) [.str "claim", .str "give"]) = (decide (kind = "claim") || decide (kind = "give")) := by
        rw [if_neg Bool.false_ne_true]
        show ((("claim" : Str) == kind) || ((("give" : Str) == kind) || false)) = _
        rw [Bool.or_false, Bool.beq_eq_decide_eq, Bool.beq_eq_decide_eq]
        congr 1 <;> exact decide_eq_decide.mpr ⟨Eq.symm, Eq.symm⟩
      rw [e]
      cases c1 : (decide (kind = "claim") || decide (kind = "give")) with
      | false =>
        rw [c1] at hR
        exact ifF rfl (hR _ (Sm.new ht))
      | true =>
        rw [c1] at hR
        exact ifT rfl ⟨_, rfl, _, rfl, inT ((Sm.new ht).txl hso) ⟨_, rfl, hR _ (Sm.new ht)⟩⟩
    · unfold checkRight
      rw [e]
      rfl
    refine rd_ifN (decide (kind = "pass") && (!sole.contains right || zs.contains right)) (fun R hR => ?_) (fun e H2 s2 => kF H2 (s1.trans s2) ?_) (fun e2 H2 s2 => ?_)
    · refine ⟨_, rfl, rfl, _, rfl, ?_⟩
      by_cases hk : kind = "pass"
      · rw [decide_eq_true hk] at hR
        refine ifT (decide_eq_true (congrArg V.str hk)) ⟨_, rfl, _, rfl, niT (s1.txl hso) ⟨_, rfl, ?_⟩⟩
        cases c1 : sole.contains right with
        | false =>
          rw [c1] at hR
          exact ifT rfl (hR H1 Sm.refl)
        | true =>
          rw [c1] at hR
          exact ifF rfl ⟨_, rfl, _, rfl, lp, _, 0, _, rfl, rfl, s1.lst hlp, atI_nat (j := 0) e0, inT (.inr (s1.tup k0)) ⟨_, rfl, hR H1 Sm.refl⟩⟩
      · rw [decide_eq_false hk] at hR
        exact ifF (decide_eq_false fun z => hk (V.str.inj z)) (hR H1 Sm.refl)
    · unfold checkRight
      rw [d0, e, e1]
      rfl
    have s12 := s1.trans s2
    refine ⟨_, rfl, _, rfl, _, rfl, lp, _, rfl, s12.lst hlp, fun p hp2 => ?_⟩
    have cut : cutV (pu ++ [V.ref q1, V.ref q2]) (some (-2)) none = [V.ref q1, V.ref q2] := by
      unfold cutV
      have el : (pu ++ [V.ref q1, V.ref q2]).length = pu.length + 2 := by rw [List.length_append]; rfl
      have e1 : HT.sIx (pu ++ [V.ref q1, V.ref q2]).length 0 (some (-2)) = pu.length := by
        rw [el]
        show (if (-2 : Int) < 0 then ((-2 : Int) + ((pu.length + 2 : Nat) : Int)).toNat else min (-2 : Int).toNat (pu.length + 2)) = pu.length
        rw [if_pos (by decide)]
        omega
      have e2 : HT.sIx (pu ++ [V.ref q1, V.ref q2]).length (pu ++ [V.ref q1, V.ref q2]).length none = pu.length + 2 := el
      rw [e1, e2, List.drop_left, Nat.add_sub_cancel_left]
      exact List.take_of_length_le (Nat.le_refl 2)
    have hp3 : upd H2 p (.lst (cutV (pu ++ [V.ref q1, V.ref q2]) (some (-2)) none)) p = some (.lst [V.ref q1, V.ref q2]) := by rw [upd_same, cut]
    have s3 : Sm H (upd H2 p (.lst (cutV (pu ++ [V.ref q1, V.ref q2]) (some (-2)) none))) := s12.trans (Sm.new hp2)
    have last : checkRight kind lss right sole = !((xs.any fun x => ys.contains x) || (xs.contains right || ys.contains right)) := by
      unfold checkRight
      rw [d0, d1, d2, e1, e2]
      rfl
    refine ⟨p, [V.ref q1, V.ref q2], rfl, SqL.of hp3, rfl, V.ref q1, [V.ref q2], rfl, V.ref q2, [], rfl, rfl, ?_⟩
    generalize upd H2 p (.lst (cutV (pu ++ [V.ref q1, V.ref q2]) (some (-2)) none)) = H3 at s3 ⊢
    dsimp only
    refine rd_if1 (D := { nx := fun _ H' => Q .non H', rt := Q }) ((xs.any fun x => ys.contains x) || (xs.contains right || ys.contains right)) (fun R hR => ?_) (fun e H4 s4 => ?_) (fun e H4 s4 => ?_)
    rotate_left
    · exact kF H4 (s3.trans s4) (by rw [last, e]; rfl)
    · exact kT H4 (s3.trans s4) (by rw [last, e]; rfl)
    refine ⟨_, rfl, _, rfl, q1, q2, xs, ys, rfl, .inr (s3.tup k1), .inr (s3.tup k2), g.mono s3, fun H4 s4 => ⟨_, rfl, ?_⟩⟩
    cases c1 : xs.any fun x => ys.contains x with
    | true =>
      rw [c1] at hR
      exact ifT rfl (hR H4 s4)
    | false =>
      rw [c1] at hR
      refine ifF rfl ⟨_, rfl, _, rfl, inT (.inr ((s3.trans s4).tup k1)) ⟨_, rfl, ?_⟩⟩
      cases c2 : xs.contains right with
      | true =>
        rw [c2] at hR
        exact ifT rfl (hR H4 s4)
      | false =>
        rw [c2] at hR
        exact ifF rfl ⟨_, rfl, _, rfl, inT (.inr ((s3.trans s4).tup k2)) ⟨_, rfl, hR H4 s4⟩⟩
end
end K8

-- part C9f
set_option Elab.async false
set_option linter.all false
set_option maxRecDepth 100000
set_option maxHeartbeats 2000000
namespace K8
open PySem PySem.Spec PyProof.Rows L2 GxR GS GA GD
/-- a rule: its kind, its name, its lists of rights, its right -/
structure Ru where
  kind : Str
  name : Str
  ls : List (List Str)
  right : Option Str
def Ru.n (r : Ru) : Nat := 1 + r.ls.length + (if r.right.isSome then 1 else 0)
/-- a list or a tuple of texts, as a value -/
def TlAt (K : PySem.W.Frag) (H : Hp) (v : V) (xs : List Str) : Prop := ∃ a, v = .ref a ∧ TxL K H a xs
def RuAt (K : PySem.W.Frag) (H : Hp) (v : V) (r : Ru) : Prop := ∃ p us, v = .ref p ∧ SqT K H p (.str r.kind :: .str r.name :: (us ++ r.right.toList.map V.str)) ∧ Paired (TlAt K H) us r.ls
/-- a rule as it is kept -/
def KrAt (K : PySem.W.Frag) (H : Hp) (v : V) (r : Ru) : Prop := ∃ p us, v = .ref p ∧ SqT K H p (.str r.kind :: .str r.name :: (us ++ r.right.toList.map V.str)) ∧ Paired (TtAt K H) us r.ls
theorem RuAt.mono {K : PySem.W.Frag} {H H' : Hp} {v : V} {r : Ru} (s : Sm H H') (h : RuAt K H v r) : RuAt K H' v r :=
  let ⟨p, us, e, h1, h2⟩ := h; ⟨p, us, e, s.tup h1, GD.Paired.imp (fun _ _ ⟨a, e, z⟩ => ⟨a, e, s.txl z⟩) h2⟩
theorem KrAt.tu {K : PySem.W.Frag} {H H' : Hp} {v : V} {r : Ru} (s : Tu H H') (h : KrAt K H v r) : KrAt K H' v r :=
  let ⟨p, us, e, h1, h2⟩ := h; ⟨p, us, e, s.sqt h1, GD.Paired.imp (fun _ _ ⟨a, e, z⟩ => ⟨a, e, s.sqt z⟩) h2⟩
def listAll (rights : List Str) : List (List Str) → Option (List (List Str))
  | [] => some []
  | l :: r => (listed rights l).bind fun h => (listAll rights r).map fun t => h :: t
def keptRule (rights sole : List Str) (r : Ru) : Option Ru :=
  if hasParts r.kind r.n = false then none else match r.right with
  | none => (listed rights (r.ls.getD 0 [])).bind fun h => if (h.any fun x => sole.contains x) = true then none else some ⟨r.kind, r.name, [h], none⟩
  | some right => if rights.contains right = false then none else (listAll rights r.ls).bind fun ls => if checkRight r.kind ls right sole = true then some ⟨r.kind, r.name, ls, some right⟩ else none
/-- the parts go with the kind; the lists of a rule with a known right can be listed -/
structure RuOk (rights : List Str) (r : Ru) : Prop where
  join : hasParts r.kind r.n = true → (r.kind = "join" ↔ r.right = none)
  short : ∀ l ∈ r.ls, l.length ≤ 4000
theorem listAll_of {rights : List Str} : ∀ {ls rs : List (List Str)}, ls.map (listed rights) = rs.map some → listAll rights ls = some rs
  | [], [], _ => rfl
  | [], r :: t, h => by cases h
  | l :: r, [], h => by cases h
  | l :: r, x :: t, h => by
    rw [List.map_cons, List.map_cons] at h
    injection h with h1 h2
    show (listed rights l).bind (fun h => (listAll rights r).map fun t => h :: t) = _
    rw [h1, listAll_of h2]
    rfl
theorem listAll_no {rights y : List Str} : ∀ {ls : List (List Str)}, y ∈ ls → listed rights y = none → listAll rights ls = none
  | l :: r, hm, h => by
    show (listed rights l).bind (fun h => (listAll rights r).map fun t => h :: t) = _
    rcases List.mem_cons.mp hm with rfl | hm
    · rw [h]; rfl
    · rw [listAll_no hm h]
      cases listed rights l <;> rfl
theorem listAll_some {rights : List Str} : ∀ {ls : List (List Str)}, (listAll rights ls).isSome = true → listAll rights ls = some (ls.map fun l => (listed rights l).getD []) ∧ ∀ l ∈ ls, listed rights l = some ((listed rights l).getD [])
  | [], _ => ⟨rfl, fun _ h => by cases h⟩
  | l :: r, h => by
    have e : listAll rights (l :: r) = (listed rights l).bind fun h => (listAll rights r).map fun t => h :: t := rfl
    rw [e] at h ⊢
    cases q : listed rights l with
    | none => rw [q] at h; cases h
    | some x =>
      rw [q] at h
      have h2 : (listAll rights r).isSome = true := by simpa using h
      obtain ⟨i1, i2⟩ := listAll_some h2
      refine ⟨?_, fun y hy => ?_⟩
      · rw [i1]
        show some (x :: _) = some ((listed rights l).getD [] :: _)
        rw [q]; rfl
      · rcases List.mem_cons.mp hy with rfl | hy
        · rw [q]; rfl
        · exact i2 y hy
theorem paired_one {α β : Type} {F : α → β → Prop} {us : List α} {y : β} (h : Paired F us [y]) : ∃ u, us = [u] ∧ F u y := by
  cases h with
  | cons h t => cases t; exact ⟨_, rfl, h⟩
theorem cut_lo {a b c : V} (us : List V) : ¬ HT.sIx (a :: b :: (us ++ [c])).length 0 (some 2) = 0 := by
  intro z
  have e : HT.sIx (a :: b :: (us ++ [c])).length 0 (some 2) = min 2 (a :: b :: (us ++ [c])).length := rfl
  rw [e] at z
  simp only [List.length_cons] at z
  omega
theorem cut_mid {a b c : V} (us : List V) : cutV (a :: b :: (us ++ [c])) (some 2) (some (-1)) = us := by
  have el : (a :: b :: (us ++ [c])).length = us.length + 3 := by simp
  have e1 : HT.sIx (a :: b :: (us ++ [c])).length 0 (some 2) = 2 := by
    show min 2 (a :: b :: (us ++ [c])).length = 2
    omega
  have e2 : HT.sIx (a :: b :: (us ++ [c])).length (a :: b :: (us ++ [c])).length (some (-1)) = us.length + 2 := by
    rw [el]
    show (if (-1 : Int) < 0 then ((-1 : Int) + ((us.length + 3 : Nat) : Int)).toNat else min (-1 : Int).toNat (us.length + 3)) = us.length + 2
    rw [if_pos (by decide)]
    omega
  unfold cutV
  rw [e1, e2]
  show (us ++ [c]).take (us.length + 2 - 2) = us
  rw [Nat.add_sub_cancel, List.take_left]
section
variable {P : Program} {w : World} {K : PySem.W.Frag} {mg : Str → Option Value} {base : Heap}
def spKeptRule (K : PySem.W.Frag) : Sp := fun vs H Q E => ∃ (a b : Addr) (v : V) (rights sole : List Str) (r : Ru), vs = [.ref a, .ref b, v] ∧ SqT K H a (rights.map V.str) ∧ TxL K H b sole ∧ RuAt K H v r ∧ rights.length ≤ 4000 ∧ RuOk rights r ∧ Gd K H ∧
  (∀ H' u r', Sm H H' → keptRule rights sole r = some r' → KrAt K H' u r' → Q u H') ∧ ∀ H', Sm H H' → keptRule rights sole r = none → E (.ref (IC K)) none H'
abbrev Nkr : List Str := ["rights", "sole", "rule", "held", "right", "lists", "words"]
theorem sc_kept_rule : FnScope Nkr ["rights", "sole", "rule"] (defScope s_kept_rule) := ⟨rfl, rfl, rfl, by decide +kernel, rfl, by decide +kernel, by decide +kernel⟩
theorem ok_kept_rule (T : Tx w K mg base) : ∃ fd, FnOk P w K mg base (L2.CX P w) 5 (He.ga K "_kept_rule") fd ["rights", "sole", "rule"] (spKeptRule K) ∧ Binds K fd ["rights", "sole", "rule"] [] ∧ PySem.W.keepIn K (.ref (He.ga K "_kept_rule")) = true := by
  obtain ⟨fd, F⟩ := T.F__kept_rule
  obtain ⟨fdH, GH, bH, kH⟩ := ok_has_its_parts (P := P) T
  obtain ⟨fdL, GL, bL, kL⟩ := ok_listed (P := P) T
  obtain ⟨fdS, GSh, bS, kS⟩ := ok_share (P := P) T
  obtain ⟨fdC, GC, bC, kC⟩ := ok_check_right (P := P) T
  refine ⟨fd, okC (k := 4) F (codeOf_at (p := ("_kept_rule", none)) F) sc_kept_rule (fun vs H Q E h => ?_) (fun A outer s H vs Q E hr h => ?_), F.bindsN (ps := ["rights", "sole", "rule"]) fun _ _ _ _ _ _ us hl => match us, hl with | [_, _, _], _ => rfl, F.kp⟩
  · obtain ⟨a, b, c, d, e, f, rfl, _⟩ := h
    rfl
  · obtain ⟨a, b, v, rights, sole, r, rfl, hri, hso, hru, lr, ok, g, kT, kF⟩ := h
    have nd := sc_kept_rule.nd
    have r1 : ∀ {k : Nat}, k ≤ 4 → Room k (A.deeper (envOfC "_kept_rule" (defScope s_kept_rule) s.heap.objs.size (He.ga K "_kept_rule") (Value.ref (He.codeOf K ("_kept_rule", none))))) := fun h => hr.mono h
    refine ⟨_, pss_cons (ps_if (pt_not (pt_val (pe_call GH (r1 (by decide)) rfl T.glo__has_its_parts kH bH .nil pass0 (pa_cons (pv 2) pa_nil)))) (pss_one (raiseIC T rfl (takes_of rfl rfl rfl rfl) rfl)) pss_nil)
      (pss_cons (ps_if (pt_cmpR op_eq (pe_ix ix_tup (pv 2) pe_int (fun _ _ => rfl)) pe_str (nomark _))
          (pss_cons (ps_set (i := 3) nd rfl (Or.inl rfl) (pe_call GL (r1 (by decide)) rfl T.glo__listed kL bL .nil (passX (takes_of rfl rfl rfl rfl)) (pa_cons (pv 0) (pa_cons (pe_ix ix_tup (pv 2) pe_int (fun _ _ => rfl)) pa_nil))))
          (pss_cons (ps_if (pt_val (pe_call GSh (r1 (by decide)) rfl T.glo__share kS bS .nil pass0 (pa_cons (pv 3) (pa_cons (pv 1) pa_nil)))) (pss_one (raiseIC T rfl (takes_of rfl rfl rfl rfl) rfl)) pss_nil)
          (pss_one (ps_ret (pe_tup (pa_cons pe_str (pa_cons (pe_ix ix_tup (pv 2) pe_int (fun _ _ => rfl)) (pa_cons (pv 3) pa_nil)))))))) pss_nil)
      (pss_cons (ps_set (i := 4) nd rfl (Or.inl rfl) (pe_ix ix_tup (pv 2) (pe_un un_neg pe_int) (fun _ _ => rfl)))
      (pss_cons (ps_if (pt_cmpR op_notIn_seq (pv 4) (pv 0) (by rfl)) (pss_one (raiseIC T rfl (takes_of rfl rfl rfl rfl) rfl)) pss_nil)
      (pss_cons (RC.ps_setLcX (i := 5) (own := [("words", 6)]) (g := gName 6) (te := tCall (spListed K) [] E (tCons (tVar 0) (tCons (tVar 6) tNil))) rfl nd rfl rfl (sw_true rfl rfl rfl (by decide +kernel)) rfl rfl (takes_of rfl rfl rfl rfl)
          (pi_sq (pe_slice sl_tupA (pv 2) (po_some pe_int) (po_some (pe_un un_neg pe_int)))) (blkOk_by (own := [("words", 6)]) (N := Nkr) (sc := defScope s_kept_rule) (by decide +kernel))
          (fun _ _ _ _ _ => pg_name (i := 6) nd rfl (Or.inl rfl)) (fun _ _ _ _ _ => pe_call GL (r1 (by decide)) rfl T.glo__listed kL bL .nil RC.passB (pa_cons (pv 0) (pa_cons (pv 6) pa_nil))))
      (pss_cons (ps_expr (pe_call GC (r1 (by decide)) rfl T.glo__check_right kC bC .nil (passX (takes_of rfl rfl rfl rfl)) (pa_cons (pe_ix ix_tup (pv 2) pe_int (fun _ _ => rfl)) (pa_cons (pv 5) (pa_cons (pv 4) (pa_cons (pv 1) pa_nil))))))
      (pss_one (ps_ret (pe_tup (pa_cons (pe_ix ix_tup (pv 2) pe_int (fun _ _ => rfl)) (pa_cons (pe_ix ix_tup (pv 2) pe_int (fun _ _ => rfl)) (StX.pa_star (pv 5) (pa_cons (pv 4) pa_nil)))))))))))), ?_⟩
    obtain ⟨pr, us, rfl, hrp, hus⟩ := hru
    have ln : (V.str r.name :: (us ++ r.right.toList.map V.str)).length = r.n := by
      unfold Ru.n
      rw [List.length_cons, List.length_append, List.length_map, Paired.len hus]
      cases r.right <;> simp <;> omega
    refine rd_ifN (!hasParts r.kind r.n) (fun R hR => ?_) (fun e H1 s1 => kF H1 s1 ?_) (fun e1 H1 s1 => ?_)
    · rw [← ln] at hR
      exact ⟨_, rfl, pr, r.kind, _, rfl, hrp, _, rfl, hR H Sm.refl⟩
    · unfold keptRule
      have e2 : hasParts r.kind r.n = false := by simpa using e
      rw [if_pos e2]
    have e1 : hasParts r.kind r.n = true := by simpa using e1
    have k0 : keptRule rights sole r = match r.right with
        | none => (listed rights (r.ls.getD 0 [])).bind fun h => if (h.any fun x => sole.contains x) = true then none else some ⟨r.kind, r.name, [h], none⟩
        | some right => if rights.contains right = false then none else (listAll rights r.ls).bind fun ls => if checkRight r.kind ls right sole = true then some ⟨r.kind, r.name, ls, some right⟩ else none := by
      unfold keptRule
      rw [e1]
      rfl
    have jn := ok.join e1
    refine rd_ifN (decide (r.kind = "join")) (fun R hR => ?_) (fun e H2 s2 => ?_) (fun e2 H2 s2 => ?_)
    · refine ⟨_, rfl, pr, _, 0, .str r.kind, rfl, rfl, s1.tup hrp, at0, rfl, _, rfl, ?_⟩
      have e : decide (V.str r.kind = V.str "join") = decide (r.kind = "join") := decide_eq_decide.mpr ⟨V.str.inj, congrArg _⟩
      rw [e]
      exact hR H1 Sm.refl
    · have hk : r.kind = "join" := of_decide_eq_true e
      have hr0 : r.right = none := jn.mp hk
      rw [hr0] at k0
      have l1 : r.ls.length = 1 := by
        have q := e1
        unfold hasParts Ru.n at q
        rw [hk, hr0] at q
        have q2 : decide (((1 + r.ls.length + 0 : Nat) : Int) + 1 = 1 + 2) = true := q
        have := of_decide_eq_true q2
        omega
      obtain ⟨l0, e0⟩ := List.length_eq_one_iff.mp l1
      rw [e0] at hus
      obtain ⟨u0, rfl, b0, rfl, hb0⟩ := paired_one hus
      rw [hr0, hk] at hrp
      have s12 := s1.trans s2
      have hl0 : l0.length ≤ 4000 := ok.short _ (by rw [e0]; exact List.mem_cons_self ..)
      rw [e0] at k0
      refine ⟨_, rfl, _, rfl, pr, _, 2, .ref b0, rfl, rfl, s12.tup hrp, atI_nat (j := 2) rfl, a, b0, rights, l0, rfl, .inr (s12.tup hri), s12.txl hb0, lr, hl0, g.mono s12, fun H3 p h s3 e hp => ?_, fun H3 s3 e => kF H3 (s12.trans s3) ?_⟩
      rotate_left
      · rw [k0]
        show (listed rights l0).bind _ = none
        rw [e]; rfl
      have k1 : keptRule rights sole r = if (h.any fun x => sole.contains x) = true then none else some ⟨r.kind, r.name, [h], none⟩ := by
        rw [k0]
        show (listed rights l0).bind _ = _
        rw [e]; rfl
      have s13 := s12.trans s3
      dsimp only [gName]
      refine rd_ifN (h.any fun x => sole.contains x) (fun R hR => ⟨_, rfl, _, rfl, p, b, h, sole, rfl, .inr (SqT.of hp), s13.txl hso, g.mono s13, fun H4 s4 => ⟨_, rfl, hR H4 s4⟩⟩) (fun e5 H4 s4 => kF H4 (s13.trans s4) (by rw [k1, e5]; rfl)) (fun e5 H4 s4 => ?_)
      rw [e5, hk] at k1
      have s14 := s13.trans s4
      refine ⟨_, rfl, pr, _, 1, .str r.name, rfl, rfl, s14.tup hrp, atI_nat (j := 1) rfl, _, rfl, by show 3 ≤ sizeLine; decide, fun t ht => ?_⟩
      refine kT _ _ ⟨"join", r.name, [h], none⟩ (s14.trans (Sm.new ht)) k1 ⟨t, [.ref p], rfl, SqT.of upd_same, .cons ⟨p, rfl, ?_⟩ .nil⟩
      exact ((Sm.new ht).tup (s4.tup (SqT.of hp)))
    · have hk : r.kind ≠ "join" := of_decide_eq_false e2
      obtain ⟨right, hr0⟩ : ∃ right, r.right = some right := by
        cases q : r.right with
        | none => exact absurd (jn.mpr q) hk
        | some x => exact ⟨x, rfl⟩
      rw [hr0] at k0 hrp
      have hrp : SqT K H pr (.str r.kind :: .str r.name :: (us ++ [V.str right])) := hrp
      have s12 := s1.trans s2
      obtain ⟨l2, l3⟩ : 2 ≤ r.ls.length ∧ r.ls.length ≤ 3 := by
        have q := e1
        unfold hasParts Ru.n at q
        rw [hr0] at q
        revert q
        cases lk : kinds.lookup r.kind with
        | none => intro q; cases q
        | some m =>
          intro q
          have q2 : ((1 + r.ls.length + 1 : Nat) : Int) + 1 = m + (if r.kind = "join" then 2 else 3) := of_decide_eq_true q
          rw [if_neg hk] at q2
          have hm := lookup_some lk
          simp only [List.mem_cons, Prod.mk.injEq, List.mem_nil_iff, or_false] at hm
          rcases hm with ⟨hm, _⟩ | ⟨_, hm⟩ | ⟨_, hm⟩ | ⟨_, hm⟩ | ⟨_, hm⟩ | ⟨_, hm⟩
          · exact absurd hm hk
          all_goals omega
      have lu : us.length = r.ls.length := Paired.len hus
      refine ⟨_, rfl, _, rfl, pr, _, -1, .str right, rfl, rfl, s12.tup hrp, atI_last (V.str r.kind :: V.str r.name :: us) (V.str right), ?_⟩
      dsimp only [gName]
      refine rd_ifN (!rights.contains right) (fun R hR => ⟨_, rfl, _, rfl, niT (.inr (s12.tup hri)) ⟨_, rfl, hR H2 Sm.refl⟩⟩) (fun e3 H3 s3 => kF H3 (s12.trans s3) ?_) (fun e3 H3 s3 => ?_)
      · have e3 : rights.contains right = false := by simpa using e3
        rw [k0]
        show (if rights.contains right = false then none else _) = none
        rw [if_pos e3]
      have e3 : rights.contains right = true := by simpa using e3
      have s13 := s12.trans s3
      have k1 : keptRule rights sole r = (listAll rights r.ls).bind fun ls => if checkRight r.kind ls right sole = true then some ⟨r.kind, r.name, ls, some right⟩ else none := by
        rw [k0]
        show (if rights.contains right = false then none else _) = _
        rw [if_neg (by rw [e3]; decide)]
      refine RC.rd_lcX (K := K) (Rel := TtAt K) (hk := listed rights) (tl := tSl (rSlA K) (tVar 2) (tPart (tC (V.int 2))) (tPart (tUn (rU fun i => V.int (-i)) (tC (V.int 1))))) hus (by unfold sizeLine; omega) (fun R hR => ?_) (fun t ⟨a, e, z⟩ => ⟨a, e, t.sqt z⟩) (fun x y H4 R hF hm s4 hR => ?_) (fun D H4 vs ls hD s4 h4 ea hp4 => ?_)
      · refine ⟨_, rfl, _, rfl, _, rfl, _, rfl, pr, _, rfl, s13.tup hrp, fun z => absurd z.1 (cut_lo us), fun _ t ht => hR t _ (Sm.new ht) (.inr (SqT.of ?_))⟩
        show upd H3 t _ t = _
        rw [upd_same, cut_mid us]
      · obtain ⟨b0, rfl, hb0⟩ := hF
        have s14 := s13.trans s4
        refine ⟨_, rfl, _, rfl, a, b0, rights, y, rfl, .inr (s14.tup hri), s14.txl hb0, lr, ok.short _ hm, g.mono s14, fun H5 p h s5 e hp => hR _ H5 h s5 e ⟨p, rfl, SqT.of hp⟩, fun H5 s5 e => kF H5 (s14.trans s5) ?_⟩
        rw [k1, listAll_no hm e]
        rfl
      · have s14 := s13.trans s4
        have k1 : keptRule rights sole r = if checkRight r.kind ls right sole = true then some ⟨r.kind, r.name, ls, some right⟩ else none := by
          rw [k1, listAll_of ea]
          rfl
        have ll : ls.length = r.ls.length := by
          have := congrArg List.length ea
          rw [List.length_map, List.length_map] at this
          exact this.symm
        refine ⟨_, rfl, pr, _, 0, .str r.kind, rfl, rfl, s14.tup hrp, at0, _, rfl, _, rfl, _, rfl, r.kind, right, D, b, vs, _, sole, rfl, SqL.of h4, hp4, by rw [ll]; exact l2, s14.txl hso, g.mono s14, fun H5 s5 e => ?_, fun H5 s5 e => kF H5 (s14.trans s5) (by rw [k1, e]; rfl)⟩
        have s15 := s14.trans s5
        rw [if_pos e] at k1
        refine ⟨_, rfl, pr, _, 0, .str r.kind, rfl, rfl, s15.tup hrp, at0, _, rfl, pr, _, 1, .str r.name, rfl, rfl, s15.tup hrp, atI_nat (j := 1) rfl, _, rfl, D, vs, rfl, .inr (s5.lst (SqL.of h4)), _, rfl, ?_, fun t ht => ?_⟩
        · have := Paired.len hp4
          simp only [List.length_map, List.length_cons, List.length_append, List.length_nil] at this ⊢
          unfold sizeLine; omega
        · refine kT _ _ _ (s15.trans (Sm.new ht)) k1 ⟨t, vs, rfl, SqT.of upd_same, GD.Paired.imp (fun _ _ ⟨a, e, z⟩ => ⟨a, e, ((s5.trans (Sm.new ht)).tup z)⟩) hp4⟩
end
end K8

-- part C9g
set_option Elab.async false
set_option linter.all false
set_option maxRecDepth 100000
set_option maxHeartbeats 2000000
namespace K8
open PySem PySem.Spec PyProof.Rows L2 GxR GS GA GD
/-- all that is tracked stands, but for the instance x -/
structure Sx (x : Addr) (H H' : Hp) : Prop where
  st : ∀ b o, b ≠ x → H b = some o → (∀ ps, o ≠ .tbl ps) → H' b = some o
  tb : ∀ P, TabG H P → TabG H' P
  fr : ∀ b, H' b = none → H b = none
  ins : ∃ C dx fs, H x = some (.ins C dx fs)
  ins' : ∃ C dx fs, H' x = some (.ins C dx fs)
theorem Sx.of {x : Addr} {H H' : Hp} (s : Sm H H') (h : ∃ C dx fs, H x = some (.ins C dx fs)) : Sx x H H' :=
  ⟨fun b o _ e n => s.st b o e n, s.tb, s.fr, h, let ⟨C, dx, fs, e⟩ := h; ⟨C, dx, fs, s.st _ _ e fun _ z => by cases z⟩⟩
theorem Sx.trans {x : Addr} {A B C : Hp} (a : Sx x A B) (b : Sx x B C) : Sx x A C :=
  ⟨fun y o n e z => b.st y o n (a.st y o n e z) z, fun P t => b.tb P (a.tb P t), fun y e => a.fr y (b.fr y e), a.ins, b.ins'⟩
theorem Sx.sm {x : Addr} {A B C : Hp} (a : Sx x A B) (b : Sm B C) : Sx x A C := a.trans (Sx.of b a.ins')
theorem Sx.put {x : Addr} {H : Hp} {C dx : Addr} {fs gs : List (Str × V)} (h : H x = some (.ins C dx fs)) : Sx x H (upd H x (.ins C dx gs)) := by
  refine ⟨fun b o n e _ => by rw [upd_ne n]; exact e, fun P t => ?_, fun b e => ?_, ⟨_, _, _, h⟩, ⟨_, _, _, upd_same⟩⟩
  · have n : P ≠ x := tabG_ne t h fun _ z => by cases z
    obtain ⟨ps, e, z⟩ := t
    exact ⟨ps, by rw [upd_ne n]; exact e, z⟩
  · by_cases hb : b = x
    · rw [hb, upd_same] at e; cases e
    · rw [upd_ne hb] at e; exact e
section
variable {K : PySem.W.Frag} {H H' : Hp} {x a : Addr} {xs : List V} {ss : List Str}
theorem Sx.ne (s : Sx x H H') {o : HO} (h : H a = some o) (n : ∀ C d f, o ≠ .ins C d f) : a ≠ x := fun z => by
  obtain ⟨C, d, f, e⟩ := s.ins
  rw [z, e] at h; cases h
  exact n _ _ _ rfl
theorem Sx.lst (s : Sx x H H') (h : SqL K H a xs) : SqL K H' a xs := by
  rcases h with (h | ⟨o, h⟩) | h
  · exact .inl (.inl (s.st a _ (s.ne h fun _ _ _ z => by cases z) h fun _ z => by cases z))
  · exact .inl (.inr ⟨o, s.st a _ (s.ne h fun _ _ _ z => by cases z) h fun _ z => by cases z⟩)
  · exact .inr h
theorem Sx.tup (s : Sx x H H') (h : SqT K H a xs) : SqT K H' a xs := by
  rcases h with (h | ⟨o, h⟩) | h
  · exact .inl (.inl (s.st a _ (s.ne h fun _ _ _ z => by cases z) h fun _ z => by cases z))
  · exact .inl (.inr ⟨o, s.st a _ (s.ne h fun _ _ _ z => by cases z) h fun _ z => by cases z⟩)
  · exact .inr h
theorem Sx.txl (s : Sx x H H') (h : TxL K H a ss) : TxL K H' a ss := h.elim (fun z => .inl (s.lst z)) fun z => .inr (s.tup z)
theorem Sx.sq (s : Sx x H H') (h : Sq K H a xs) : Sq K H' a xs := h.elim (fun z => .inl (s.lst z)) fun z => .inr (s.tup z)
theorem Sx.fd {v : V} {f : Str × List Str} (s : Sx x H H') (h : FdAt K H v f) : FdAt K H' v f :=
  let ⟨p, b, e, h1, h2⟩ := h; ⟨p, b, e, s.tup h1, s.txl h2⟩
theorem Sx.kf {v : V} {f : Str × List Str} (s : Sx x H H') (h : KfAt K H v f) : KfAt K H' v f :=
  let ⟨p, b, e, h1, h2⟩ := h; ⟨p, b, e, s.tup h1, s.tup h2⟩
theorem Sx.ru {v : V} {r : Ru} (s : Sx x H H') (h : RuAt K H v r) : RuAt K H' v r :=
  let ⟨p, us, e, h1, h2⟩ := h; ⟨p, us, e, s.tup h1, GD.Paired.imp (fun _ _ ⟨a, e, z⟩ => ⟨a, e, s.txl z⟩) h2⟩
theorem Sx.kr {v : V} {r : Ru} (s : Sx x H H') (h : KrAt K H v r) : KrAt K H' v r :=
  let ⟨p, us, e, h1, h2⟩ := h; ⟨p, us, e, s.tup h1, GD.Paired.imp (fun _ _ ⟨a, e, z⟩ => ⟨a, e, s.tup z⟩) h2⟩
theorem Sx.gd (s : Sx x H H') (g : Gd K H) : Gd K H' := fun p hp => s.tb _ (g p hp)
end
/-- a charter -/
structure Ch where
  rights : List Str
  sole : List Str
  founders : List (Str × List Str)
  rules : List Ru
structure ChAt (K : PySem.W.Frag) (H : Hp) (x : Addr) (c : Ch) : Prop where
  at_ : ∃ (dx pr ps pf pu : Addr) (uf uu : List V), H x = some (.ins (He.ga K "Charter") dx [("rights", .ref pr), ("sole", .ref ps), ("founders", .ref pf), ("rules", .ref pu)]) ∧
    SqT K H pr (c.rights.map V.str) ∧ SqT K H ps (c.sole.map V.str) ∧ SqT K H pf uf ∧ Paired (KfAt K H) uf c.founders ∧ SqT K H pu uu ∧ Paired (KrAt K H) uu c.rules
def keptRules (rights sole : List Str) : List Ru → Option (List Ru)
  | [] => some []
  | r :: t => (keptRule rights sole r).bind fun k => (keptRules rights sole t).map fun l => k :: l
def mkCharter (rights sole : List Str) (fs : List (Str × List Str)) (rs : List Ru) : Option Ch :=
  if (decide (rights.length = 0) || !checkNames rights 6) = true then none else (listed rights sole).bind fun s => (keptFounders rights s fs).bind fun f => (keptRules rights s rs).bind fun u =>
    if checkNames (u.map (·.name)) 12 = true then some ⟨rights, s, f, u⟩ else none
theorem keptRule_name {rights sole : List Str} {r k : Ru} (h : keptRule rights sole r = some k) : k.name = r.name := by
  unfold keptRule at h
  split at h
  · cases h
  · split at h
    · cases q : listed rights (r.ls.getD 0 []) with
      | none => rw [q] at h; cases h
      | some l =>
        rw [q] at h
        have h : (if (l.any fun x => sole.contains x) = true then none else some ⟨r.kind, r.name, [l], none⟩) = some k := h
        split at h
        · cases h
        · cases h; rfl
    · split at h
      · cases h
      · rename_i right _ _
        cases q : listAll rights r.ls with
        | none => rw [q] at h; cases h
        | some l =>
          rw [q] at h
          have h : (if checkRight r.kind l right sole = true then some ⟨r.kind, r.name, l, some right⟩ else none) = some k := h
          split at h
          · cases h; rfl
          · cases h
theorem keptRules_of {rights sole : List Str} : ∀ {rs ks : List Ru}, rs.map (keptRule rights sole) = ks.map some → keptRules rights sole rs = some ks
  | [], [], _ => rfl
  | [], _ :: _, h => by cases h
  | _ :: _, [], h => by cases h
  | r :: t, k :: l, h => by
    rw [List.map_cons, List.map_cons] at h
    injection h with h1 h2
    show (keptRule rights sole r).bind (fun k => (keptRules rights sole t).map fun l => k :: l) = _
    rw [h1, keptRules_of h2]
    rfl
theorem keptRules_no {rights sole : List Str} {y : Ru} : ∀ {rs : List Ru}, y ∈ rs → keptRule rights sole y = none → keptRules rights sole rs = none
  | r :: t, hm, h => by
    show (keptRule rights sole r).bind (fun k => (keptRules rights sole t).map fun l => k :: l) = _
    rcases List.mem_cons.mp hm with rfl | hm
    · rw [h]; rfl
    · rw [keptRules_no hm h]
      cases keptRule rights sole r <;> rfl
theorem kept_from {rights sole : List Str} {k : Ru} : ∀ {rs ks : List Ru}, rs.map (keptRule rights sole) = ks.map some → k ∈ ks → ∃ r ∈ rs, keptRule rights sole r = some k
  | [], [], _, h => by cases h
  | [], _ :: _, h, _ => by cases h
  | _ :: _, [], h, _ => by cases h
  | r :: t, x :: l, h, hk => by
    rw [List.map_cons, List.map_cons] at h
    injection h with h1 h2
    rcases List.mem_cons.mp hk with rfl | hk
    · exact ⟨r, List.mem_cons_self, h1⟩
    · obtain ⟨r', hr, e⟩ := kept_from h2 hk
      exact ⟨r', List.mem_cons_of_mem _ hr, e⟩
section
variable {P : Program} {w : World} {K : PySem.W.Frag} {mg : Str → Option Value} {base : Heap}
def spRuleNames (K : PySem.W.Frag) : Sp := fun vs H Q _ => ∃ (x dx u : Addr) (fs : List (Str × V)) (uu : List V) (rs : List Ru), vs = [.ref x] ∧ H x = some (.ins (He.ga K "Charter") dx fs) ∧ List.lookup ("rules" : Str) fs = some (V.ref u) ∧ SqT K H u uu ∧ Paired (KrAt K H) uu rs ∧ rs.length ≤ 4000 ∧
  ∀ H' p, Sm H H' → H' p = some (.tup ((rs.map (·.name)).map V.str)) → Q (.ref p) H'
theorem sc_rule_names : FnScope ["self", "rule"] ["self"] (defScope sCharter_rule_names) := ⟨rfl, rfl, rfl, by decide +kernel, rfl, by decide +kernel, by decide +kernel⟩
theorem ok_rule_names (T : Tx w K mg base) : ∃ fd, FnOk P w K mg base CX0 1 (Hd.gtrA K "Charter" "rule_names") fd ["self"] (spRuleNames K) ∧ Binds K fd ["self"] [] := by
  obtain ⟨_, fd, F⟩ := T.P_Charter_rule_names
  obtain ⟨c, hc⟩ : ∃ c, fd.code = .ref c := by
    obtain ⟨oc, od, dV, kV, doc, pm, an, cdv, ct, osl, rfl, lk, hcd, _, _⟩ := F.ex
    show ∃ c, cdv = .ref c
    cases cdv with
    | ref c => exact ⟨c, rfl⟩
    | _ => cases hcd
  refine ⟨fd, okC (k := 0) F hc sc_rule_names (fun vs H Q E h => ?_) (fun A outer s H vs Q E hr h => ?_), F.bindsN (ps := ["self"]) fun _ _ _ _ _ _ us hl => match us, hl with | [_], _ => rfl⟩
  · obtain ⟨x, dx, u, fs, uu, rs, rfl, _⟩ := h
    rfl
  · obtain ⟨x, dx, u, fs, uu, rs, rfl, hx, hf, hu, hp, lr, k⟩ := h
    have nd := sc_rule_names.nd
    refine ⟨_, PSs.nox (pss_one (ps_ret (pe_callTy call_tuple_of (by rfl) T.free_tuple (by decide +kernel) (pa_cons (pe_lcI (own := [("rule", 1)]) (g := gName 1) (tt := tYes) (te := tOp (rIxT K) (tVar 1) (tC (.int 1))) rfl nd (pi_sq (pe_fld (pv 0) rfl)) (blkOk_by (own := [("rule", 1)]) (N := ["self", "rule"]) (sc := defScope sCharter_rule_names) (by decide +kernel))
        (fun _ _ _ _ _ => pg_name (i := 1) nd rfl (Or.inl rfl)) (fun _ _ _ _ _ => pts_nil) (fun _ _ _ _ _ => pe_ix ix_tup (pv 1) pe_int (fun _ _ => rfl))) pa_nil)))), ?_⟩
    have lu : uu.length = rs.length := Paired.len hp
    refine rd_lcP hp (q := fun _ => true) (g := fun _ y => .str y.name) (.inr hu) (by unfold sizeLine; omega) (fun x y H2 R _ _ _ hR => hR H2 Sm.refl) (fun v y H2 R hF _ _ s2 hR => ?_) (fun D H2 hD s2 h2 => ?_) (fun R hR => ⟨_, rfl, x, _, dx, fs, _, rfl, hx, T.cls_Charter, T.noat_Charter_rules, hf, hR⟩)
    · obtain ⟨p, us, rfl, k1, _⟩ := hF
      exact ⟨_, rfl, p, _, 1, .str y.name, rfl, rfl, s2.tup k1, atI_nat (j := 1) rfl, hR H2 Sm.refl⟩
    · rw [zip_all hp (fun y => V.str y.name)] at h2
      refine ⟨D, _, rfl, .inl ⟨SqL.of h2, fun t ht => k _ t (s2.trans (Sm.new ht)) ?_⟩⟩
      rw [upd_same, List.map_map]
      rfl
@[irreducible] def rTupS (K : PySem.W.Frag) (xs : List V) (H : Hp) (Q : VK) : Prop := ∃ p ys, xs = [V.ref p] ∧ ((SqL K H p ys ∧ ∀ l, H l = none → Q (.ref l) (upd H l (.tup ys))) ∨ (SqT K H p ys ∧ Q (.ref p) H))
theorem call_tupS {X : Cx} : CallR X (.type "tuple") (rTupS X.K) := by
  have e : rTupS X.K = fun xs H Q => ∃ p ys, xs = [V.ref p] ∧ ((SqL X.K H p ys ∧ ∀ l, H l = none → Q (V.ref l) (upd H l (.tup ys))) ∨ (SqT X.K H p ys ∧ Q (V.ref p) H)) := by
    funext xs H Q
    unfold rTupS
    rfl
  rw [e]
  exact call_tuple_of
theorem rd_tup {K : PySem.W.Frag} {H : Hp} {a : Addr} {xs : List V} {R : VK} (h : Sq K H a xs) (hR : ∀ p H1, Sm H H1 → SqT K H1 p xs → R (.ref p) H1) : rTupS K [V.ref a] H R := by
  unfold rTupS
  rcases h with h | h
  · exact ⟨a, xs, rfl, .inl ⟨h, fun l hl => hR l _ (Sm.new hl) (SqT.of upd_same)⟩⟩
  · exact ⟨a, xs, rfl, .inr ⟨h, hR a H Sm.refl h⟩⟩
def spInit (K : PySem.W.Frag) : Sp := fun vs H Q E => ∃ (x dx r s f u : Addr) (rights sole : List Str) (wf : List V) (fs : List (Str × List Str)) (wr : List V) (rs : List Ru), vs = [.ref x, .ref r, .ref s, .ref f, .ref u] ∧ H x = some (.ins (He.ga K "Charter") dx []) ∧
  TxL K H r rights ∧ TxL K H s sole ∧ Sq K H f wf ∧ Paired (FdAt K H) wf fs ∧ Sq K H u wr ∧ Paired (RuAt K H) wr rs ∧ (rights.length ≤ 4000 ∧ sole.length ≤ 4000 ∧ fs.length ≤ 4000 ∧ rs.length ≤ 4000) ∧ (∀ x ∈ rights, x.length ≤ sizeLine) ∧ (∀ f ∈ fs, f.1.length ≤ sizeLine ∧ f.2.length ≤ 4000) ∧
  (∀ r ∈ rs, r.name.length ≤ sizeLine) ∧ Gd K H ∧ (∀ r ∈ rs, RuOk rights r) ∧
  (∀ H' c, Sx x H H' → mkCharter rights sole fs rs = some c → ChAt K H' x c → Q .non H') ∧ ∀ H', Sx x H H' → mkCharter rights sole fs rs = none → E (.ref (IC K)) none H'
abbrev Nci : List Str := ["self", "rights", "sole", "founders", "rules", "rule"]
theorem sc_init : FnScope Nci ["self", "rights", "sole", "founders", "rules"] (defScope sCharter___init__) := ⟨rfl, rfl, rfl, by decide +kernel, rfl, by decide +kernel, by decide +kernel⟩
theorem ok_init (T : Tx w K mg base) : ∃ fd, FnOk P w K mg base (L2.CX P w) 6 (He.fAd K ("Charter", some "__init__")) fd ["self", "rights", "sole", "founders", "rules"] (spInit K) ∧ FunD K "__init__" "Charter.__init__" (defArgs sCharter___init__) (defBody sCharter___init__) (defScope sCharter___init__) (dCharter___init__.dvs K) (dCharter___init__.kws K) (He.fAd K ("Charter", some "__init__")) fd := by
  obtain ⟨fd, F⟩ := T.F_Charter___init__
  obtain ⟨fdN, GN, bN, kN⟩ := ok_check_names (P := P) T
  obtain ⟨fdL, GL, bL, kL⟩ := ok_listed (P := P) T
  obtain ⟨fdF, GF, bF, kF⟩ := ok_kept_founders (P := P) T
  obtain ⟨fdR, GR, bR, kR⟩ := ok_kept_rule (P := P) T
  obtain ⟨fdP, GP, bP⟩ := ok_rule_names (P := P) T
  refine ⟨fd, okC (k := 5) F (codeOf_at (p := ("Charter", some "__init__")) F) sc_init (fun vs H Q E h => ?_) (fun A outer s H vs Q E hr h => ?_), F⟩
  · obtain ⟨_, _, _, _, _, _, _, _, _, _, _, _, rfl, _⟩ := h
    rfl
  · obtain ⟨x, dx, r, s, f, u, rights, sole, wf, fs, wr, rs, rfl, hx, hr1, hs1, hf1, hpf, hu1, hpu, ⟨lr, ls, lf, lu⟩, lrs, lfs, lns, g, hq, kT, kE⟩ := h
    have nd := sc_init.nd
    have X := @passX
    refine ⟨_, pss_cons (ps_fld (pv 0) (pe_callTy call_tupS (by rfl) T.free_tuple (by decide +kernel) (pa_cons (pv 1) pa_nil)) rfl)
      (pss_cons (ps_if (pt_cmpR op_eq (pe_callB call_len_seq (by rfl) T.free_len PySem.boot_len (pa_cons (pe_fld (pv 0) rfl) pa_nil)) pe_int (nomark _)) (pss_one (raiseIC T rfl (takes_of rfl rfl rfl rfl) rfl)) pss_nil)
      (pss_cons (ps_expr (pe_call GN (hr.mono (by decide)) rfl T.glo__check_names kN bN .nil (passX (takes_of rfl rfl rfl rfl)) (pa_cons (pe_fld (pv 0) rfl) (pa_cons pe_int pa_nil))))
      (pss_cons (ps_fld (pv 0) (pe_call GL (hr.mono (by decide)) rfl T.glo__listed kL bL .nil (passX (takes_of rfl rfl rfl rfl)) (pa_cons (pe_fld (pv 0) rfl) (pa_cons (pv 2) pa_nil))) rfl)
      (pss_cons (ps_fld (pv 0) (pe_call GF (hr.mono (by decide)) rfl T.glo__kept_founders kF bF .nil (passX (takes_of rfl rfl rfl rfl)) (pa_cons (pe_fld (pv 0) rfl) (pa_cons (pe_fld (pv 0) rfl) (pa_cons (pv 3) pa_nil)))) rfl)
      (pss_cons (ps_fld (pv 0) (pe_callTy call_tupS (by rfl) T.free_tuple (by decide +kernel) (pa_cons (RC.pe_lcX (own := [("rule", 5)]) (g := gName 5) (te := tCall (spKeptRule K) [] E (tCons (tFld K (tVar 0) "rights") (tCons (tFld K (tVar 0) "sole") (tCons (tVar 5) tNil)))) rfl nd rfl rfl (takes_of rfl rfl rfl rfl)
          (pi_sq (pv 4)) (blkOk_by (own := [("rule", 5)]) (N := Nci) (sc := defScope sCharter___init__) (by decide +kernel))
          (fun _ _ _ _ _ => pg_name (i := 5) nd rfl (Or.inl rfl)) (fun _ _ _ _ _ => pe_call GR (hr.mono (by decide)) rfl T.glo__kept_rule kR bR .nil RC.passB (pa_cons (pe_fld (pv 0) rfl) (pa_cons (pe_fld (pv 0) rfl) (pa_cons (pv 5) pa_nil))))) pa_nil)) rfl)
      (pss_one (ps_expr (pe_call GN (hr.mono (by decide)) rfl T.glo__check_names kN bN .nil (passX (takes_of rfl rfl rfl rfl)) (pa_cons (pe_prop (pv 0) T.cls_Charter T.P_Charter_rule_names.1 GP (hr.mono (by decide)) bP .nil pass0 rfl) (pa_cons pe_int pa_nil))))))))))  , ?_⟩
    have cl := T.cls_Charter
    have n1 := T.noat_Charter_rights
    have n2 := T.noat_Charter_sole
    have n3 := T.noat_Charter_founders
    have n4 := T.noat_Charter_rules
    have ne : ∀ {a : Addr} {H' : Hp}, Sm H H' → H' x = some (.ins (He.ga K "Charter") dx []) := fun s => s.st _ _ hx fun _ z => by cases z
    refine ⟨_, rfl, rd_tup (TxL.sq hr1) fun pr H1 s1 k1 => ?_⟩
    have hx1 := s1.st _ _ hx fun _ z => by cases z
    refine ⟨_, rfl, x, _, dx, _, rfl, hx1, cl, n1, by show 0 < 1000; decide, ?_⟩
    have S2 : Sx x H (upd H1 x (.ins (He.ga K "Charter") dx [("rights", .ref pr)])) := (Sx.of s1 ⟨_, _, _, hx⟩).trans (Sx.put hx1)
    have k2 : SqT K (upd H1 x (.ins (He.ga K "Charter") dx [("rights", .ref pr)])) pr (rights.map V.str) := (Sx.put hx1).tup k1
    have h2 : (upd H1 x (.ins (He.ga K "Charter") dx [("rights", .ref pr)])) x = some (.ins (He.ga K "Charter") dx [("rights", .ref pr)]) := upd_same
    have e1 : putF "rights" (V.ref pr) [] = ([("rights", .ref pr)] : List (Str × V)) := rfl
    dsimp only
    rw [e1]
    generalize upd H1 x (.ins (He.ga K "Charter") dx [("rights", .ref pr)]) = H2 at S2 k2 h2 ⊢
    refine rd_ifN (decide (rights.length = 0)) (fun R hR => ?_) (fun e H3 s3 => kE H3 (S2.sm s3) ?_) (fun e H3 s3 => ?_)
    · refine ⟨_, rfl, x, _, dx, _, _, rfl, h2, cl, n1, rfl, pr, _, rfl, .inr k2, rfl, _, rfl, ?_⟩
      have q : decide (V.int ((rights.map V.str).length : Nat) = V.int 0) = decide (rights.length = 0) := by
        rw [List.length_map]
        exact decide_eq_decide.mpr ⟨fun z => by have := V.int.inj z; omega, fun z => by rw [z]; rfl⟩
      rw [q]
      exact hR H2 Sm.refl
    · unfold mkCharter
      rw [e]; rfl
    have m0 : mkCharter rights sole fs rs = if (!checkNames rights 6) = true then none else (listed rights sole).bind fun s => (keptFounders rights s fs).bind fun f => (keptRules rights s rs).bind fun u =>
        if checkNames (u.map (·.name)) 12 = true then some ⟨rights, s, f, u⟩ else none := by
      unfold mkCharter
      rw [e, Bool.false_or]
    have S3 := S2.sm s3
    have k3 := s3.tup k2
    have h3 := s3.st _ _ h2 fun _ z => by cases z
    refine ⟨_, rfl, x, _, dx, _, _, rfl, h3, cl, n1, rfl, pr, rights, 6, rfl, .inr k3, lr, lrs, S3.gd g, fun H4 s4 e4 => ?_, fun H4 s4 e4 => kE H4 (S3.sm s4) (by rw [m0, e4]; rfl)⟩
    rw [e4] at m0
    have S4 := S3.sm s4
    have k4 := s4.tup k3
    have h4 := s4.st _ _ h3 fun _ z => by cases z
    refine ⟨_, rfl, x, _, dx, _, _, rfl, h4, cl, n1, rfl, _, rfl, pr, s, rights, sole, rfl, .inr k4, S4.txl hs1, lr, ls, S4.gd g, fun H5 ps sl s5 e5 p5 => ?_, fun H5 s5 e5 => kE H5 (S4.sm s5) ?_⟩
    rotate_left
    · rw [m0, e5]; rfl
    rw [e5] at m0
    have m0 : mkCharter rights sole fs rs = (keptFounders rights sl fs).bind fun f => (keptRules rights sl rs).bind fun u => if checkNames (u.map (·.name)) 12 = true then some ⟨rights, sl, f, u⟩ else none := m0
    have lsl : sl.length ≤ 4000 := by
      have q : sl = rights.filter fun x => sole.contains x := by
        unfold listed at e5
        split at e5
        · exact (Option.some.inj e5).symm
        · cases e5
      rw [q]
      exact Nat.le_trans (List.length_filter_le ..) lr
    have h5 := s5.st _ _ h4 fun _ z => by cases z
    refine ⟨_, rfl, x, _, dx, _, rfl, h5, cl, n2, by show 1 < 1000; decide, ?_⟩
    have e6 : putF "sole" (V.ref ps) [("rights", .ref pr)] = ([("rights", .ref pr), ("sole", .ref ps)] : List (Str × V)) := rfl
    dsimp only
    rw [e6]
    have S6 := (S4.sm s5).trans (Sx.put (gs := [("rights", .ref pr), ("sole", .ref ps)]) h5)
    have k6 := (Sx.put (gs := [("rights", .ref pr), ("sole", .ref ps)]) h5).tup (s5.tup k4)
    have p6 := (Sx.put (gs := [("rights", .ref pr), ("sole", .ref ps)]) h5).tup (SqT.of (K := K) p5)
    have h6 : (upd H5 x (.ins (He.ga K "Charter") dx [("rights", .ref pr), ("sole", .ref ps)])) x = some (.ins (He.ga K "Charter") dx [("rights", .ref pr), ("sole", .ref ps)]) := upd_same
    generalize upd H5 x (.ins (He.ga K "Charter") dx [("rights", .ref pr), ("sole", .ref ps)]) = H6 at S6 k6 p6 h6 ⊢
    refine ⟨_, rfl, x, _, dx, _, _, rfl, h6, cl, n1, rfl, _, rfl, x, _, dx, _, _, rfl, h6, cl, n2, rfl, _, rfl, pr, ps, f, rights, sl, wf, fs, rfl, .inr k6, .inr p6, S6.sq hf1, GD.Paired.imp (fun _ _ z => S6.fd z) hpf, lr, lsl, lf, lfs, S6.gd g, fun H7 pf fl uf s7 e7 p7 q7 => ?_, fun H7 s7 e7 => kE H7 (S6.sm s7) (by rw [m0, e7]; rfl)⟩
    rw [e7] at m0
    have m0 : mkCharter rights sole fs rs = (keptRules rights sl rs).bind fun u => if checkNames (u.map (·.name)) 12 = true then some ⟨rights, sl, fl, u⟩ else none := m0
    have h7 := s7.st _ _ h6 fun _ z => by cases z
    refine ⟨_, rfl, x, _, dx, _, rfl, h7, cl, n3, by show 2 < 1000; decide, ?_⟩
    have e8 : putF "founders" (V.ref pf) [("rights", .ref pr), ("sole", .ref ps)] = ([("rights", .ref pr), ("sole", .ref ps), ("founders", .ref pf)] : List (Str × V)) := rfl
    dsimp only
    rw [e8]
    have S8 := (S6.sm s7).trans (Sx.put (gs := [("rights", .ref pr), ("sole", .ref ps), ("founders", .ref pf)]) h7)
    have k8 := (Sx.put (gs := [("rights", .ref pr), ("sole", .ref ps), ("founders", .ref pf)]) h7).tup (s7.tup k6)
    have p8 := (Sx.put (gs := [("rights", .ref pr), ("sole", .ref ps), ("founders", .ref pf)]) h7).tup (s7.tup p6)
    have f8 := (Sx.put (gs := [("rights", .ref pr), ("sole", .ref ps), ("founders", .ref pf)]) h7).tup (SqT.of (K := K) p7)
    have q8 := GD.Paired.imp (fun _ _ z => (Sx.put (gs := [("rights", .ref pr), ("sole", .ref ps), ("founders", .ref pf)]) h7).kf z) q7
    have h8 : (upd H7 x (.ins (He.ga K "Charter") dx [("rights", .ref pr), ("sole", .ref ps), ("founders", .ref pf)])) x = some (.ins (He.ga K "Charter") dx [("rights", .ref pr), ("sole", .ref ps), ("founders", .ref pf)]) := upd_same
    generalize upd H7 x (.ins (He.ga K "Charter") dx [("rights", .ref pr), ("sole", .ref ps), ("founders", .ref pf)]) = H8 at S8 k8 p8 f8 q8 h8 ⊢
    have ok := hq
    have u8 := GD.Paired.imp (fun _ _ z => S8.ru z) hpu
    have lu8 : wr.length = rs.length := Paired.len hpu
    refine RC.rd_lcX (K := K) (Rel := KrAt K) (hk := keptRule rights sl) (tl := tVar 4) u8 (by unfold sizeLine; omega) (fun R hR => ⟨_, rfl, hR u H8 Sm.refl (S8.sq hu1)⟩) (fun t z => z.tu t) (fun v y H9 R hF hm s9 hR => ?_) (fun D H9 vs ks hD s9 h9 ea hp9 => ?_)
    · have h9 := s9.st _ _ h8 fun _ z => by cases z
      refine ⟨_, rfl, x, _, dx, _, _, rfl, h9, cl, n1, rfl, _, rfl, x, _, dx, _, _, rfl, h9, cl, n2, rfl, _, rfl, pr, ps, v, rights, sl, y, rfl, s9.tup k8, .inr (s9.tup p8), hF.mono s9, lr, ok y hm, (S8.sm s9).gd g, fun H10 u2 r2 s10 e10 hu2 => hR u2 H10 r2 s10 e10 hu2, fun H10 s10 e10 => kE H10 ((S8.sm s9).sm s10) ?_⟩
      rw [m0, keptRules_no hm e10]
      rfl
    rw [keptRules_of ea] at m0
    have lk : ks.length = rs.length := by
      have := congrArg List.length ea
      rw [List.length_map, List.length_map] at this
      exact this.symm
    have m0 : mkCharter rights sole fs rs = if checkNames (ks.map (·.name)) 12 = true then some ⟨rights, sl, fl, ks⟩ else none := m0
    refine rd_tup (.inl (SqL.of h9)) fun pu H10 s10 k10 => ?_
    have h10 := s10.st _ _ (s9.st _ _ h8 fun _ z => by cases z) fun _ z => by cases z
    refine ⟨_, rfl, x, _, dx, _, rfl, h10, cl, n4, by show 3 < 1000; decide, ?_⟩
    have e11 : putF "rules" (V.ref pu) [("rights", .ref pr), ("sole", .ref ps), ("founders", .ref pf)] = ([("rights", .ref pr), ("sole", .ref ps), ("founders", .ref pf), ("rules", .ref pu)] : List (Str × V)) := rfl
    dsimp only
    rw [e11]
    have s89 := s9.trans s10
    have Z := Sx.put (gs := [("rights", .ref pr), ("sole", .ref ps), ("founders", .ref pf), ("rules", .ref pu)]) h10
    have S11 := (S8.sm s89).trans Z
    have k11 := Z.tup (s89.tup k8)
    have p11 := Z.tup (s89.tup p8)
    have f11 := Z.tup (s89.tup f8)
    have q11 := GD.Paired.imp (fun _ _ z => Z.kf (z.mono s89)) q8
    have u11 := Z.tup k10
    have r11 := GD.Paired.imp (fun _ _ z => Z.kr (z.tu s10.tu)) hp9
    have h11 : (upd H10 x (.ins (He.ga K "Charter") dx [("rights", .ref pr), ("sole", .ref ps), ("founders", .ref pf), ("rules", .ref pu)])) x = some (.ins (He.ga K "Charter") dx [("rights", .ref pr), ("sole", .ref ps), ("founders", .ref pf), ("rules", .ref pu)]) := upd_same
    generalize upd H10 x (.ins (He.ga K "Charter") dx [("rights", .ref pr), ("sole", .ref ps), ("founders", .ref pf), ("rules", .ref pu)]) = H11 at S11 k11 p11 f11 q11 u11 r11 h11 ⊢
    refine ⟨_, rfl, x, dx, _, rfl, h11, x, dx, pu, _, vs, _, rfl, h11, rfl, u11, r11, by rw [lk]; exact lu, fun H12 p12 s12 h12 => ?_⟩
    refine ⟨p12, _, 12, rfl, .inr (SqT.of h12), by rw [List.length_map, lk]; exact lu, fun z hz => ?_, (S11.sm s12).gd g, fun H13 s13 e13 => ?_, fun H13 s13 e13 => kE H13 ((S11.sm s12).sm s13) (by rw [m0, e13]; rfl)⟩
    · obtain ⟨k, hk, rfl⟩ := List.mem_map.mp hz
      obtain ⟨r, hr, e⟩ := kept_from ea hk
      rw [keptRule_name e]
      exact lns r hr
    · have s14 := s12.trans s13
      rw [if_pos e13] at m0
      exact kT H13 _ (S11.sm s14) m0 ⟨dx, pr, ps, pf, pu, uf, vs, s14.st _ _ h11 (fun _ z => by cases z), s14.tup k11, s14.tup p11, s14.tup f11, GD.Paired.imp (fun _ _ z => z.mono s14) q11, s14.tup u11, GD.Paired.imp (fun _ _ z => z.tu s14.tu) r11⟩
end
end K8

-- part C08h
set_option Elab.async false
set_option linter.all false
set_option maxRecDepth 100000
set_option maxHeartbeats 2000000
namespace K8
open PySem PySem.Spec PyProof.Rows L2 GxR GS GA GD
theorem ifB {c : Bool} {A B : Prop} (hA : A) (hB : B) : if c = true then A else B := by
  cases c
  · exact ifF rfl hB
  · exact ifT rfl hA
def In9 (n : Int) : Prop := 0 ≤ n ∧ n < 1009
theorem in9 (i : Int) : In9 (i % 1009) := ⟨Int.emod_nonneg _ (by decide), Int.emod_lt_of_pos _ (by decide)⟩
section
variable {P : Program} {w : World} {K : PySem.W.Frag} {mg : Str → Option Value} {base : Heap}
def spRow (K : PySem.W.Frag) : Sp := fun vs H Q _ => ∃ (cell : Int) (m : Nat), vs = [.int cell, .int m] ∧ cell.natAbs.log2 < 4000000 ∧ m ≤ 4000 ∧ ∀ H' p (ns : List Int), Sm H H' → H p = none → H' p = some (.lst (ns.map V.int)) → ns.length = m → (∀ n ∈ ns, In9 n) → Q (.ref p) H'
abbrev Nlr : List Str := ["cell", "many", "row", "rest", "mixed", "k"]
theorem sc_row : FnScope Nlr ["cell", "many"] (defScope s_law_row) := ⟨rfl, rfl, rfl, by decide +kernel, rfl, by decide +kernel, by decide +kernel⟩
theorem ok_row (T : Tx w K mg base) : ∃ fd, FnOk P w K mg base CX0 1 (He.ga K "_law_row") fd ["cell", "many"] (spRow K) ∧ Binds K fd ["cell", "many"] [] ∧ PySem.W.keepIn K (.ref (He.ga K "_law_row")) = true := by
  obtain ⟨fd, F⟩ := T.F__law_row
  refine ⟨fd, okC (k := 0) F (codeOf_at (p := ("_law_row", none)) F) sc_row (fun vs H Q E h => ?_) (fun A outer s H vs Q E hr h => ?_), F.bindsN (ps := ["cell", "many"]) fun _ _ _ _ _ _ us hl => match us, hl with | [_, _], _ => rfl, F.kp⟩
  · obtain ⟨c, m, rfl, _⟩ := h
    rfl
  · obtain ⟨cell, m, rfl, hb, hm, k⟩ := h
    have nd := sc_row.nd
    have ap : ∀ {X : Cx}, (n : Nat) → True := fun _ => trivial
    refine ⟨_, PSs.nox (pss_cons (ps_set (i := 2) nd rfl (Or.inl rfl) (pe_lst pa_nil))
      (pss_cons (ps_set (i := 3) nd rfl (Or.inl rfl) (pe_callB call_abs (by rfl) T.free_abs (by decide +kernel) (pa_cons (pv 0) pa_nil)))
      (pss_cons (ps_set (i := 4) nd rfl (Or.inl rfl) (pe_op op_mod (pe_callTy call_int1 (by rfl) T.free_int (by decide +kernel) (pa_cons (pe_op op_add (pe_op op_mulB (pv 3) pe_int) pe_int) pa_nil)) pe_int))
      (pss_cons (ps_forI PassesOwn.never rfl (pi_range1 rfl T.free_range (pa_cons (pv 1) pa_nil)) (pg_name (i := 5) nd rfl (Or.inl rfl))
        (pss_cons (ps_set (i := 4) nd rfl (Or.inl rfl) (pe_op op_mod (pe_callTy call_int1 (by rfl) T.free_int (by decide +kernel) (pa_cons (pe_op op_add (pe_op op_mul (pv 4) pe_int) (pe_op op_mul pe_int (pe_op op_add (pv 5) pe_int))) pa_nil)) pe_int))
        (pss_one (ps_if (pt_cmpR op_ge (pe_callB call_abs (by rfl) T.free_abs (by decide +kernel) (pa_cons (pv 0) pa_nil)) (pe_op op_pow pe_int pe_int) (nomark _))
          (pss_cons (ps_expr (pe_bm PySem.F.plainAttrs_list PySem.F.slot_list_append PySem.F.type_list_append mt_append (pv 2) (pa_cons (pe_op op_mod (pe_callTy call_int1 (by rfl) T.free_int (by decide +kernel) (pa_cons (pv 3) pa_nil)) pe_int) pa_nil)))
          (pss_one (ps_set (i := 3) nd rfl (Or.inl rfl) (pe_op op_fdiv (pv 3) pe_int))))
          (pss_one (ps_expr (pe_bm PySem.F.plainAttrs_list PySem.F.slot_list_append PySem.F.type_list_append mt_append (pv 2) (pa_cons (pe_op op_mod (pe_callTy call_int1 (by rfl) T.free_int (by decide +kernel) (pa_cons (pe_op op_fdiv (pv 4) pe_int) pa_nil)) pe_int) pa_nil))))))))
      (pss_one (ps_ret (pv 2))))))), ?_⟩
    refine ⟨Nat.zero_le _, fun l hl => ?_⟩
    refine ⟨_, rfl, _, rfl, ?_⟩
    have hr2 : (if cell < 0 then -cell else cell).natAbs = cell.natAbs := by split <;> omega
    rw [← hr2] at hb
    dsimp only [gName]
    generalize (if cell < 0 then -cell else cell) = rest at hb
    have b0 : CMulB rest 48271 := by
      show rest.natAbs.log2 + (48271 : Int).natAbs.log2 < 100000000
      have : (48271 : Int).natAbs.log2 = 15 := by decide +kernel
      omega
    refine ⟨_, rfl, _, _, rfl, rfl, b0, _, _, rfl, rfl, .inl ⟨_, rfl, _, _, rfl, rfl, (by show (0 : Int) < 2147483647; decide), ?_⟩⟩
    dsimp only [gName]
    have m0 := Int.emod_nonneg (rest * 48271 + 69621) (by decide : (2147483647 : Int) ≠ 0)
    have m1 := Int.emod_lt_of_pos (rest * 48271 + 69621) (by decide : (0 : Int) < 2147483647)
    generalize (rest * 48271 + 69621) % 2147483647 = mx at m0 m1 ⊢
    refine rd_forR (i := 5) (n := m) (by omega) (fun k σ' H' => ∃ (r mx : Int) (v : Option V) (ns : List Int), σ' = [some (.int cell), some (.int m), some (.ref l), some (.int r), some (.int mx), v] ∧ (0 ≤ mx ∧ mx < 2147483647) ∧ Sm H H' ∧ H' l = some (.lst (ns.map V.int)) ∧ ns.length = k ∧ ∀ n ∈ ns, In9 n)
      ⟨rest, mx, none, [], rfl, ⟨m0, m1⟩, Sm.new hl, upd_same, rfl, fun _ h => by cases h⟩ (fun i σ' H' hi p => ?_) (fun σ' H' p => ?_) (fun R hR => ⟨_, rfl, hR⟩)
    · obtain ⟨r, mx, v, ns, rfl, ⟨m0, m1⟩, s1, h1, hn, h9⟩ := p
      refine ⟨_, rfl, _, _, rfl, rfl, .inl ⟨by omega, by omega⟩, _, rfl, _, _, rfl, rfl, _, _, rfl, rfl, .inl ⟨by decide, by decide⟩, _, _, rfl, rfl, .inl ⟨_, rfl, _, _, rfl, rfl, (by show (0 : Int) < 2147483629; decide), ?_⟩⟩
      dsimp only [gName]
      have m2 := Int.emod_nonneg (mx * 16807 + 271 * ((i : Int) + 3)) (by decide : (2147483629 : Int) ≠ 0)
      have m3 := Int.emod_lt_of_pos (mx * 16807 + 271 * ((i : Int) + 3)) (by decide : (0 : Int) < 2147483629)
      generalize (mx * 16807 + 271 * ((i : Int) + 3)) % 2147483629 = mz at m2 m3 ⊢
      refine ⟨_, rfl, _, rfl, _, _, rfl, rfl, ⟨by decide, by decide, by decide⟩, _, _, rfl, rfl, _, rfl, ?_⟩
      have lb : (ns.map V.int).length < sizeLine := by rw [List.length_map]; unfold sizeLine; omega
      have done : ∀ (r2 y : Int), In9 y → ∃ (r mx : Int) (v : Option V) (ns' : List Int), [some (V.int cell), some (.int m), some (.ref l), some (.int r2), some (.int mz), some (.int (i : Int))] = [some (V.int cell), some (.int m), some (.ref l), some (.int r), some (.int mx), v] ∧ (0 ≤ mx ∧ mx < 2147483647) ∧ Sm H (upd H' l (.lst (ns.map V.int ++ [.int y]))) ∧ (upd H' l (.lst (ns.map V.int ++ [.int y]))) l = some (.lst (ns'.map V.int)) ∧ ns'.length = i + 1 ∧ ∀ n ∈ ns', In9 n := fun r2 y hy =>
        ⟨r2, mz, _, ns ++ [y], rfl, ⟨m2, by omega⟩, Sm.own s1 hl (fun P tb => tabG_ne tb h1 fun _ z => by cases z), by rw [upd_same, List.map_append]; rfl, by rw [List.length_append, hn]; rfl, fun n hn2 => by
          rcases List.mem_append.mp hn2 with h | h
          · exact h9 n h
          · rw [List.mem_singleton.mp h]; exact hy⟩
      refine ifB ?_ ?_
      · refine ⟨_, rfl, .inl ⟨rfl, _, SqL.of h1⟩, _, rfl, .inl ⟨_, rfl, _, _, rfl, rfl, (by show (0 : Int) < 1009; decide), l, ns.map V.int, _, rfl, rfl, h1, lb, ?_⟩⟩
        refine ⟨_, rfl, _, _, rfl, rfl, ⟨by decide, by decide⟩, ?_⟩
        exact done _ _ (in9 _)
      · refine ⟨_, rfl, .inl ⟨rfl, _, SqL.of h1⟩, _, rfl, _, _, rfl, rfl, ⟨by decide, by decide⟩, .inl ⟨_, rfl, _, _, rfl, rfl, (by show (0 : Int) < 1009; decide), l, ns.map V.int, _, rfl, rfl, h1, lb, ?_⟩⟩
        exact done _ _ (in9 _)
    · obtain ⟨r, mx, v, ns, rfl, _, s1, h1, hn, h9⟩ := p
      exact ⟨_, rfl, k H' l ns s1 hl h1 hn h9⟩
def spNumbers (K : PySem.W.Frag) : Sp := fun vs H Q _ => ∃ (a : Addr) (cs : List Int) (m : Nat), vs = [.ref a, .int m] ∧ SqL K H a (cs.map V.int) ∧ cs.length ≤ 63 ∧ (∀ c ∈ cs, c.natAbs.log2 < 4000000) ∧ m ≤ 2000 ∧
  ∀ H' p (ns : List Int), Sm H H' → H' p = some (.lst (ns.map V.int)) → ns.length = m → (∀ n ∈ ns, In9 n) → Q (.ref p) H'
abbrev Nln : List Str := ["script", "many", "cells", "each", "numbers", "cell", "number"]
theorem sc_numbers : FnScope Nln ["script", "many"] (defScope s_law_numbers) := ⟨rfl, rfl, rfl, by decide +kernel, rfl, by decide +kernel, by decide +kernel⟩
theorem ok_numbers (T : Tx w K mg base) : ∃ fd, FnOk P w K mg base CX0 2 (He.ga K "_law_numbers") fd ["script", "many"] (spNumbers K) ∧ Binds K fd ["script", "many"] [] ∧ PySem.W.keepIn K (.ref (He.ga K "_law_numbers")) = true := by
  obtain ⟨fd, F⟩ := T.F__law_numbers
  obtain ⟨fdR, GR, bR, kR⟩ := ok_row (P := P) T
  refine ⟨fd, okC (k := 1) F (codeOf_at (p := ("_law_numbers", none)) F) sc_numbers (fun vs H Q E h => ?_) (fun A outer s H vs Q E hr h => ?_), F.bindsN (ps := ["script", "many"]) fun _ _ _ _ _ _ us hl => match us, hl with | [_, _], _ => rfl, F.kp⟩
  · obtain ⟨a, cs, m, rfl, _⟩ := h
    rfl
  · obtain ⟨a, cs, m, rfl, ha, lc, hb, lm, k⟩ := h
    have nd := sc_numbers.nd
    refine ⟨_, PSs.nox (pss_cons (ps_set (i := 2) nd rfl (Or.inl rfl) (pe_slice sl_list (pv 0) po_none (po_some pe_int)))
      (pss_cons (ps_set (i := 3) nd rfl (Or.inl rfl) (pe_op op_add pe_int (pe_op op_fdiv (pv 1) (pe_callB (call_max2 rfl) (by rfl) T.free_max (by decide +kernel) (pa_cons pe_int (pa_cons (pe_callB call_len_seq (by rfl) T.free_len PySem.boot_len (pa_cons (pv 2) pa_nil)) pa_nil))))))
      (pss_cons (ps_set (i := 4) nd rfl (Or.inl rfl) (pe_lst pa_nil))
      (pss_cons (ps_forI PassesOwn.never rfl (pi_sq (pv 2)) (pg_name (i := 5) nd rfl (Or.inl rfl))
        (pss_one (ps_forI PassesOwn.never rfl (pi_sq (pe_call GR (hr.mono (by decide)) rfl T.glo__law_row kR bR .nil pass0 (pa_cons (pv 5) (pa_cons (pv 3) pa_nil)))) (pg_name (i := 6) nd rfl (Or.inl rfl))
          (pss_one (ps_expr (pe_bm PySem.F.plainAttrs_list PySem.F.slot_list_append PySem.F.type_list_append mt_append (pv 4) (pa_cons (pv 6) pa_nil)))))))
      (pss_cons (ps_while PassesOwn.never (pt_cmpR op_lt (pe_callB call_len_seq (by rfl) T.free_len PySem.boot_len (pa_cons (pv 4) pa_nil)) (pv 1) (nomark _))
        (pss_one (ps_expr (pe_bm PySem.F.plainAttrs_list PySem.F.slot_list_append PySem.F.type_list_append mt_append (pv 4) (pa_cons pe_int pa_nil)))))
      (pss_one (ps_ret (pe_slice sl_list (pv 4) po_none (po_some (pv 1)))))))))), ?_⟩
    refine ⟨_, rfl, _, rfl, a, _, rfl, ha, fun p hp => ?_⟩
    have s1 : Sm H (upd H p (.lst (cutV (cs.map V.int) none (some 63)))) := Sm.new hp
    have h1 : (upd H p (.lst (cutV (cs.map V.int) none (some 63)))) p = some (.lst (cs.map V.int)) := by
      rw [upd_same, show (some (63 : Int)) = some ((63 : Nat) : Int) from rfl, cut_take, List.take_of_length_le (by rw [List.length_map]; exact lc)]
    dsimp only [gName]
    generalize upd H p (.lst (cutV (cs.map V.int) none (some 63))) = H1 at s1 h1 ⊢
    have lcs : (cs.map V.int).length = cs.length := List.length_map ..
    obtain ⟨e, he, le⟩ : ∃ e : Nat, (1 + (m : Int) / (if (((cs.map V.int).length : Nat) : Int) > 1 then (((cs.map V.int).length : Nat) : Int) else 1)) = (e : Int) ∧ e ≤ 2001 := by
      refine ⟨(1 + (m : Int) / (if (((cs.map V.int).length : Nat) : Int) > 1 then (((cs.map V.int).length : Nat) : Int) else 1)).toNat, ?_, ?_⟩
      · have := Int.ediv_nonneg (a := (m : Int)) (b := if (((cs.map V.int).length : Nat) : Int) > 1 then (((cs.map V.int).length : Nat) : Int) else 1) (by omega) (by split <;> omega)
        omega
      · have := Int.ediv_le_self (a := (m : Int)) (if (((cs.map V.int).length : Nat) : Int) > 1 then (((cs.map V.int).length : Nat) : Int) else 1) (by omega)
        omega
    refine ⟨_, rfl, _, rfl, p, _, rfl, .inl (SqL.of h1), _, _, rfl, _, _, rfl, rfl, ⟨by split <;> omega, by split <;> omega⟩, _, _, rfl, rfl, ?_⟩
    dsimp only [gName]
    rw [he]
    refine ⟨Nat.zero_le _, fun l hl => ?_⟩
    refine rd_for (H0 := H1) (.inl (SqL.of h1)) (fun k σ' H' => ∃ (v v2 : Option V) (ns : List Int), σ' = [some (.ref a), some (.int m), some (.ref p), some (.int e), some (.ref l), v, v2] ∧ Sm H1 H' ∧ H' l = some (.lst (ns.map V.int)) ∧ ns.length = k * e ∧ ∀ n ∈ ns, In9 n)
      ⟨none, none, [], rfl, Sm.new hl, upd_same, by simp, fun _ h => by cases h⟩ (fun k σ' H' p => by obtain ⟨_, _, _, _, q, _⟩ := p; exact q) (fun i x σ' H' hx p => ?_) (fun σ' H' p => ?_) (fun R hR => ⟨_, rfl, hR⟩)
    · obtain ⟨v, v2, ns, rfl, s2, h2, hn, h9⟩ := p
      rw [List.getElem?_map] at hx
      obtain ⟨c, hc, rfl⟩ := Option.map_eq_some_iff.mp hx
      have hi : i < cs.length := (List.getElem?_eq_some_iff.mp hc).1
      refine rd_forC fun R hR => ⟨_, rfl, _, rfl, c, e, rfl, hb c (List.mem_of_getElem? hc), by omega, fun H3 q zs s3 hq0 hq hz hz9 => hR q (zs.map V.int) H3 ?_⟩
      have n1 : l ≠ q := ne_of_none h2 hq0
      refine ⟨fun j σ' H' => ∃ (v2 : Option V) (ns' : List Int), σ' = [some (.ref a), some (.int m), some (.ref p), some (.int e), some (.ref l), some (.int c), v2] ∧ Sm H1 H' ∧ H' l = some (.lst (ns'.map V.int)) ∧ ns'.length = i * e + j ∧ (∀ n ∈ ns', In9 n) ∧ H' q = some (.lst (zs.map V.int)),
        ⟨v2, ns, rfl, s2.trans s3, s3.st _ _ h2 (fun _ z => by cases z), hn, h9, hq⟩, fun k σ' H' p => ?_, fun j x σ' H' hx p => ?_, fun σ' H' p => ?_⟩
      · obtain ⟨_, _, _, _, _, _, _, h⟩ := p
        exact SqL.of h
      · obtain ⟨v2, ns', rfl, s4, h4, hn4, h94, hq4⟩ := p
        rw [List.getElem?_map] at hx
        obtain ⟨z, hz2, rfl⟩ := Option.map_eq_some_iff.mp hx
        have hj : j < zs.length := (List.getElem?_eq_some_iff.mp hz2).1
        have lb : (ns'.map V.int).length < sizeLine := by
          rw [List.length_map, hn4]
          have : i * e ≤ 63 * 2001 := Nat.mul_le_mul (by omega) le
          unfold sizeLine; omega
        refine ⟨_, rfl, .inl ⟨rfl, _, SqL.of h4⟩, _, rfl, l, ns'.map V.int, .int z, rfl, rfl, h4, lb, ?_⟩
        refine ⟨_, ns' ++ [z], rfl, Sm.own s4 hl (fun P tb => tabG_ne tb h4 fun _ z => by cases z), by rw [upd_same, List.map_append]; rfl, by rw [List.length_append, hn4]; rfl, fun n hn2 => ?_, by rw [upd_ne (Ne.symm n1)]; exact hq4⟩
        rcases List.mem_append.mp hn2 with h | h
        · exact h94 n h
        · rw [List.mem_singleton.mp h]; exact hz9 z (List.mem_of_getElem? hz2)
      · obtain ⟨v2, ns', rfl, s4, h4, hn4, h94, hq4⟩ := p
        refine ⟨_, v2, ns', rfl, s4, h4, ?_, h94⟩
        rw [hn4, List.length_map, hz, Nat.succ_mul]
    · obtain ⟨v, v2, ns, rfl, s2, h2, hn, h9⟩ := p
      have lbn : ns.length ≤ 200000 := by
        rw [hn, lcs]
        have : cs.length * e ≤ 63 * 2001 := Nat.mul_le_mul lc le
        omega
      refine while_by (fun σ' H' => ∃ (ns : List Int), σ' = [some (.ref a), some (.int m), some (.ref p), some (.int e), some (.ref l), v, v2] ∧ Sm H1 H' ∧ H' l = some (.lst (ns.map V.int)) ∧ ns.length ≤ 200000 ∧ ∀ n ∈ ns, In9 n)
        (fun _ H' => match H' l with | some (.lst xs) => m - xs.length | _ => 0) ⟨ns, rfl, s2, h2, lbn, h9⟩ (fun σ' H' p => ?_) (fun σ H Q Q' h q => ?_)
      · obtain ⟨ns, rfl, s3, h3, l3, h93⟩ := p
        refine ⟨_, rfl, l, _, rfl, .inl (SqL.of h3), _, rfl, _, _, rfl, rfl, _, rfl, ?_⟩
        rw [List.length_map]
        by_cases c : ns.length < m
        · refine ifT (decide_eq_true (by omega)) ?_
          have lb : (ns.map V.int).length < sizeLine := by rw [List.length_map]; unfold sizeLine; omega
          refine ⟨_, rfl, .inl ⟨rfl, _, SqL.of h3⟩, l, ns.map V.int, .int 0, rfl, rfl, h3, lb, ⟨ns ++ [0], rfl, Sm.own s3 hl (fun P tb => tabG_ne tb h3 fun _ z => by cases z), by rw [upd_same, List.map_append]; rfl, by rw [List.length_append]; show ns.length + 1 ≤ _; omega, fun n hn2 => ?_⟩, ?_⟩
          · rcases List.mem_append.mp hn2 with h | h
            · exact h93 n h
            · rw [List.mem_singleton.mp h]; exact ⟨by decide, by decide⟩
          · rw [upd_same, h3]
            show m - (ns.map V.int ++ [V.int 0]).length < m - (ns.map V.int).length
            rw [List.length_append, List.length_map]
            show m - (ns.length + 1) < _
            omega
        · refine ifF (decide_eq_false (by omega)) ?_
          refine ⟨_, rfl, _, rfl, _, rfl, l, _, rfl, SqL.of h3, fun q hq => ?_⟩
          refine k _ q (ns.take m) ((s1.trans s3).trans (Sm.new hq)) ?_ (by rw [List.length_take]; omega) fun n hn => h93 n (List.mem_of_mem_take hn)
          rw [upd_same, cut_take, List.map_take]
      · obtain ⟨x1, e1, x2, x3, e2, x4, x5, e3, x6, x7, e4, e5, x8, e6, q⟩ := q
        exact ⟨x1, e1, x2, x3, e2, x4, x5, e3, x6, x7, e4, e5, x8, e6, h _ _ q⟩
end
end K8

-- part CBase
set_option Elab.async false
set_option linter.all false
set_option maxRecDepth 100000
set_option maxHeartbeats 2000000
namespace K8
open PySem PySem.Spec PyProof.Rows L2 GxR GS GA GD
theorem lay_strs : ∀ ss : List Str, (∀ s ∈ ss, PyData.strOk s = true) → PyData.canLayAll0 (ss.map PyData.str) = true
  | [], _ => by simp [PyData.canLayAll0]
  | s :: r, h => by
    rw [List.map_cons]
    simp only [PyData.canLayAll0, PyData.canLay0, lay_strs r fun x hx => h x (List.mem_cons_of_mem _ hx), h s (List.mem_cons_self ..), Bool.and_true, Bool.true_and]
theorem depth_strs : ∀ ss : List Str, PyData.depthAll (ss.map PyData.str) ≤ 1
  | [] => by simp [PyData.depthAll]
  | s :: r => by
    rw [List.map_cons]
    have := depth_strs r
    simp only [PyData.depthAll, PyData.depth]
    omega
theorem shaped_strs (ss : List Str) (h : ∀ s ∈ ss, PyData.strOk s = true) : SeqAt.shaped (.tuple (ss.map PyData.str)) = true := by
  unfold SeqAt.shaped
  have h1 : (PyData.tuple (ss.map PyData.str)).canLay0 = true := by
    unfold PyData.canLay0
    exact lay_strs ss h
  have h2 : (PyData.tuple (ss.map PyData.str)).depth ≤ 64 := by
    unfold PyData.depth
    have := depth_strs ss
    omega
  rw [h1, decide_eq_true h2]
  rfl
theorem eqv_strs : ∀ ss ts : List Str, PyData.eqvAll (ss.map PyData.str) (ts.map PyData.str) = decide (ss = ts)
  | [], [] => by simp [PyData.eqvAll]
  | [], t :: r => by simp [PyData.eqvAll]
  | s :: r, [] => by simp [PyData.eqvAll]
  | s :: r, t :: q => by
    rw [List.map_cons, List.map_cons, PyData.eqvAll.eq_2, eqv_strs r q]
    have e : (PyData.str s).eqv (.str t) = decide (s = t) := by
      unfold PyData.eqv
      exact Bool.beq_eq_decide_eq s t
    rw [e, ← Bool.decide_and]
    exact decide_eq_decide.mpr ⟨fun ⟨a, b⟩ => by rw [a, b], fun z => ⟨(List.cons.inj z).1, (List.cons.inj z).2⟩⟩
theorem eqv_tup (ss ts : List Str) : PyData.eqv (.tuple (ss.map PyData.str)) (.tuple (ts.map PyData.str)) = decide (ss = ts) := by
  rw [← eqv_strs]
  unfold PyData.eqv
  rfl
theorem dp_strs {K : PySem.W.Frag} {H : Hp} : ∀ ss : List Str, DpAll K H (ss.map V.str) (ss.map PyData.str)
  | [] => .nil
  | s :: r => .cons (.str s) (dp_strs r)
theorem isName_ok {t : Str} (h : isName t = true) : PyData.strOk t = true := by
  unfold isName at h
  obtain ⟨_, h1⟩ := He.ba h
  obtain ⟨_, h2⟩ := He.ba h1
  unfold PyData.strOk
  rw [Array.all_eq_true_iff_forall_mem]
  intro c hc
  have h3 := of_decide_eq_true (List.all_eq_true.mp h2 c (Array.mem_toList_iff.mpr hc))
  have : ∀ c ∈ signs.cps.toList, decide (c < 1114112) = true := by decide +kernel
  exact this c h3
theorem sole0_ok {K : PySem.W.Frag} {a : Addr} (h : Hd.emptyB K a = true) (H : Hp) : SqT K H a [] := by
  unfold Hd.emptyB at h
  split at h
  · rename_i c its n sl q
    obtain ⟨h1, h2⟩ := He.ba h
    obtain ⟨h2, _⟩ := He.ba h2
    have e1 : c = "tuple" := of_decide_eq_true h1
    have e2 : its = #[] := by simpa using h2
    subst e1 e2
    exact .inr ⟨_, #[], n, q, rfl, rfl, by decide, .nil⟩
  · cases h
/-- an exception that a call lets out in a try: whatever the slots are -/
theorem passAll {X : Cx} {W : WX} (tk : Takes X W) : Passes (L2.CX X.prog X.w) X (fun cls d H => ∀ σ, W cls d σ H) := fun pins σ H s e s' I h => by
  refine passAt tk σ pins H s e s' I ?_
  obtain ⟨a, B, H', cls, d, h1, h2, h3, h4, h5, h6, h7, z⟩ := h
  exact ⟨a, B, H', cls, d, h1, h2, h3, h4, h5, h6, h7, z σ⟩
theorem Sx.out {x : Addr} {A B C : Hp} (h : A x = none) (s : Sm A B) (S : Sx x B C) : Sm A C :=
  ⟨fun b o e n => S.st b o (fun z => by rw [z, h] at e; cases e) (s.st b o e n) n, fun P t => S.tb P (s.tb P t), fun b e => s.fr b (S.fr b e)⟩
theorem mkCharter_some {rights sole : List Str} {fs : List (Str × List Str)} {rs : List Ru} {c : Ch} (h : mkCharter rights sole fs rs = some c) : c.rights = rights ∧ checkNames rights 6 = true ∧ listed rights sole = some c.sole ∧ keptFounders rights c.sole fs = some c.founders ∧ keptRules rights c.sole rs = some c.rules ∧ checkNames (c.rules.map (·.name)) 12 = true := by
  unfold mkCharter at h
  split at h
  · cases h
  · rename_i n
    cases q1 : listed rights sole with
    | none => rw [q1] at h; cases h
    | some s =>
      rw [q1] at h
      have h : ((keptFounders rights s fs).bind fun f => (keptRules rights s rs).bind fun u => if checkNames (u.map (·.name)) 12 = true then some (⟨rights, s, f, u⟩ : Ch) else none) = some c := h
      cases q2 : keptFounders rights s fs with
      | none => rw [q2] at h; cases h
      | some f =>
        rw [q2] at h
        have h : ((keptRules rights s rs).bind fun u => if checkNames (u.map (·.name)) 12 = true then some (⟨rights, s, f, u⟩ : Ch) else none) = some c := h
        cases q3 : keptRules rights s rs with
        | none => rw [q3] at h; cases h
        | some u =>
          rw [q3] at h
          have h : (if checkNames (u.map (·.name)) 12 = true then some (⟨rights, s, f, u⟩ : Ch) else none) = some c := h
          split at h
          · rename_i z
            cases h
            exact ⟨rfl, by
              cases y : checkNames rights 6 with
              | true => rfl
              | false => exact absurd (by rw [y]; simp) n, rfl, q2, q3, z⟩
          · cases h
theorem keptFounders_len {rights sole : List Str} {fs r : List (Str × List Str)} (h : keptFounders rights sole fs = some r) : r.length = fs.length := by
  have key : ∀ {fs r : List (Str × List Str)}, heldAll rights fs = some r → r.length = fs.length := fun {fs r} h => by
    have := congrArg List.length (heldAll_names h)
    rw [List.length_map, List.length_map] at this
    exact this
  unfold keptFounders at h
  cases q : heldAll rights fs with
  | none => rw [q] at h; cases h
  | some x =>
    rw [q] at h
    have e := key q
    have h : (if (checkNames (x.map (·.1)) 5 && sole.all fun r => decide ((x.filter fun f => f.2.contains r).length ≤ 1)) = true then some x else none) = some r := h
    split at h
    · cases h; exact e
    · cases h
theorem checkNames_names {xs : List Str} {m : Int} (h : checkNames xs m = true) : xs.all isName = true := (He.ba (He.ba h).2).1
def gI {α : Type} (vs mz zs : List α) : List α := vs ++ zs.take 1 ++ mz ++ zs.drop 1
section
variable {P : Program} {w : World} {K : PySem.W.Frag} {mg : Str → Option Value} {base : Heap}
theorem Tx.sole0 (T : Tx w K mg base) (H : Hp) : SqT K H (Hd.kwAt ("Charter", some "__init__") "sole" K) [] := by
  obtain ⟨⟨h, X, G, c⟩, _⟩ := T
  exact sole0_ok (He.ba (He.ba c.exB).1).1 H
theorem Tx.founders0 (T : Tx w K mg base) (H : Hp) : SqT K H (Hd.kwAt ("Charter", some "__init__") "founders" K) [] := by
  obtain ⟨⟨h, X, G, c⟩, _⟩ := T
  exact sole0_ok (He.ba (He.ba (He.ba c.exB).1).2).1 H
theorem Tx.rules0 (T : Tx w K mg base) (H : Hp) : SqT K H (Hd.kwAt ("Charter", some "__init__") "rules" K) [] := by
  obtain ⟨⟨h, X, G, c⟩, _⟩ := T
  exact sole0_ok (He.ba (He.ba (He.ba c.exB).1).2).2 H
abbrev soleAt (K : PySem.W.Frag) : Addr := Hd.kwAt ("Charter", some "__init__") "sole" K
theorem kb_init {fd : FuncData} (F : FunD K "__init__" "Charter.__init__" (defArgs sCharter___init__) (defBody sCharter___init__) (defScope sCharter___init__) (dCharter___init__.dvs K) (dCharter___init__.kws K) (He.fAd K ("Charter", some "__init__")) fd) :
    ∃ mv, KBn K fd ["self", "rights", "sole", "founders", "rules"] 1 ["rights", "founders", "rules"] (fun us ws => gI us mv ws) fun vs zs => gI vs [V.ref (soleAt K)] zs := by
  refine FunD.kbinds0 F 1 ["rights", "founders", "rules"] [("sole", V.ref (soleAt K))] (fun vs mz zs => gI vs mz zs) (fun z => by cases z) (fun q hq => ?_) (fun h1 h2 h3 => ?_) fun D doc pm an cdv ct us mv ws h1 h2 h3 => ?_
  · rw [List.mem_singleton.mp hq]
    exact List.mem_cons_self ..
  · exact ((h1.append (h3.take _)).append h2).append (h3.drop _)
  · match us, h1, mv, h2, ws, h3 with
    | [s], _, [m], _, [r, f, u], _ => exact ⟨_, _, _, _, _, _, rfl, rfl, rfl⟩
end
end K8

-- part D1
set_option Elab.async false
set_option linter.all false
set_option maxRecDepth 100000
set_option maxHeartbeats 2000000
/-! names as a law draws them -/
namespace K8
open PySem PySem.Spec PyProof.Rows L2 GxR GS GA GD
def mkS (l : List Nat) : Str := ⟨l.toArray⟩
theorem mkS_len (l : List Nat) : (mkS l).length = l.length := by
  show l.toArray.size = _
  rw [List.size_toArray]
theorem mkS_snoc (l : List Nat) (c : Nat) : mkS l ++ ⟨#[c]⟩ = mkS (l ++ [c]) := by
  show Str.mk (l.toArray ++ [c].toArray) = Str.mk (l ++ [c]).toArray
  rw [List.append_toArray]
theorem mkS_app (l r : List Nat) : mkS l ++ mkS r = mkS (l ++ r) := by
  show Str.mk (l.toArray ++ r.toArray) = Str.mk (l ++ r).toArray
  rw [List.append_toArray]
theorem mkS_inj {l r : List Nat} (h : mkS l = mkS r) : l = r := by
  have : l.toArray = r.toArray := congrArg Str.cps h
  have := congrArg Array.toList this
  simpa using this
theorem cutS_take (l : List Nat) (p : Nat) : cutS (mkS l) none (some (p : Int)) = mkS (l.take p) := by
  unfold cutS mkS
  have e1 : HT.sIx (Str.mk l.toArray).length 0 none = 0 := rfl
  have e2 : HT.sIx (Str.mk l.toArray).length (Str.mk l.toArray).length (some (p : Int)) = min p l.length := by
    have e : (Str.mk l.toArray).length = l.length := List.size_toArray ..
    rw [e]
    show (if (p : Int) < 0 then ((p : Int) + (l.length : Int)).toNat else min (p : Int).toNat l.length) = _
    rw [if_neg (by omega)]
    rfl
  rw [e1, e2]
  show Str.mk (List.take (min p l.length - 0) (List.drop 0 l)).toArray = _
  rw [Nat.sub_zero, List.drop_zero]
  congr 2
  rw [List.take_eq_take_iff]
  omega
theorem cutS_drop (l : List Nat) (p : Nat) : cutS (mkS l) (some (p : Int)) none = mkS (l.drop p) := by
  unfold cutS mkS
  have e : (Str.mk l.toArray).length = l.length := List.size_toArray ..
  have e1 : HT.sIx (Str.mk l.toArray).length 0 (some (p : Int)) = min p l.length := by
    rw [e]
    show (if (p : Int) < 0 then ((p : Int) + (l.length : Int)).toNat else min (p : Int).toNat l.length) = _
    rw [if_neg (by omega)]
    rfl
  have e2 : HT.sIx (Str.mk l.toArray).length (Str.mk l.toArray).length none = l.length := e
  rw [e1, e2]
  show Str.mk (List.take (l.length - min p l.length) (List.drop (min p l.length) l)).toArray = _
  congr 2
  rw [List.take_of_length_le (by rw [List.length_drop]; exact Nat.le_refl _)]
  by_cases h : p ≤ l.length
  · rw [Nat.min_eq_left h]
  · rw [Nat.min_eq_right (by omega), List.drop_of_length_le (by omega), List.drop_of_length_le (by omega)]
/-- the sign at a place, as a law picks it -/
def sg (i : Int) : Nat := signs.cps.toList.getD i.toNat 0
theorem sg_at {i : Int} (h0 : 0 ≤ i) (h1 : i < 36) : signs.cps[i.toNat]? = some (sg i) := by
  have hl : signs.cps.toList.length = 36 := by decide +kernel
  unfold sg
  rw [← Array.getElem?_toList, List.getD_eq_getElem?_getD, List.getElem?_eq_getElem (by omega)]
  rfl
theorem sg_mem {i : Int} (h0 : 0 ≤ i) (h1 : i < 36) : sg i ∈ signs.cps.toList := by
  have := sg_at h0 h1
  rw [← Array.getElem?_toList] at this
  exact List.mem_of_getElem? this
theorem sg_letter {i : Int} (h0 : 0 ≤ i) (h1 : i < 26) : sg i ∈ letters.cps.toList := by
  have h : ∀ k < 26, signs.cps.toList.getD k 0 ∈ letters.cps.toList := by decide +kernel
  exact h i.toNat (by omega)
theorem sg_inj {i j : Int} (h0 : 0 ≤ i) (h1 : i < 36) (h2 : 0 ≤ j) (h3 : j < 36) (h : sg i = sg j) : i = j := by
  have key : ∀ a < 36, ∀ b < 36, signs.cps.toList.getD a 0 = signs.cps.toList.getD b 0 → a = b := by decide +kernel
  have := key i.toNat (by omega) j.toNat (by omega) h
  omega
/-- the number at a place -/
def nu (ns : List Int) (i : Nat) : Int := ns.getD i 0
def nmAt (ns : List Int) (at_ : Nat) : Nat := if nu ns 99 % 4 = 1 then 0 else at_
def nmPre (ns : List Int) (a : Nat) (n : Nat) : List Nat := sg (nu ns a % 26) :: (List.range n).map fun k : Nat => sg ((nu ns (a + 2) + (k : Int) * nu ns (a + 3)) % 36)
def nmPlace (ns : List Int) (a : Nat) (l : List Nat) : Nat := (1 + nu ns (a + 4) % (l.length : Int)).toNat
def nmOne (ns : List Int) (a : Nat) (k : Nat) : List Nat :=
  let l := nmPre ns a (nu ns (a + 1) % 11).toNat
  l.take (nmPlace ns a l) ++ [sg ((nu ns (a + 5) + 5 * (k : Int)) % 36)] ++ l.drop (nmPlace ns a l)
def lawNames (ns : List Int) (at_ : Nat) (m : Nat) : List Str := (List.range m).map fun k : Nat => mkS (nmOne ns (nmAt ns at_) k)
theorem nmPre_len (ns : List Int) (a n : Nat) : (nmPre ns a n).length = n + 1 := by
  unfold nmPre
  rw [List.length_cons, List.length_map, List.length_range]
theorem nmPre_mem (ns : List Int) (a n : Nat) : ∀ c ∈ nmPre ns a n, c ∈ signs.cps.toList := by
  intro c hc
  unfold nmPre at hc
  rcases List.mem_cons.mp hc with rfl | hc
  · have h1 := Int.emod_nonneg (nu ns a) (by decide : (26 : Int) ≠ 0)
    have h2 := Int.emod_lt_of_pos (nu ns a) (by decide : (0 : Int) < 26)
    exact sg_mem h1 (by omega)
  · obtain ⟨k, _, rfl⟩ := List.mem_map.mp hc
    exact sg_mem (Int.emod_nonneg _ (by decide)) (Int.emod_lt_of_pos _ (by decide))
theorem nmPlace_le (ns : List Int) (a : Nat) (l : List Nat) (h : 0 < l.length) : 1 ≤ nmPlace ns a l ∧ nmPlace ns a l ≤ l.length ∧ (nmPlace ns a l : Int) = 1 + nu ns (a + 4) % (l.length : Int) := by
  unfold nmPlace
  have h1 := Int.emod_nonneg (nu ns (a + 4)) (by omega : (l.length : Int) ≠ 0)
  have h2 := Int.emod_lt_of_pos (nu ns (a + 4)) (by omega : (0 : Int) < (l.length : Int))
  omega
theorem nm_isName (ns : List Int) (a k : Nat) : isName (mkS (nmOne ns a k)) = true := by
  have h1 := Int.emod_nonneg (nu ns (a + 1)) (by decide : (11 : Int) ≠ 0)
  have h2 := Int.emod_lt_of_pos (nu ns (a + 1)) (by decide : (0 : Int) < 11)
  unfold nmOne
  generalize hl : nmPre ns a (nu ns (a + 1) % 11).toNat = l
  have ll : l.length = (nu ns (a + 1) % 11).toNat + 1 := by rw [← hl, nmPre_len]
  have lm : ∀ c ∈ l, c ∈ signs.cps.toList := by rw [← hl]; exact nmPre_mem ns a _
  obtain ⟨p1, p2, _⟩ := nmPlace_le ns a l (by omega)
  dsimp only
  generalize nmPlace ns a l = p at p1 p2
  have c1 := Int.emod_nonneg (nu ns (a + 5) + 5 * (k : Int)) (by decide : (36 : Int) ≠ 0)
  have c2 := Int.emod_lt_of_pos (nu ns (a + 5) + 5 * (k : Int)) (by decide : (0 : Int) < 36)
  generalize (nu ns (a + 5) + 5 * (k : Int)) % 36 = c at c1 c2
  have le : (mkS (l.take p ++ [sg c] ++ l.drop p)).length = l.length + 1 := by
    rw [mkS_len, List.length_append, List.length_append, List.length_take, List.length_drop]
    simp only [List.length_cons, List.length_nil]
    omega
  unfold isName
  rw [le, decide_eq_true (by omega), decide_eq_true (by omega)]
  have tl : (mkS (l.take p ++ [sg c] ++ l.drop p)).cps.toList = l.take p ++ [sg c] ++ l.drop p := by
    show (List.toArray _).toList = _
    rw [List.toList_toArray]
  rw [tl]
  have hd : (l.take p ++ [sg c] ++ l.drop p).head? = some (sg (nu ns a % 26)) := by
    rw [← hl]
    unfold nmPre
    obtain ⟨q, rfl⟩ : ∃ q, p = q + 1 := ⟨p - 1, by omega⟩
    rfl
  rw [hd]
  have a1 : (Option.any (fun c => decide (c ∈ letters.cps.toList)) (some (sg (nu ns a % 26)))) = true :=
    decide_eq_true (sg_letter (Int.emod_nonneg _ (by decide)) (Int.emod_lt_of_pos _ (by decide)))
  rw [a1]
  have a2 : ((l.take p ++ [sg c] ++ l.drop p).all fun c => decide (c ∈ signs.cps.toList)) = true := by
    rw [List.all_eq_true]
    intro x hx
    refine decide_eq_true ?_
    rcases List.mem_append.mp hx with hx | hx
    · rcases List.mem_append.mp hx with hx | hx
      · exact lm x (List.mem_of_mem_take hx)
      · rw [List.mem_singleton.mp hx]; exact sg_mem c1 c2
    · exact lm x (List.mem_of_mem_drop hx)
  rw [a2]
  rfl
theorem nm_inj (ns : List Int) (a : Nat) {j k : Nat} (hj : j < 36) (hk : k < 36) (h : nmOne ns a j = nmOne ns a k) : j = k := by
  have h1 := Int.emod_nonneg (nu ns (a + 1)) (by decide : (11 : Int) ≠ 0)
  unfold nmOne at h
  dsimp only at h
  rw [List.append_assoc, List.append_assoc] at h
  have h := List.append_cancel_left h
  have h := List.append_cancel_right h
  have h := sg_inj (Int.emod_nonneg _ (by decide)) (Int.emod_lt_of_pos _ (by decide)) (Int.emod_nonneg _ (by decide)) (Int.emod_lt_of_pos _ (by decide)) (List.cons.inj h).1
  omega
theorem lawNames_len (ns : List Int) (at_ m : Nat) : (lawNames ns at_ m).length = m := by
  unfold lawNames
  rw [List.length_map, List.length_range]
theorem lawNames_ok (ns : List Int) (at_ m : Nat) : ∀ x ∈ lawNames ns at_ m, isName x = true := by
  intro x hx
  obtain ⟨k, _, rfl⟩ := List.mem_map.mp hx
  exact nm_isName ns _ k
theorem lawNames_nodup (ns : List Int) (at_ m : Nat) (hm : m ≤ 36) : (lawNames ns at_ m).Nodup := by
  unfold lawNames
  rw [List.nodup_iff_pairwise_ne, List.pairwise_map]
  refine List.Pairwise.imp_of_mem ?_ List.nodup_range
  intro j k hj hk hne h
  exact hne (nm_inj ns _ (by have := List.mem_range.mp hj; omega) (by have := List.mem_range.mp hk; omega) (mkS_inj h))
end K8

-- part D2
set_option Elab.async false
set_option linter.all false
set_option maxRecDepth 100000
set_option maxHeartbeats 2000000
/-! _law_names walked -/
namespace K8
open PySem PySem.Spec PyProof.Rows L2 GxR GS GA GD
theorem rd_ifK {C : Prop} {c : TT} {t rest : TS} {D : Ends} {σ : L2.St} {H : Hp} (I : L2.St → Prop) (hR : ∀ σ', I σ' → rest D σ' H) (hc : ∀ R : Bool → Hp → Prop, (C → R true H) → R false H → c σ H R) (hT : (∀ σ', I σ' → rest D σ' H) → C → t { D with nx := rest D } σ H) (hF : I σ) :
    tSeq (tIfS c t tNext) rest D σ H :=
  hc _ (fun z => ifT rfl (hT hR z)) (ifF rfl (hR σ hF))
theorem rd_ifBk {b : Bool} {c : TT} {t rest : TS} {D : Ends} {σ : L2.St} {H : Hp} (I : L2.St → Prop) (hc : ∀ R : Bool → Hp → Prop, R b H → c σ H R) (hT : (∀ σ', I σ' → rest D σ' H) → b = true → t { D with nx := rest D } σ H) (hF : b = false → I σ) (hR : ∀ σ', I σ' → rest D σ' H) :
    tSeq (tIfS c t tNext) rest D σ H := by
  refine hc _ ?_
  cases b with
  | true => exact ifT rfl (hT hR rfl)
  | false => exact ifF rfl (hR σ (hF rfl))
theorem nu_at {K : PySem.W.Frag} {H : Hp} {p : Addr} {ns : List Int} {R : VK} {i : Int} {j : Nat} (h : SqL K H p (ns.map V.int)) (e : i = (j : Int)) (hj : j < ns.length) (hR : R (.int (nu ns j)) H) : rIxL K (.ref p) (.int i) H R := by
  subst e
  refine ⟨p, _, _, _, rfl, rfl, h, ?_, hR⟩
  rw [atI_nat (j := j)]
  unfold nu
  rw [List.getElem?_map, List.getElem?_eq_getElem hj, List.getD_eq_getElem?_getD, List.getElem?_eq_getElem hj]
  rfl
theorem nu_in9 {ns : List Int} (h : ∀ n ∈ ns, In9 n) (j : Nat) : In9 (nu ns j) := by
  unfold nu
  rw [List.getD_eq_getElem?_getD]
  cases e : ns[j]? with
  | none => exact ⟨by decide, by decide⟩
  | some x => exact h x (List.mem_of_getElem? e)
section
variable {P : Program} {w : World} {K : PySem.W.Frag} {mg : Str → Option Value} {base : Heap}
def spNames (K : PySem.W.Frag) : Sp := fun vs H Q _ => ∃ (p : Addr) (ns : List Int) (at_ m : Nat), vs = [.ref p, .int at_, .int m] ∧ SqL K H p (ns.map V.int) ∧ ns.length = 120 ∧ (∀ n ∈ ns, In9 n) ∧ at_ + 6 ≤ 120 ∧ m ≤ 36 ∧
  ∀ H' q, H q = none → Sm H H' → H' q = some (.lst ((lawNames ns at_ m).map V.str)) → Q (.ref q) H'
abbrev Nnm : List Str := ["numbers", "at", "many", "chars", "prefix", "k", "place", "shift"]
theorem sc_names : FnScope Nnm ["numbers", "at", "many"] (defScope s_law_names) := ⟨rfl, rfl, rfl, by decide +kernel, rfl, by decide +kernel, by decide +kernel⟩
def stN (p : Addr) (a m : Nat) (pre : Option V) (k pl sh : Option V) : L2.St := [some (.ref p), some (.int a), some (.int m), some (.str signs), pre, k, pl, sh]
theorem ok_names (T : Tx w K mg base) : ∃ fd, FnOk P w K mg base CX0 1 (He.ga K "_law_names") fd ["numbers", "at", "many"] (spNames K) ∧ Binds K fd ["numbers", "at", "many"] [] ∧ PySem.W.keepIn K (.ref (He.ga K "_law_names")) = true := by
  obtain ⟨fd, F⟩ := T.F__law_names
  refine ⟨fd, okC (k := 0) F (codeOf_at (p := ("_law_names", none)) F) sc_names (fun vs H Q E h => ?_) (fun A outer s H vs Q E hr h => ?_), F.bindsN (ps := ["numbers", "at", "many"]) fun _ _ _ _ _ _ us hl => match us, hl with | [_, _, _], _ => rfl, F.kp⟩
  · obtain ⟨_, _, _, _, rfl, _⟩ := h
    rfl
  · obtain ⟨p, ns, at_, m, rfl, hp, hn, h9, ha, hm, k⟩ := h
    have nd := sc_names.nd
    refine ⟨_, PSs.nox (pss_cons (ps_if (pt_cmpR op_eq (pe_op op_mod (pe_callTy call_int1 (by rfl) T.free_int (by decide +kernel) (pa_cons (pe_ix ix_list (pv 0) pe_int (fun _ _ => rfl)) pa_nil)) pe_int) pe_int (nomark _)) (pss_one (ps_set (i := 1) nd rfl (Or.inl rfl) pe_int)) pss_nil)
      (pss_cons (ps_set (i := 3) nd rfl (Or.inr rfl) pe_str)
      (pss_cons (ps_set (i := 4) nd rfl (Or.inr rfl) (pe_item_str (pv 3) (pe_op op_mod (pe_callTy call_int1 (by rfl) T.free_int (by decide +kernel) (pa_cons (pe_ix ix_list (pv 0) (pv 1) (fun _ _ => rfl)) pa_nil)) pe_int) (fun _ _ => rfl)))
      (pss_cons (ps_forI PassesOwn.never rfl (pi_range1 rfl T.free_range (pa_cons (pe_op op_mod (pe_callTy call_int1 (by rfl) T.free_int (by decide +kernel) (pa_cons (pe_ix ix_list (pv 0) (pe_op op_add (pv 1) pe_int) (fun _ _ => rfl)) pa_nil)) pe_int) pa_nil)) (pg_name (i := 5) nd rfl (Or.inl rfl))
        (pss_one (ps_set (i := 4) nd rfl (Or.inr rfl) (pe_op op_add_str (pv 4) (pe_item_str (pv 3) (pe_op op_mod (pe_callTy call_int1 (by rfl) T.free_int (by decide +kernel) (pa_cons (pe_op op_add (pe_ix ix_list (pv 0) (pe_op op_add (pv 1) pe_int) (fun _ _ => rfl)) (pe_op op_mul (pv 5) (pe_ix ix_list (pv 0) (pe_op op_add (pv 1) pe_int) (fun _ _ => rfl)))) pa_nil)) pe_int) (fun _ _ => rfl))))))
      (pss_cons (ps_set (i := 6) nd rfl (Or.inr rfl) (pe_op op_add pe_int (pe_op op_mod (pe_callTy call_int1 (by rfl) T.free_int (by decide +kernel) (pa_cons (pe_ix ix_list (pv 0) (pe_op op_add (pv 1) pe_int) (fun _ _ => rfl)) pa_nil)) (pe_callB call_len_str (by rfl) T.free_len PySem.boot_len (pa_cons (pv 4) pa_nil)))))
      (pss_cons (ps_set (i := 7) nd rfl (Or.inr rfl) (pe_callTy call_int1 (by rfl) T.free_int (by decide +kernel) (pa_cons (pe_ix ix_list (pv 0) (pe_op op_add (pv 1) pe_int) (fun _ _ => rfl)) pa_nil)))
      (pss_one (ps_ret (pe_lcI (own := [("k", 5)]) (g := gName 5) (tt := tYes) (te := tOp (fun x y H Q => ∃ i j, x = V.str i ∧ y = V.str j ∧ i.length + j.length ≤ sizeLine ∧ Q (V.str (i ++ j)) H)
            (tOp (fun x y H Q => ∃ i j, x = V.str i ∧ y = V.str j ∧ i.length + j.length ≤ sizeLine ∧ Q (V.str (i ++ j)) H) (tSl rSlS (tVar 4) tNoPart (tPart (tVar 6)))
              (tOp (fun x y H Q => ∃ z i c, x = V.str z ∧ y = V.int i ∧ 0 ≤ i ∧ i < 2 ^ 63 ∧ i < z.length ∧ z.cps[i.toNat]? = some c ∧ Q (V.str { cps := #[c] }) H) (tVar 3)
                (tOp (rI (fun _ j => 0 < j) fun i j => V.int (i % j)) (tCB (fun xs H Q => (∃ i, xs = [V.int i] ∧ Q (V.int i) H) ∨ ∃ k, xs = [V.bl k] ∧ Q (V.int (if k = true then 1 else 0)) H) (tCons (tOp (rI0 fun i j => .int (i + j)) (tVar 7) (tOp (rI CMul fun i j => .int (i * j)) (tC (.int 5)) (tVar 5))) tNil)) (tC (.int 36)))))
            (tSl rSlS (tVar 4) (tPart (tVar 6)) tNoPart)) rfl nd
          (pi_range1 rfl T.free_range (pa_cons (pv 2) pa_nil)) (blkOk_by (own := [("k", 5)]) (N := Nnm) (sc := defScope s_law_names) (by decide +kernel))
          (fun _ _ _ _ _ => pg_name (i := 5) nd rfl (Or.inl rfl)) (fun _ _ _ _ _ => pts_nil) (fun _ _ _ _ _ => pe_op op_add_str (pe_op op_add_str (pe_slice sl_str (pv 4) po_none (po_some (pv 6))) (pe_item_str (pv 3) (pe_op op_mod (pe_callTy call_int1 (by rfl) T.free_int (by decide +kernel) (pa_cons (pe_op op_add (pv 7) (pe_op op_mul pe_int (pv 5))) pa_nil)) pe_int) (fun _ _ => rfl))) (pe_slice sl_str (pv 4) (po_some (pv 6)) po_none))))))))))), ?_⟩
    refine rd_ifBk (b := decide (nu ns 99 % 4 = 1)) (fun σ' => ∃ a, a = nmAt ns at_ ∧ σ' = [some (.ref p), some (.int (a : Nat)), some (.int m), none, none, none, none, none]) (fun R hR => ?_) (fun J e => J _ ⟨0, ?_, rfl⟩) (fun e => ⟨at_, ?_, rfl⟩) (fun σ' h => ?_)
    · refine ⟨_, rfl, nu_at hp (j := 99) rfl (by omega) (.inl ⟨_, rfl, _, _, rfl, rfl, (by show (0 : Int) < 4; decide), rfl, _, rfl, ?_⟩)⟩
      have e : decide (V.int (nu ns 99 % 4) = V.int 1) = decide (nu ns 99 % 4 = 1) := decide_eq_decide.mpr ⟨V.int.inj, congrArg _⟩
      rw [e]
      exact hR
    · unfold nmAt
      rw [if_pos (of_decide_eq_true e)]
    · unfold nmAt
      rw [if_neg (of_decide_eq_false e)]
    obtain ⟨a, ea, rfl⟩ := h
    have la : a + 6 ≤ 120 := by
      rw [ea]
      unfold nmAt
      split <;> omega
    have n9 := nu_in9 h9
    have x1 := Int.emod_nonneg (nu ns a) (by decide : (26 : Int) ≠ 0)
    have x2 := Int.emod_lt_of_pos (nu ns a) (by decide : (0 : Int) < 26)
    refine ⟨_, rfl, _, rfl, _, rfl, nu_at hp (j := a) rfl (by omega) (.inl ⟨_, rfl, _, _, rfl, rfl, (by show (0 : Int) < 26; decide), ?_⟩)⟩
    have l36 : signs.length = 36 := by decide +kernel
    refine ⟨signs, _, _, rfl, rfl, x1, by omega, by rw [l36]; omega, sg_at x1 (by omega), ?_⟩
    have y1 := Int.emod_nonneg (nu ns (a + 1)) (by decide : (11 : Int) ≠ 0)
    have y2 := Int.emod_lt_of_pos (nu ns (a + 1)) (by decide : (0 : Int) < 11)
    dsimp only [gName]
    refine rd_forR (i := 5) (n := (nu ns (a + 1) % 11).toNat) (by omega) (fun k σ' H' => ∃ kv, σ' = stN p a m (some (.str (mkS (nmPre ns a k)))) kv none none ∧ H' = H) ⟨none, rfl, rfl⟩ (fun i σ' H' hi q => ?_) (fun σ' H' q => ?_) (fun R hR => ?_)
    rotate_left 2
    · refine ⟨_, rfl, _, rfl, _, _, rfl, rfl, nu_at hp (j := a + 1) (by omega) (by omega) (.inl ⟨_, rfl, _, _, rfl, rfl, (by show (0 : Int) < 11; decide), ?_⟩)⟩
      have e : ((nu ns (a + 1) % 11).toNat : Int) = nu ns (a + 1) % 11 := by omega
      rw [e] at hR
      exact hR
    · obtain ⟨kv, rfl, rfl⟩ := q
      refine ⟨_, rfl, _, rfl, _, rfl, _, rfl, _, _, rfl, rfl, nu_at hp (j := a + 2) (by omega) (by omega) ?_⟩
      refine ⟨_, rfl, _, rfl, _, rfl, _, _, rfl, rfl, nu_at hp (j := a + 3) (by omega) (by omega) ?_⟩
      refine ⟨_, _, rfl, rfl, .inl ⟨by omega, by omega⟩, _, _, rfl, rfl, .inl ⟨_, rfl, _, _, rfl, rfl, (by show (0 : Int) < 36; decide), ?_⟩⟩
      have z1 := Int.emod_nonneg (nu ns (a + 2) + (i : Int) * nu ns (a + 3)) (by decide : (36 : Int) ≠ 0)
      have z2 := Int.emod_lt_of_pos (nu ns (a + 2) + (i : Int) * nu ns (a + 3)) (by decide : (0 : Int) < 36)
      refine ⟨signs, _, _, rfl, rfl, z1, by omega, by rw [l36]; exact z2, sg_at z1 z2, _, _, rfl, rfl, ?_, ?_⟩
      · rw [mkS_len, nmPre_len]
        show _ + 1 ≤ sizeLine
        unfold sizeLine; omega
      · rw [mkS_snoc]
        refine ⟨some (.int (i : Int)), ?_, rfl⟩
        have e : nmPre ns a (i + 1) = nmPre ns a i ++ [sg ((nu ns (a + 2) + (i : Int) * nu ns (a + 3)) % 36)] := by
          unfold nmPre
          rw [List.range_succ, List.map_append]
          rfl
        rw [e]
        rfl
    obtain ⟨kv, rfl, rfl⟩ := q
    dsimp only
    generalize el : nmPre ns a (nu ns (a + 1) % 11).toNat = l
    have ll : l.length = (nu ns (a + 1) % 11).toNat + 1 := by rw [← el, nmPre_len]
    obtain ⟨q1, q2, q3⟩ := nmPlace_le ns a l (by omega)
    have ls : (mkS l).length = l.length := mkS_len l
    have lz : (mkS l).length ≤ sizeLine := by rw [ls]; unfold sizeLine; omega
    refine ⟨_, rfl, _, rfl, _, _, rfl, rfl, nu_at hp (j := a + 4) (by omega) (by omega) (.inl ⟨_, rfl, _, rfl, mkS l, rfl, lz, _, _, rfl, rfl, (by show (0 : Int) < ((mkS l).length : Int); omega), _, _, rfl, rfl, ?_⟩)⟩
    dsimp only [gName]
    rw [ls, ← q3]
    refine ⟨_, rfl, _, rfl, _, _, rfl, rfl, nu_at hp (j := a + 5) (by omega) (by omega) (.inl ⟨_, rfl, ?_⟩)⟩
    dsimp only [gName]
    have n5 := n9 (a + 5)
    refine rd_lcRN (ρ := V) (n := m) (Rel := fun _ v z => v = z) (h := fun k : Nat => V.str (mkS (nmOne ns a k))) (by omega) (fun R hR => ⟨_, rfl, hR _ Sm.refl⟩) (fun _ z => z) (fun k H' R hk s1 hR => ?_) (fun D H' vs hD s1 h1 hp1 => ?_)
    · have z1 := Int.emod_nonneg (nu ns (a + 5) + 5 * (k : Int)) (by decide : (36 : Int) ≠ 0)
      have z2 := Int.emod_lt_of_pos (nu ns (a + 5) + 5 * (k : Int)) (by decide : (0 : Int) < 36)
      refine ⟨_, rfl, _, rfl, _, rfl, mkS l, rfl, lz, _, rfl, _, rfl, _, rfl, _, _, rfl, rfl, .inl ⟨by omega, by omega⟩, _, _, rfl, rfl, .inl ⟨_, rfl, _, _, rfl, rfl, (by show (0 : Int) < 36; decide), ?_⟩⟩
      refine ⟨signs, _, _, rfl, rfl, z1, by omega, by rw [l36]; exact z2, sg_at z1 z2, _, _, rfl, rfl, ?_, _, rfl, _, rfl, _, rfl, mkS l, rfl, lz, _, _, rfl, rfl, ?_, ?_⟩
      · rw [cutS_take, mkS_len]
        show _ + 1 ≤ sizeLine
        rw [List.length_take]
        unfold sizeLine; omega
      · rw [cutS_take, mkS_snoc, cutS_drop, mkS_len, mkS_len, List.length_append, List.length_take, List.length_drop]
        show (_ + 1) + _ ≤ sizeLine
        unfold sizeLine; omega
      · rw [cutS_take, mkS_snoc, cutS_drop, mkS_app]
        refine hR _ H' Sm.refl ?_
        unfold nmOne
        rw [el]
    · refine k H' D hD s1 ?_
      rw [h1, pair_eq hp1]
      unfold lawNames
      rw [List.map_map, ← ea]
      rfl
end
end K8

-- part D3
set_option Elab.async false
set_option linter.all false
set_option maxRecDepth 100000
set_option maxHeartbeats 2000000
/-! _law_some walked -/
namespace K8
open PySem PySem.Spec PyProof.Rows L2 GxR GS GA GD
def pw2 (k : Nat) : Int := nu [1, 2, 4, 8, 16, 32] k
def pick (n : Int) (wo : List Str) (rights : List Str) (k : Nat) : Bool := decide (n / pw2 k % 2 = 1) && !wo.contains (rights.getD k ⟨#[]⟩)
def fnd (rights : List Str) (n : Int) (wo : List Str) (k : Nat) : List Str := ((List.range k).filter (pick n wo rights)).map fun j => rights.getD j ⟨#[]⟩
def lawSome (rights : List Str) (n : Int) (wo : List Str) : List Str :=
  let f := fnd rights n wo rights.length
  let t := (n / 64 % (if (f.length : Int) > 1 then (f.length : Int) else 1)).toNat
  f.drop t ++ f.take t
theorem fnd_succ (rights : List Str) (n : Int) (wo : List Str) (k : Nat) : fnd rights n wo (k + 1) = fnd rights n wo k ++ if pick n wo rights k = true then [rights.getD k ⟨#[]⟩] else [] := by
  unfold fnd
  rw [List.range_succ, List.filter_append, List.map_append]
  congr 1
  cases h : pick n wo rights k with
  | true => rw [List.filter_cons_of_pos h]; rfl
  | false => rw [List.filter_cons_of_neg (by simp [h])]; rfl
theorem fnd_len (rights : List Str) (n : Int) (wo : List Str) (k : Nat) : (fnd rights n wo k).length ≤ k := by
  unfold fnd
  rw [List.length_map]
  exact Nat.le_trans (List.length_filter_le ..) (by rw [List.length_range]; exact Nat.le_refl _)
theorem fnd_mem (rights : List Str) (n : Int) (wo : List Str) {k : Nat} (hk : k ≤ rights.length) : ∀ x ∈ fnd rights n wo k, x ∈ rights ∧ wo.contains x = false := by
  intro x hx
  obtain ⟨j, hj, rfl⟩ := List.mem_map.mp hx
  obtain ⟨h1, h2⟩ := List.mem_filter.mp hj
  have h1 := List.mem_range.mp h1
  obtain ⟨_, h3⟩ := He.ba h2
  refine ⟨?_, by simpa using h3⟩
  rw [List.getD_eq_getElem?_getD, List.getElem?_eq_getElem (by omega)]
  exact List.getElem_mem _
theorem fnd_nodup {rights : List Str} (hn : rights.Nodup) (n : Int) (wo : List Str) {k : Nat} (hk : k ≤ rights.length) : (fnd rights n wo k).Nodup := by
  unfold fnd
  rw [List.nodup_iff_pairwise_ne, List.pairwise_map]
  refine List.Pairwise.imp_of_mem ?_ (List.Pairwise.filter _ (List.nodup_range (n := k)))
  intro i j hi hj hne h
  have h1 := List.mem_range.mp (List.mem_filter.mp hi).1
  have h2 := List.mem_range.mp (List.mem_filter.mp hj).1
  rw [List.getD_eq_getElem?_getD, List.getD_eq_getElem?_getD, List.getElem?_eq_getElem (by omega), List.getElem?_eq_getElem (by omega)] at h
  exact hne ((List.getElem_inj hn).mp h)
theorem some_mem (rights : List Str) (n : Int) (wo : List Str) : ∀ x ∈ lawSome rights n wo, x ∈ rights ∧ wo.contains x = false := by
  intro x hx
  unfold lawSome at hx
  dsimp only at hx
  rcases List.mem_append.mp hx with h | h
  · exact fnd_mem rights n wo (Nat.le_refl _) x (List.mem_of_mem_drop h)
  · exact fnd_mem rights n wo (Nat.le_refl _) x (List.mem_of_mem_take h)
theorem some_len (rights : List Str) (n : Int) (wo : List Str) : (lawSome rights n wo).length ≤ rights.length := by
  have := fnd_len rights n wo rights.length
  unfold lawSome
  dsimp only
  rw [List.length_append, List.length_drop, List.length_take]
  omega
theorem some_nodup {rights : List Str} (hn : rights.Nodup) (n : Int) (wo : List Str) : (lawSome rights n wo).Nodup := by
  have h := fnd_nodup hn n wo (Nat.le_refl _)
  unfold lawSome
  dsimp only
  generalize (n / 64 % _).toNat = t
  rw [← List.take_append_drop t (fnd rights n wo rights.length)] at h
  exact (List.perm_append_comm.nodup_iff).mp h
theorem st_at {K : PySem.W.Frag} {H : Hp} {p : Addr} {ss : List Str} {R : VK} {i : Int} {j : Nat} (h : SqL K H p (ss.map V.str)) (e : i = (j : Int)) (hj : j < ss.length) (hR : R (.str (ss.getD j ⟨#[]⟩)) H) : rIxL K (.ref p) (.int i) H R := by
  subst e
  refine ⟨p, _, _, _, rfl, rfl, h, ?_, hR⟩
  rw [atI_nat (j := j)]
  rw [List.getElem?_map, List.getElem?_eq_getElem hj, List.getD_eq_getElem?_getD, List.getElem?_eq_getElem hj]
  rfl
theorem cut_drop (xs : List V) (m : Nat) : cutV xs (some (m : Int)) none = xs.drop m := by
  unfold cutV
  have e1 : HT.sIx xs.length 0 (some (m : Int)) = min m xs.length := by
    show (if (m : Int) < 0 then ((m : Int) + (xs.length : Int)).toNat else min (m : Int).toNat xs.length) = _
    rw [if_neg (by omega)]
    rfl
  have e2 : HT.sIx xs.length xs.length none = xs.length := rfl
  rw [e1, e2]
  by_cases h : m ≤ xs.length
  · rw [Nat.min_eq_left h, List.take_of_length_le (by rw [List.length_drop]; exact Nat.le_refl _)]
  · rw [Nat.min_eq_right (by omega), Nat.sub_self, List.take_zero, List.drop_of_length_le (by omega)]
section
variable {P : Program} {w : World} {K : PySem.W.Frag} {mg : Str → Option Value} {base : Heap}
def spSome (K : PySem.W.Frag) : Sp := fun vs H Q _ => ∃ (a b : Addr) (rights wo : List Str) (n : Int), vs = [.ref a, .int n, .ref b] ∧ SqL K H a (rights.map V.str) ∧ SqL K H b (wo.map V.str) ∧ In9 n ∧ rights.length ≤ 6 ∧
  ∀ H' q, H q = none → Sm H H' → H' q = some (.lst ((lawSome rights n wo).map V.str)) → Q (.ref q) H'
abbrev Nsm : List Str := ["rights", "number", "without", "found", "k", "turn"]
theorem sc_some : FnScope Nsm ["rights", "number", "without"] (defScope s_law_some) := ⟨rfl, rfl, rfl, by decide +kernel, rfl, by decide +kernel, by decide +kernel⟩
theorem ok_some (T : Tx w K mg base) : ∃ fd, FnOk P w K mg base CX0 1 (He.ga K "_law_some") fd ["rights", "number", "without"] (spSome K) ∧ Binds K fd ["rights", "number", "without"] [] ∧ PySem.W.keepIn K (.ref (He.ga K "_law_some")) = true := by
  obtain ⟨fd, F⟩ := T.F__law_some
  refine ⟨fd, okC (k := 0) F (codeOf_at (p := ("_law_some", none)) F) sc_some (fun vs H Q E h => ?_) (fun A outer s H vs Q E hr h => ?_), F.bindsN (ps := ["rights", "number", "without"]) fun _ _ _ _ _ _ us hl => match us, hl with | [_, _, _], _ => rfl, F.kp⟩
  · obtain ⟨_, _, _, _, _, rfl, _⟩ := h
    rfl
  · obtain ⟨a, b, rights, wo, n, rfl, ha, hb, h9, lr, k⟩ := h
    have nd := sc_some.nd
    refine ⟨_, PSs.nox (pss_cons (ps_set (i := 3) nd rfl (Or.inl rfl) (pe_lst pa_nil))
      (pss_cons (ps_forI PassesOwn.never rfl (pi_range1 rfl T.free_range (pa_cons (pe_callB call_len_seq (by rfl) T.free_len PySem.boot_len (pa_cons (pv 0) pa_nil)) pa_nil)) (pg_name (i := 4) nd rfl (Or.inl rfl))
        (pss_one (ps_if (PW.pt (pw_and (pt_cmpR op_eq (pe_op op_mod (pe_op op_fdiv (pe_callTy call_int1 (by rfl) T.free_int (by decide +kernel) (pa_cons (pv 1) pa_nil)) (pe_ix ix_list (pe_lst (pa_cons pe_int (pa_cons pe_int (pa_cons pe_int (pa_cons pe_int (pa_cons pe_int (pa_cons pe_int pa_nil))))))) (pv 4) (fun _ _ => rfl))) pe_int) pe_int (nomark _)) (pw_and1 (pt_cmpR op_notIn_seq (pe_ix ix_list (pv 0) (pv 4) (fun _ _ => rfl)) (pv 2) (by rfl)))))
          (pss_one (ps_expr (pe_bm PySem.F.plainAttrs_list PySem.F.slot_list_append PySem.F.type_list_append mt_append (pv 3) (pa_cons (pe_ix ix_list (pv 0) (pv 4) (fun _ _ => rfl)) pa_nil)))) pss_nil)))
      (pss_cons (ps_set (i := 5) nd rfl (Or.inl rfl) (pe_op op_mod (pe_op op_fdiv (pe_callTy call_int1 (by rfl) T.free_int (by decide +kernel) (pa_cons (pv 1) pa_nil)) pe_int) (pe_callB (call_max2 rfl) (by rfl) T.free_max (by decide +kernel) (pa_cons pe_int (pa_cons (pe_callB call_len_seq (by rfl) T.free_len PySem.boot_len (pa_cons (pv 3) pa_nil)) pa_nil)))))
      (pss_one (ps_ret (pe_op op_cat (pe_slice sl_list (pv 3) (po_some (pv 5)) po_none) (pe_slice sl_list (pv 3) po_none (po_some (pv 5))))))))), ?_⟩
    refine ⟨Nat.zero_le _, fun l hl => ?_⟩
    have lm : (rights.map V.str).length = rights.length := List.length_map ..
    have s0 : Sm H (upd H l (.lst [])) := Sm.new hl
    refine rd_forR (i := 4) (n := rights.length) (by omega) (fun k σ' H' => ∃ kv, σ' = [some (.ref a), some (.int n), some (.ref b), some (.ref l), kv, none] ∧ Sm H H' ∧ H' l = some (.lst ((fnd rights n wo k).map V.str))) ⟨none, rfl, s0, upd_same⟩ (fun i σ' H' hi p => ?_) (fun σ' H' p => ?_) (fun R hR => ⟨_, rfl, a, _, rfl, .inl (s0.lst ha), by rw [lm]; exact hR⟩)
    · obtain ⟨kv, rfl, s1, h1⟩ := p
      have fl := fnd_len rights n wo i
      refine ⟨_, rfl, .inl ⟨_, rfl, by show 6 ≤ sizeLine; decide, fun d hd => ⟨_, rfl, nu_at (ns := [1, 2, 4, 8, 16, 32]) (j := i) (SqL.of upd_same) rfl (by show i < 6; omega) ?_⟩⟩⟩
      have sd : Sm H' (upd H' d (.lst [.int 1, .int 2, .int 4, .int 8, .int 16, .int 32])) := Sm.new hd
      have h2 : (upd H' d (.lst [.int 1, .int 2, .int 4, .int 8, .int 16, .int 32])) l = some (.lst ((fnd rights n wo i).map V.str)) := sd.st _ _ h1 fun _ z => by cases z
      generalize upd H' d (.lst [.int 1, .int 2, .int 4, .int 8, .int 16, .int 32]) = H2 at sd h2
      have s2 := s1.trans sd
      have pp : 0 < pw2 i ∧ pw2 i < 1073741824 := by
        have : ∀ i < 6, 0 < pw2 i ∧ pw2 i < 1073741824 := by decide +kernel
        exact this i (by omega)
      refine ⟨_, _, rfl, rfl, pp, _, _, rfl, rfl, (by show (0 : Int) < 2; decide), rfl, _, rfl, ?_⟩
      have e1 : decide (V.int (n / nu [1, 2, 4, 8, 16, 32] i % 2) = V.int 1) = decide (n / pw2 i % 2 = 1) := decide_eq_decide.mpr ⟨V.int.inj, congrArg _⟩
      rw [e1]
      have fs := fnd_succ rights n wo i
      cases c1 : decide (n / pw2 i % 2 = 1) with
      | false =>
        have e2 : pick n wo rights i = false := by unfold pick; rw [c1, Bool.false_and]
        rw [e2, if_neg Bool.false_ne_true, List.append_nil] at fs
        refine ifF rfl ⟨some (.int (i : Int)), rfl, s2, ?_⟩
        rw [fs]
        exact h2
      | true =>
        refine ifT rfl ⟨_, rfl, _, rfl, st_at (s2.lst ha) rfl hi ⟨_, rfl, niT (.inl (s2.lst hb)) ⟨_, rfl, ?_⟩⟩⟩
        cases c2 : !wo.contains (rights.getD i ⟨#[]⟩) with
        | false =>
          have e2 : pick n wo rights i = false := by unfold pick; rw [c2, Bool.and_false]
          rw [e2, if_neg Bool.false_ne_true, List.append_nil] at fs
          refine ifF rfl ⟨some (.int (i : Int)), rfl, s2, ?_⟩
          rw [fs]
          exact h2
        | true =>
          have e2 : pick n wo rights i = true := by unfold pick; rw [c1, c2]; rfl
          rw [e2, if_pos rfl] at fs
          refine ifT rfl ⟨_, rfl, .inl ⟨rfl, _, SqL.of h2⟩, _, rfl, _, rfl, st_at (s2.lst ha) rfl hi ⟨l, _, _, rfl, rfl, h2, ?_, some (.int (i : Int)), rfl, ?_, ?_⟩⟩
          · rw [List.length_map]
            unfold sizeLine; omega
          · exact Sm.own s2 hl fun P tb => tabG_ne tb h2 fun _ z => by cases z
          · rw [upd_same, fs, List.map_append]
            rfl
    · obtain ⟨kv, rfl, s1, h1⟩ := p
      have fl := fnd_len rights n wo rights.length
      dsimp only
      refine ⟨_, rfl, .inl ⟨_, rfl, _, _, rfl, rfl, ⟨by decide, by decide⟩, _, rfl, l, _, rfl, .inl (SqL.of h1), _, _, rfl, ?_⟩⟩
      rw [List.length_map]
      refine ⟨_, _, rfl, rfl, (by show (0 : Int) < if (((fnd rights n wo rights.length).length : Nat) : Int) > 1 then (((fnd rights n wo rights.length).length : Nat) : Int) else 1; split <;> omega), ?_⟩
      dsimp only [gName]
      obtain ⟨t, et⟩ : ∃ t : Nat, n / 64 % (if (((fnd rights n wo rights.length).length : Nat) : Int) > 1 then (((fnd rights n wo rights.length).length : Nat) : Int) else 1) = (t : Int) := by
        refine ⟨(n / 64 % (if (((fnd rights n wo rights.length).length : Nat) : Int) > 1 then (((fnd rights n wo rights.length).length : Nat) : Int) else 1)).toNat, ?_⟩
        have := Int.emod_nonneg (n / 64) (b := if (((fnd rights n wo rights.length).length : Nat) : Int) > 1 then (((fnd rights n wo rights.length).length : Nat) : Int) else 1) (by split <;> omega)
        omega
      rw [et]
      have es : lawSome rights n wo = (fnd rights n wo rights.length).drop t ++ (fnd rights n wo rights.length).take t := by
        unfold lawSome
        dsimp only
        rw [et]
        rfl
      refine ⟨_, rfl, _, rfl, _, rfl, l, _, rfl, SqL.of h1, fun p1 hp1 => ?_⟩
      have t1 := Sm.new (o := .lst (cutV ((fnd rights n wo rights.length).map V.str) (some (t : Int)) none)) hp1
      refine ⟨_, rfl, _, rfl, _, rfl, l, _, rfl, t1.lst (SqL.of h1), fun p2 hp2 => ?_⟩
      have t2 := Sm.new (o := .lst (cutV ((fnd rights n wo rights.length).map V.str) none (some (t : Int)))) hp2
      refine ⟨p1, p2, _, _, rfl, rfl, t2.st _ _ upd_same fun _ z => (by cases z), upd_same, ?_, fun p3 hp3 => k _ p3 ?_ (((s1.trans t1).trans t2).trans (Sm.new hp3)) ?_⟩
      · rw [cut_drop, cut_take, List.length_drop, List.length_take, List.length_map]
        unfold sizeLine; omega
      · exact ((s1.trans t1).trans t2).fr _ hp3
      · rw [upd_same, cut_drop, cut_take, es, List.map_append, List.map_drop, List.map_take]
end
end K8

-- part D4
set_option Elab.async false
set_option linter.all false
set_option maxRecDepth 100000
set_option maxHeartbeats 2000000
/-! _law_rule walked -/
namespace K8
open PySem PySem.Spec PyProof.Rows L2 GxR GS GA GD
/-- a list of texts that is no frozen one, its place told by Fr -/
def TlF (Fr : Addr → Prop) (H : Hp) (v : V) (xs : List Str) : Prop := ∃ a, v = .ref a ∧ Fr a ∧ H a = some (.lst (xs.map V.str))
def RuF (Fr : Addr → Prop) (H : Hp) (v : V) (r : Ru) : Prop := ∃ p us, v = .ref p ∧ H p = some (.tup (.str r.kind :: .str r.name :: (us ++ r.right.toList.map V.str))) ∧ Paired (TlF Fr H) us r.ls
theorem TlF.mono {Fr : Addr → Prop} {H H' : Hp} {v : V} {xs : List Str} (s : Sm H H') (h : TlF Fr H v xs) : TlF Fr H' v xs := let ⟨a, e, f, h⟩ := h; ⟨a, e, f, s.st _ _ h fun _ z => by cases z⟩
theorem TlF.imp {Fr Gr : Addr → Prop} {H : Hp} {v : V} {xs : List Str} (g : ∀ a, Fr a → Gr a) (h : TlF Fr H v xs) : TlF Gr H v xs := let ⟨a, e, f, h⟩ := h; ⟨a, e, g a f, h⟩
theorem TlF.put {Fr : Addr → Prop} {H : Hp} {v : V} {xs : List Str} {D : Addr} {o : HO} (g : ∀ a, Fr a → a ≠ D) (h : TlF Fr H v xs) : TlF Fr (upd H D o) v xs := let ⟨a, e, f, h⟩ := h; ⟨a, e, f, by rw [upd_ne (g a f)]; exact h⟩
theorem RuF.mono {Fr : Addr → Prop} {H H' : Hp} {v : V} {r : Ru} (s : Sm H H') (h : RuF Fr H v r) : RuF Fr H' v r := let ⟨p, us, e, h1, h2⟩ := h; ⟨p, us, e, s.st _ _ h1 (fun _ z => by cases z), GD.Paired.imp (fun _ _ z => z.mono s) h2⟩
theorem RuF.imp {Fr Gr : Addr → Prop} {H : Hp} {v : V} {r : Ru} (g : ∀ a, Fr a → Gr a) (h : RuF Fr H v r) : RuF Gr H v r := let ⟨p, us, e, h1, h2⟩ := h; ⟨p, us, e, h1, GD.Paired.imp (fun _ _ z => z.imp g) h2⟩
theorem RuF.put {Fr : Addr → Prop} {H : Hp} {v : V} {r : Ru} {D : Addr} {us : List V} {o : HO} (g : ∀ a, Fr a → a ≠ D) (hD : H D = some (.lst us)) (h : RuF Fr H v r) : RuF Fr (upd H D o) v r := by
  obtain ⟨p, vs, e, h1, h2⟩ := h
  refine ⟨p, vs, e, ?_, GD.Paired.imp (fun _ _ z => z.put g) h2⟩
  rw [upd_ne (fun z => by rw [z, hD] at h1; cases h1)]
  exact h1
theorem TlF.at_ {Fr : Addr → Prop} {K : PySem.W.Frag} {H : Hp} {v : V} {xs : List Str} (h : TlF Fr H v xs) : TlAt K H v xs := let ⟨a, e, _, h⟩ := h; ⟨a, e, .inl (SqL.of h)⟩
theorem RuF.at_ {Fr : Addr → Prop} {K : PySem.W.Frag} {H : Hp} {v : V} {r : Ru} (h : RuF Fr H v r) : RuAt K H v r := let ⟨p, us, e, h1, h2⟩ := h; ⟨p, us, e, SqT.of h1, GD.Paired.imp (fun _ _ z => z.at_) h2⟩
def kinds6 : List Str := ["join", "claim", "drop", "give", "take", "pass"]
def shd (rights sole : List Str) : List Str := rights.filter fun x => !sole.contains x
def rK0 (ns : List Int) (at_ : Nat) : Str := kinds6.getD (nu ns at_ % 6).toNat ⟨#[]⟩
def rF0 (kind : Str) (rights sole : List Str) : List Str := if kind = "claim" ∨ kind = "give" then shd rights sole else if kind = "pass" then sole else rights
def rK1 (ns : List Int) (at_ : Nat) (rights sole : List Str) : Str := if (rF0 (rK0 ns at_) rights sole).length = 0 then ([("drop" : Str), "take"] : List Str).getD (nu ns (at_ + 1) % 2).toNat ⟨#[]⟩ else rK0 ns at_
def rF1 (ns : List Int) (at_ : Nat) (rights sole : List Str) : List Str := if (rF0 (rK0 ns at_) rights sole).length = 0 then rights else rF0 (rK0 ns at_) rights sole
def rRt (ns : List Int) (at_ : Nat) (fit : List Str) : Str := fit.getD (nu ns (at_ + 2) % (fit.length : Int)).toNat ⟨#[]⟩
def lawRule (ns : List Int) (at_ : Nat) (name : Str) (rights sole : List Str) : Ru :=
  if rK0 ns at_ = "join" then ⟨rK0 ns at_, name, [lawSome (shd rights sole) (nu ns (at_ + 1)) []], none⟩ else
    let kind := rK1 ns at_ rights sole
    let right := rRt ns at_ (rF1 ns at_ rights sole)
    let first := lawSome rights (nu ns (at_ + 3)) [right]
    let second := lawSome rights (nu ns (at_ + 4)) [right]
    let lacks := lawSome rights (nu ns (at_ + 5)) (right :: second)
    if kind = "claim" ∨ kind = "drop" then ⟨kind, name, [second, lacks], some right⟩ else
      ⟨kind, name, [if ¬ kind = "pass" ∧ nu ns (at_ + 1) % 3 = 1 then first ++ [right] else first, second, lacks], some right⟩
/-- an if behind which slots and heap keep I -/
theorem rd_ifBH {b : Bool} {c : TT} {t rest : TS} {D : Ends} {σ : L2.St} {H : Hp} (I : L2.St → Hp → Prop) (hc : ∀ R : Bool → Hp → Prop, (∀ H1, Sm H H1 → R b H1) → c σ H R) (hT : (∀ σ' H', I σ' H' → rest D σ' H') → b = true → ∀ H1, Sm H H1 → t { D with nx := rest D } σ H1) (hF : b = false → ∀ H1, Sm H H1 → I σ H1) (hR : ∀ σ' H', I σ' H' → rest D σ' H') :
    tSeq (tIfS c t tNext) rest D σ H := by
  refine hc _ fun H1 s1 => ?_
  cases b with
  | true => exact ifT rfl (hT hR rfl H1 s1)
  | false => exact ifF rfl (hR σ H1 (hF rfl H1 s1))
theorem eqS (x y : Str) : decide (V.str x = V.str y) = decide (x = y) := decide_eq_decide.mpr ⟨V.str.inj, congrArg _⟩
theorem eqI (x y : Int) : decide (V.int x = V.int y) = decide (x = y) := decide_eq_decide.mpr ⟨V.int.inj, congrArg _⟩
section
variable {P : Program} {w : World} {K : PySem.W.Frag} {mg : Str → Option Value} {base : Heap}
def spRule (K : PySem.W.Frag) : Sp := fun vs H Q _ => ∃ (p a b : Addr) (ns : List Int) (at_ : Nat) (name : Str) (rights sole : List Str), vs = [.ref p, .int at_, .str name, .ref a, .ref b] ∧ SqL K H p (ns.map V.int) ∧ ns.length = 120 ∧ (∀ n ∈ ns, In9 n) ∧ at_ + 6 ≤ 120 ∧
  SqL K H a (rights.map V.str) ∧ SqL K H b (sole.map V.str) ∧ rights.length ≤ 6 ∧ 0 < rights.length ∧ sole.length ≤ 6 ∧ ∀ H' u, Sm H H' → RuF (fun a => H a = none) H' u (lawRule ns at_ name rights sole) → Q u H'
abbrev Nrl : List Str := ["numbers", "at", "name", "rights", "sole", "kind", "shared", "fit", "right", "first", "second", "lacks"]
theorem sc_rule : FnScope Nrl ["numbers", "at", "name", "rights", "sole"] (defScope s_law_rule) := ⟨rfl, rfl, rfl, by decide +kernel, rfl, by decide +kernel, by decide +kernel⟩
def stR (p : Addr) (at_ : Nat) (name : Str) (a b : Addr) (kind : Str) (c : Addr) (fit right first second lacks : Option V) : L2.St := [some (.ref p), some (.int at_), some (.str name), some (.ref a), some (.ref b), some (.str kind), some (.ref c), fit, right, first, second, lacks]
theorem ok_rule (T : Tx w K mg base) : ∃ fd, FnOk P w K mg base CX0 2 (He.ga K "_law_rule") fd ["numbers", "at", "name", "rights", "sole"] (spRule K) ∧ Binds K fd ["numbers", "at", "name", "rights", "sole"] [] ∧ PySem.W.keepIn K (.ref (He.ga K "_law_rule")) = true := by
  obtain ⟨fd, F⟩ := T.F__law_rule
  obtain ⟨fdS, GSm, bS, kS⟩ := ok_some (P := P) T
  refine ⟨fd, okC (k := 1) F (codeOf_at (p := ("_law_rule", none)) F) sc_rule (fun vs H Q E h => ?_) (fun A outer s H vs Q E hr h => ?_), F.bindsN (ps := ["numbers", "at", "name", "rights", "sole"]) fun _ _ _ _ _ _ us hl => match us, hl with | [_, _, _, _, _], _ => rfl, F.kp⟩
  · obtain ⟨_, _, _, _, _, _, _, _, rfl, _⟩ := h
    rfl
  · obtain ⟨p, a, b, ns, at_, name, rights, sole, rfl, hp, hn, h9, la, ha, hb, lr, lr0, lsl, k⟩ := h
    have nd := sc_rule.nd
    refine ⟨_, PSs.nox (pss_cons (ps_set (i := 5) nd rfl (Or.inl rfl) (pe_ix ix_list (pe_lst (pa_cons pe_str (pa_cons pe_str (pa_cons pe_str (pa_cons pe_str (pa_cons pe_str (pa_cons pe_str pa_nil))))))) (pe_op op_mod (pe_callTy call_int1 (by rfl) T.free_int (by decide +kernel) (pa_cons (pe_ix ix_list (pv 0) (pv 1) (fun _ _ => rfl)) pa_nil)) pe_int) (fun _ _ => rfl)))
      (pss_cons (ps_setLcI (i := 6) (own := [("right", 8)]) (g := gName 8) (tt := tTest (tOp (rIn K true) (tVar 8) (tVar 4))) (te := tVar 8) rfl nd rfl rfl (sw_true rfl rfl rfl (by decide +kernel)) (pi_sq (pv 3)) (blkOk_by (own := [("right", 8)]) (N := Nrl) (sc := defScope s_law_rule) (by decide +kernel))
          (fun _ _ _ _ _ => pg_name (i := 8) nd rfl (Or.inl rfl)) (fun _ _ _ _ _ => pts_one (pt_cmpR op_notIn_seq (pv 8) (pv 4) (by rfl))) (fun _ _ _ _ _ => pv 8))
      (pss_cons (ps_if (pt_cmpR op_eq (pv 5) pe_str (nomark _)) (pss_one (ps_ret (pe_tup (pa_cons (pv 5) (pa_cons (pv 2) (pa_cons (pe_call GSm (hr.mono (by decide)) rfl T.glo__law_some kS bS .nil pass0 (pa_cons (pv 6) (pa_cons (pe_ix ix_list (pv 0) (pe_op op_add (pv 1) pe_int) (fun _ _ => rfl)) (pa_cons (pe_lst pa_nil) pa_nil)))) pa_nil)))))) pss_nil)
      (pss_cons (ps_set (i := 7) nd rfl (Or.inl rfl) (pv 3))
      (pss_cons (ps_if (pt_cmpR op_eq (pv 5) pe_str (nomark _)) (pss_one (ps_set (i := 7) nd rfl (Or.inl rfl) (pv 4))) pss_nil)
      (pss_cons (ps_if (PW.pt (pw_or (pt_cmpR op_eq (pv 5) pe_str (nomark _)) (pw_or1 (pt_cmpR op_eq (pv 5) pe_str (nomark _))))) (pss_one (ps_set (i := 7) nd rfl (Or.inl rfl) (pv 6))) pss_nil)
      (pss_cons (ps_if (pt_cmpR op_eq (pe_callB call_len_seq (by rfl) T.free_len PySem.boot_len (pa_cons (pv 7) pa_nil)) pe_int (nomark _))
          (pss_cons (ps_set (i := 5) nd rfl (Or.inl rfl) (pe_ix ix_list (pe_lst (pa_cons pe_str (pa_cons pe_str pa_nil))) (pe_op op_mod (pe_callTy call_int1 (by rfl) T.free_int (by decide +kernel) (pa_cons (pe_ix ix_list (pv 0) (pe_op op_add (pv 1) pe_int) (fun _ _ => rfl)) pa_nil)) pe_int) (fun _ _ => rfl)))
          (pss_one (ps_set (i := 7) nd rfl (Or.inl rfl) (pv 3)))) pss_nil)
      (pss_cons (ps_set (i := 8) nd rfl (Or.inl rfl) (pe_ix ix_list (pv 7) (pe_op op_mod (pe_callTy call_int1 (by rfl) T.free_int (by decide +kernel) (pa_cons (pe_ix ix_list (pv 0) (pe_op op_add (pv 1) pe_int) (fun _ _ => rfl)) pa_nil)) (pe_callB call_len_seq (by rfl) T.free_len PySem.boot_len (pa_cons (pv 7) pa_nil))) (fun _ _ => rfl)))
      (pss_cons (ps_set (i := 9) nd rfl (Or.inl rfl) (pe_call GSm (hr.mono (by decide)) rfl T.glo__law_some kS bS .nil pass0 (pa_cons (pv 3) (pa_cons (pe_ix ix_list (pv 0) (pe_op op_add (pv 1) pe_int) (fun _ _ => rfl)) (pa_cons (pe_lst (pa_cons (pv 8) pa_nil)) pa_nil)))))
      (pss_cons (ps_set (i := 10) nd rfl (Or.inl rfl) (pe_call GSm (hr.mono (by decide)) rfl T.glo__law_some kS bS .nil pass0 (pa_cons (pv 3) (pa_cons (pe_ix ix_list (pv 0) (pe_op op_add (pv 1) pe_int) (fun _ _ => rfl)) (pa_cons (pe_lst (pa_cons (pv 8) pa_nil)) pa_nil)))))
      (pss_cons (ps_set (i := 11) nd rfl (Or.inl rfl) (pe_call GSm (hr.mono (by decide)) rfl T.glo__law_some kS bS .nil pass0 (pa_cons (pv 3) (pa_cons (pe_ix ix_list (pv 0) (pe_op op_add (pv 1) pe_int) (fun _ _ => rfl)) (pa_cons (pe_op op_cat (pe_lst (pa_cons (pv 8) pa_nil)) (pv 10)) pa_nil)))))
      (pss_cons (ps_if (PW.pt (pw_or (pt_cmpR op_eq (pv 5) pe_str (nomark _)) (pw_or1 (pt_cmpR op_eq (pv 5) pe_str (nomark _))))) (pss_one (ps_ret (pe_tup (pa_cons (pv 5) (pa_cons (pv 2) (pa_cons (pv 10) (pa_cons (pv 11) (pa_cons (pv 8) pa_nil)))))))) pss_nil)
      (pss_cons (ps_if (PW.pt (pw_and (pt_cmpR op_ne (pv 5) pe_str (nomark _)) (pw_and1 (pt_cmpR op_eq (pe_op op_mod (pe_callTy call_int1 (by rfl) T.free_int (by decide +kernel) (pa_cons (pe_ix ix_list (pv 0) (pe_op op_add (pv 1) pe_int) (fun _ _ => rfl)) pa_nil)) pe_int) pe_int (nomark _))))) (pss_one (ps_set (i := 9) nd rfl (Or.inl rfl) (pe_op op_cat (pv 9) (pe_lst (pa_cons (pv 8) pa_nil))))) pss_nil)
      (pss_one (ps_ret (pe_tup (pa_cons (pv 5) (pa_cons (pv 2) (pa_cons (pv 9) (pa_cons (pv 10) (pa_cons (pv 11) (pa_cons (pv 8) pa_nil)))))))))))))))))))))), ?_⟩
    have n9 := nu_in9 h9
    have x1 := Int.emod_nonneg (nu ns at_) (by decide : (6 : Int) ≠ 0)
    have x2 := Int.emod_lt_of_pos (nu ns at_) (by decide : (0 : Int) < 6)
    refine ⟨by show 6 ≤ sizeLine; decide, fun d hd => ⟨_, rfl, _, rfl, nu_at ((Sm.new hd).lst hp) (j := at_) rfl (by omega) (.inl ⟨_, rfl, _, _, rfl, rfl, (by show (0 : Int) < 6; decide), st_at (ss := kinds6) (j := (nu ns at_ % 6).toNat) (SqL.of upd_same) (by omega) (by show _ < 6; omega) ?_⟩)⟩⟩
    have s1 : Sm H (upd H d (.lst [.str "join", .str "claim", .str "drop", .str "give", .str "take", .str "pass"])) := Sm.new hd
    dsimp only [gName]
    generalize upd H d (.lst [.str "join", .str "claim", .str "drop", .str "give", .str "take", .str "pass"]) = H1 at s1 ⊢
    refine rd_lc (K := K) (a := a) (xs := rights.map V.str) (p := fun v => match v with | .str t => !sole.contains t | _ => false) (f := fun v => v) (.inl (s1.lst ha)) (by rw [List.length_map]; unfold sizeLine; omega) (fun x H' R hx s2 hR => ?_) (fun x H' R hx _ s2 hR => ⟨x, rfl, hR H' Sm.refl⟩) (fun c H2 hc s2 h2 => ?_) (fun R hR => ⟨_, rfl, hR⟩)
    · obtain ⟨t, ht, rfl⟩ := List.mem_map.mp hx
      exact ⟨_, rfl, _, rfl, niT (.inl ((s1.trans s2).lst hb)) ⟨_, rfl, hR H' Sm.refl⟩⟩
    have ec : (((rights.map V.str).filter fun v => match v with | .str t => !sole.contains t | _ => false).map fun v => v) = (shd rights sole).map V.str := by
      rw [List.map_id']
      unfold shd
      rw [List.filter_map]
      rfl
    rw [ec] at h2
    have s12 := s1.trans s2
    have lsh : (shd rights sole).length ≤ 6 := Nat.le_trans (List.length_filter_le ..) lr
    dsimp only [gName]
    show tSeq _ _ _ (stR p at_ name a b (rK0 ns at_) c none none none none none) H2
    refine rd_ifN (decide (rK0 ns at_ = "join")) (fun R hR => ⟨_, rfl, rfl, _, rfl, by rw [eqS]; exact hR H2 Sm.refl⟩) (fun e H3 s3 => ?_) (fun e H3 s3 => ?_)
    · have e := of_decide_eq_true e
      have s13 := s12.trans s3
      refine ⟨_, rfl, _, rfl, _, rfl, _, rfl, _, rfl, _, _, rfl, rfl, nu_at (s13.lst hp) (j := at_ + 1) (by omega) (by omega) ⟨Nat.zero_le _, fun w hw => ?_⟩⟩
      have sw := Sm.new (o := .lst []) hw
      refine ⟨c, w, shd rights sole, [], _, rfl, (s3.trans sw).lst (SqL.of h2), SqL.of upd_same, n9 _, lsh, fun H4 q hq s4 h4 => ⟨by show 3 ≤ sizeLine; decide, fun z hz => k _ _ (((s13.trans sw).trans s4).trans (Sm.new hz)) ?_⟩⟩
      have er : lawRule ns at_ name rights sole = ⟨rK0 ns at_, name, [lawSome (shd rights sole) (nu ns (at_ + 1)) []], none⟩ := by
        unfold lawRule
        rw [if_pos e]
      rw [er]
      exact ⟨z, [.ref q], rfl, upd_same, .cons ⟨q, rfl, (s13.trans sw).fr _ hq, (Sm.new hz).st _ _ h4 fun _ z => by cases z⟩ .nil⟩
    have ej : ¬ rK0 ns at_ = "join" := of_decide_eq_false e
    have s13 := s12.trans s3
    have h3 := s3.st _ _ h2 fun _ z => by cases z
    refine ⟨_, rfl, ?_⟩
    dsimp only [gName]
    show tSeq _ _ _ (stR p at_ name a b (rK0 ns at_) c (some (.ref a)) none none none none) H3
    refine rd_ifBk (b := decide (rK0 ns at_ = "pass")) (fun σ' => σ' = stR p at_ name a b (rK0 ns at_) c (some (.ref (if rK0 ns at_ = "pass" then b else a))) none none none none) (fun R hR => ⟨_, rfl, rfl, _, rfl, by rw [eqS]; exact hR⟩) (fun J e => ⟨_, rfl, J _ ?_⟩) (fun e => ?_) (fun σ' h => ?_)
    · rw [if_pos (of_decide_eq_true e)]; rfl
    · rw [if_neg (of_decide_eq_false e)]
    subst h
    refine rd_ifBk (b := decide (rK0 ns at_ = "claim") || decide (rK0 ns at_ = "give")) (fun σ' => σ' = stR p at_ name a b (rK0 ns at_) c (some (.ref (if rK0 ns at_ = "claim" ∨ rK0 ns at_ = "give" then c else if rK0 ns at_ = "pass" then b else a))) none none none none) (fun R hR => ?_) (fun J e => ⟨_, rfl, J _ ?_⟩) (fun e => ?_) (fun σ' h => ?_)
    · refine ⟨_, rfl, rfl, _, rfl, ?_⟩
      rw [eqS]
      cases c1 : decide (rK0 ns at_ = "claim") with
      | true => rw [c1] at hR; exact ifT rfl hR
      | false =>
        rw [c1] at hR
        refine ifF rfl ⟨_, rfl, rfl, _, rfl, ?_⟩
        rw [eqS]
        exact hR
    · have e : rK0 ns at_ = "claim" ∨ rK0 ns at_ = "give" := by simpa using e
      rw [if_pos e]; rfl
    · have e : ¬ (rK0 ns at_ = "claim" ∨ rK0 ns at_ = "give") := by simpa using e
      rw [if_neg e]
    subst h
    have hfa : SqL K H3 (if rK0 ns at_ = "claim" ∨ rK0 ns at_ = "give" then c else if rK0 ns at_ = "pass" then b else a) ((rF0 (rK0 ns at_) rights sole).map V.str) := by
      unfold rF0
      split
      · exact SqL.of h3
      · split
        · exact s13.lst hb
        · exact s13.lst ha
    generalize (if rK0 ns at_ = "claim" ∨ rK0 ns at_ = "give" then c else if rK0 ns at_ = "pass" then b else a) = fa at hfa ⊢
    have l0 : (rF0 (rK0 ns at_) rights sole).length ≤ 6 := by
      unfold rF0
      split
      · exact lsh
      · split
        · exact lsl
        · exact lr
    refine rd_ifBH (b := decide ((rF0 (rK0 ns at_) rights sole).length = 0)) (fun σ' H' => ∃ fa, σ' = stR p at_ name a b (rK1 ns at_ rights sole) c (some (.ref fa)) none none none none ∧ Sm H H' ∧ SqL K H' fa ((rF1 ns at_ rights sole).map V.str)) (fun R hR => ?_) (fun J e H4 s4 => ?_) (fun e H4 s4 => ?_) (fun σ' H4 h => ?_)
    · refine ⟨_, rfl, fa, _, rfl, .inl hfa, rfl, _, rfl, ?_⟩
      rw [List.length_map, eqI]
      have e : decide (((rF0 (rK0 ns at_) rights sole).length : Int) = 0) = decide ((rF0 (rK0 ns at_) rights sole).length = 0) := decide_eq_decide.mpr (by omega)
      rw [e]
      exact hR H3 Sm.refl
    · have e := of_decide_eq_true e
      have y1 := Int.emod_nonneg (nu ns (at_ + 1)) (by decide : (2 : Int) ≠ 0)
      have y2 := Int.emod_lt_of_pos (nu ns (at_ + 1)) (by decide : (0 : Int) < 2)
      refine ⟨by show 2 ≤ sizeLine; decide, fun d hd => ⟨_, rfl, _, rfl, _, _, rfl, rfl, nu_at ((s13.trans (s4.trans (Sm.new hd))).lst hp) (j := at_ + 1) (by omega) (by omega) (.inl ⟨_, rfl, _, _, rfl, rfl, (by show (0 : Int) < 2; decide), st_at (ss := ["drop", "take"]) (j := (nu ns (at_ + 1) % 2).toNat) (SqL.of upd_same) (by omega) (by show _ < 2; omega) ⟨_, rfl, J _ _ ⟨a, ?_, s13.trans (s4.trans (Sm.new hd)), ?_⟩⟩⟩)⟩⟩
      · unfold rK1
        rw [if_pos e]
        rfl
      · unfold rF1
        rw [if_pos e]
        exact (s13.trans (s4.trans (Sm.new hd))).lst ha
    · have e := of_decide_eq_false e
      refine ⟨fa, ?_, s13.trans s4, ?_⟩
      · unfold rK1
        rw [if_neg e]
      · unfold rF1
        rw [if_neg e]
        exact s4.lst hfa
    obtain ⟨fa, rfl, s14, hf1⟩ := h
    have lf : 0 < (rF1 ns at_ rights sole).length := by
      unfold rF1
      split <;> omega
    have lf6 : (rF1 ns at_ rights sole).length ≤ 6 := by
      unfold rF1
      split
      · exact lr
      · exact l0
    have w1 := Int.emod_nonneg (nu ns (at_ + 2)) (by omega : ((rF1 ns at_ rights sole).length : Int) ≠ 0)
    have w2 := Int.emod_lt_of_pos (nu ns (at_ + 2)) (by omega : (0 : Int) < ((rF1 ns at_ rights sole).length : Int))
    have er : lawRule ns at_ name rights sole = if rK1 ns at_ rights sole = "claim" ∨ rK1 ns at_ rights sole = "drop" then ⟨rK1 ns at_ rights sole, name, [lawSome rights (nu ns (at_ + 4)) [rRt ns at_ (rF1 ns at_ rights sole)], lawSome rights (nu ns (at_ + 5)) (rRt ns at_ (rF1 ns at_ rights sole) :: lawSome rights (nu ns (at_ + 4)) [rRt ns at_ (rF1 ns at_ rights sole)])], some (rRt ns at_ (rF1 ns at_ rights sole))⟩ else
      ⟨rK1 ns at_ rights sole, name, [if ¬ rK1 ns at_ rights sole = "pass" ∧ nu ns (at_ + 1) % 3 = 1 then lawSome rights (nu ns (at_ + 3)) [rRt ns at_ (rF1 ns at_ rights sole)] ++ [rRt ns at_ (rF1 ns at_ rights sole)] else lawSome rights (nu ns (at_ + 3)) [rRt ns at_ (rF1 ns at_ rights sole)],
        lawSome rights (nu ns (at_ + 4)) [rRt ns at_ (rF1 ns at_ rights sole)], lawSome rights (nu ns (at_ + 5)) (rRt ns at_ (rF1 ns at_ rights sole) :: lawSome rights (nu ns (at_ + 4)) [rRt ns at_ (rF1 ns at_ rights sole)])], some (rRt ns at_ (rF1 ns at_ rights sole))⟩ := by
      unfold lawRule
      rw [if_neg ej]
    refine ⟨_, rfl, _, rfl, _, rfl, _, _, rfl, rfl, nu_at (s14.lst hp) (j := at_ + 2) (by omega) (by omega) (.inl ⟨_, rfl, _, rfl, fa, _, rfl, .inl hf1, _, _, rfl, rfl, (by rw [List.length_map]; show (0 : Int) < _; omega), st_at (j := (nu ns (at_ + 2) % ((rF1 ns at_ rights sole).length : Int)).toNat) hf1 (by rw [List.length_map]; omega) (by omega) ?_⟩)⟩
    dsimp only [gName]
    show tSeq _ _ _ (stR p at_ name a b (rK1 ns at_ rights sole) c (some (.ref fa)) (some (.str (rRt ns at_ (rF1 ns at_ rights sole)))) none none none) H4
    generalize rK1 ns at_ rights sole = kind at er ⊢
    generalize rRt ns at_ (rF1 ns at_ rights sole) = right at er ⊢
    -- the first list
    refine ⟨_, rfl, _, rfl, _, rfl, _, _, rfl, rfl, nu_at (s14.lst hp) (j := at_ + 3) (by omega) (by omega) ⟨_, rfl, by show 1 ≤ sizeLine; decide, fun v1 hv1 => ?_⟩⟩
    have t1 := Sm.new (o := .lst [.str right]) hv1
    refine ⟨a, v1, rights, [right], _, rfl, (s14.trans t1).lst ha, SqL.of upd_same, n9 _, lr, fun H5 q1 hq1 s5 h5 => ?_⟩
    have s15 := (s14.trans t1).trans s5
    -- the second
    refine ⟨_, rfl, _, rfl, _, rfl, _, _, rfl, rfl, nu_at (s15.lst hp) (j := at_ + 4) (by omega) (by omega) ⟨_, rfl, by show 1 ≤ sizeLine; decide, fun v2 hv2 => ?_⟩⟩
    have t2 := Sm.new (o := .lst [.str right]) hv2
    refine ⟨a, v2, rights, [right], _, rfl, (s15.trans t2).lst ha, SqL.of upd_same, n9 _, lr, fun H6 q2 hq2 s6 h6 => ?_⟩
    have s56 := t2.trans s6
    have s16 := s15.trans s56
    -- the third
    refine ⟨_, rfl, _, rfl, _, rfl, _, _, rfl, rfl, nu_at (s16.lst hp) (j := at_ + 5) (by omega) (by omega) ⟨_, rfl, by show 1 ≤ sizeLine; decide, fun v3 hv3 => ⟨_, rfl, ?_⟩⟩⟩
    have t3 := Sm.new (o := .lst [.str right]) hv3
    have l2 := some_len rights (nu ns (at_ + 4)) [right]
    refine ⟨v3, q2, _, _, rfl, rfl, upd_same, t3.st _ _ h6 (fun _ z => by cases z), by rw [List.length_map]; show 1 + _ ≤ sizeLine; unfold sizeLine; omega, fun v4 hv4 => ?_⟩
    have t4 := Sm.new (o := .lst ([V.str right] ++ (lawSome rights (nu ns (at_ + 4)) [right]).map V.str)) hv4
    refine ⟨a, v4, rights, right :: lawSome rights (nu ns (at_ + 4)) [right], _, rfl, ((s16.trans t3).trans t4).lst ha, SqL.of upd_same, n9 _, lr, fun H7 q3 hq3 s7 h7 => ?_⟩
    have s67 := (t3.trans t4).trans s7
    have s17 := s16.trans s67
    dsimp only [gName]
    show tSeq _ _ _ (stR p at_ name a b kind c (some (.ref fa)) (some (.str right)) (some (.ref q1)) (some (.ref q2)) (some (.ref q3))) H7
    have g1 := (s56.trans s67).st _ _ h5 fun _ z => by cases z
    have g2 := s67.st _ _ h6 fun _ z => by cases z
    refine rd_ifN (decide (kind = "claim") || decide (kind = "drop")) (fun R hR => ?_) (fun e H8 s8 => ?_) (fun e H8 s8 => ?_)
    · refine ⟨_, rfl, rfl, _, rfl, ?_⟩
      rw [eqS]
      cases c1 : decide (kind = "claim") with
      | true => rw [c1] at hR; exact ifT rfl (hR H7 Sm.refl)
      | false =>
        rw [c1] at hR
        refine ifF rfl ⟨_, rfl, rfl, _, rfl, ?_⟩
        rw [eqS]
        exact hR H7 Sm.refl
    · have e : kind = "claim" ∨ kind = "drop" := by simpa using e
      rw [if_pos e] at er
      refine ⟨_, rfl, _, rfl, _, rfl, _, rfl, _, rfl, by show 5 ≤ sizeLine; decide, fun z hz => k _ _ ((s17.trans s8).trans (Sm.new hz)) ?_⟩
      rw [er]
      have u := s8.trans (Sm.new (o := .tup [.str kind, .str name, .ref q2, .ref q3, .str right]) hz)
      exact ⟨z, [.ref q2, .ref q3], rfl, upd_same, .cons ⟨q2, rfl, (s15.trans t2).fr _ hq2, u.st _ _ g2 fun _ z => by cases z⟩ (.cons ⟨q3, rfl, ((s16.trans t3).trans t4).fr _ hq3, u.st _ _ h7 fun _ z => by cases z⟩ .nil)⟩
    have e : ¬ (kind = "claim" ∨ kind = "drop") := by simpa using e
    rw [if_neg e] at er
    have g1' := s8.st _ _ g1 fun _ z => by cases z
    refine rd_ifBH (b := decide (¬ kind = "pass") && decide (nu ns (at_ + 1) % 3 = 1)) (fun σ' H' => ∃ q1, σ' = stR p at_ name a b kind c (some (.ref fa)) (some (.str right)) (some (.ref q1)) (some (.ref q2)) (some (.ref q3)) ∧ Sm H8 H' ∧ H q1 = none ∧ H' q1 = some (.lst ((if ¬ kind = "pass" ∧ nu ns (at_ + 1) % 3 = 1 then lawSome rights (nu ns (at_ + 3)) [right] ++ [right] else lawSome rights (nu ns (at_ + 3)) [right]).map V.str)))
      (fun R hR => ?_) (fun J e H9 s9 => ?_) (fun e H9 s9 => ?_) (fun σ' H9 h => ?_)
    · refine ⟨_, rfl, rfl, _, rfl, ?_⟩
      rw [eqS]
      cases c1 : !decide (kind = "pass") with
      | false =>
        have c2 : decide (¬ kind = "pass") = false := by rw [decide_not]; exact c1
        rw [c2] at hR
        exact ifF rfl (hR H8 Sm.refl)
      | true =>
        have c2 : decide (¬ kind = "pass") = true := by rw [decide_not]; exact c1
        rw [c2, Bool.true_and] at hR
        refine ifT rfl ⟨_, rfl, _, rfl, _, _, rfl, rfl, nu_at ((s17.trans s8).lst hp) (j := at_ + 1) (by omega) (by omega) (.inl ⟨_, rfl, _, _, rfl, rfl, (by show (0 : Int) < 3; decide), rfl, _, rfl, ?_⟩)⟩
        rw [eqI]
        exact hR H8 Sm.refl
    · have e : ¬ kind = "pass" ∧ nu ns (at_ + 1) % 3 = 1 := by simpa using e
      refine ⟨_, rfl, _, rfl, by show 1 ≤ sizeLine; decide, fun v5 hv5 => ?_⟩
      have t5 := Sm.new (o := .lst [.str right]) hv5
      have l1 := some_len rights (nu ns (at_ + 3)) [right]
      refine ⟨q1, v5, _, _, rfl, rfl, (s9.trans t5).st _ _ g1' (fun _ z => by cases z), upd_same, by rw [List.length_map]; show _ + 1 ≤ sizeLine; unfold sizeLine; omega, fun v6 hv6 => J _ _ ⟨v6, rfl, (s9.trans t5).trans (Sm.new hv6), (((s17.trans s8).trans s9).trans t5).fr _ hv6, ?_⟩⟩
      rw [if_pos e, upd_same, List.map_append]
      rfl
    · have e : ¬ (¬ kind = "pass" ∧ nu ns (at_ + 1) % 3 = 1) := by
        intro z
        have : (decide (¬ kind = "pass") && decide (nu ns (at_ + 1) % 3 = 1)) = true := by rw [decide_eq_true z.1, decide_eq_true z.2]; rfl
        rw [e] at this
        cases this
      refine ⟨q1, rfl, s9, (s14.trans t1).fr _ hq1, ?_⟩
      rw [if_neg e]
      exact s9.st _ _ g1' fun _ z => by cases z
    obtain ⟨q1, rfl, s9, f1, h9'⟩ := h
    refine ⟨_, rfl, _, rfl, _, rfl, _, rfl, _, rfl, _, rfl, by show 6 ≤ sizeLine; decide, fun z hz => k _ _ (((s17.trans s8).trans s9).trans (Sm.new hz)) ?_⟩
    rw [er]
    have u := Sm.new (o := .tup [.str kind, .str name, .ref q1, .ref q2, .ref q3, .str right]) hz
    have u2 := (s8.trans s9).trans u
    exact ⟨z, [.ref q1, .ref q2, .ref q3], rfl, upd_same, .cons ⟨q1, rfl, f1, u.st _ _ h9' fun _ z => by cases z⟩ (.cons ⟨q2, rfl, (s15.trans t2).fr _ hq2, u2.st _ _ g2 fun _ z => by cases z⟩ (.cons ⟨q3, rfl, ((s16.trans t3).trans t4).fr _ hq3, u2.st _ _ h7 fun _ z => by cases z⟩ .nil))⟩
end
end K8

-- part D5
set_option Elab.async false
set_option linter.all false
set_option maxRecDepth 100000
set_option maxHeartbeats 2000000
namespace GD
open PySem PySem.Spec PyProof.Rows L2 GxR GS GA
/-- a comprehension whose values are told by a relation that knows the list that is being made -/
theorem rd_lcRDW {J : It} {G : Hp → Prop} {κ ρ : Type} {F : V → κ → Prop} {us : List V} {ks : List κ} (hp : Paired F us ks) {Rel : Addr → Hp → V → ρ → Prop} {h : κ → ρ} {te : TE} {i : Nat} {σ : L2.St} {H H1 : Hp} {Q : VK} (hz : us.length ≤ sizeLine)
    (mono : ∀ {D : Addr} {H' H'' : Hp} {v : V} {z : ρ}, Sm H' H'' → Rel D H' v z → Rel D H'' v z) (put : ∀ {D : Addr} {H' : Hp} {v : V} {z : ρ} {ws : List V} {o : HO}, H' D = some (.lst ws) → Rel D H' v z → Rel D (upd H' D o) v z)
    (hte : ∀ x y H' (R : VK) D ws, F x y → y ∈ ks → Sm H H' → H D = none → H' D = some (.lst ws) → (∀ v H'', Sm H' H'' → Rel D H'' v (h y) → R v H'') → te ((wipe σ [i]).set i (some x)) H' R)
    (hq : ∀ D H' vs, H D = none → Sm H H' → H' D = some (.lst vs) → Paired (Rel D H') vs (ks.map h) → Q (.ref D) H')
    (s1 : Sm H H1) (w : Walk J us.length G (YAt us)) (hG : ∀ H', Sm H1 H' → G H') : ∀ D, H1 D = none → ∃ W : Nat → Nat → Hp → Prop, (∃ m, W 0 m (upd H1 D (.lst []))) ∧ ∀ k m H, W k m H →
      (J.stop k H ∧ Q (.ref D) H) ∨ (J.go k H ∧ ∃ Nx : Hp → Prop, (∀ H', Nx H' → ∃ m', m' < m ∧ W (k + 1) m' H') ∧ ∀ x H', J.yld k H x H' → gName i x (wipe σ [i]) H' fun σ2 H2 => wipe σ2 [i] = wipe σ [i] ∧ tYes σ2 H2 fun b H3 =>
        if b = true then te σ2 H3 fun y H4 => ∃ acc, H4 D = some (.lst acc) ∧ acc.length < sizeLine ∧ Nx (upd H4 D (.lst (acc ++ [y]))) else Nx H3) := by
  intro D hD
  refine lc_it w (Qd := fun H => Q (.ref D) H) (fun k H' => Sm H1 H' ∧ ∃ vs, H' D = some (.lst vs) ∧ vs.length = k ∧ Paired (Rel D H') vs ((ks.take k).map h)) ⟨Sm.new hD, [], upd_same, rfl, .nil⟩ (fun k H' _ z => hG H' z.1) (fun k x H' H'' hk r y => ?_) fun H' r => ?_
  · obtain ⟨rfl, hx⟩ := y
    obtain ⟨y, hy, hF⟩ := Paired.get hp hx
    have hm := List.mem_of_getElem? hy
    have tk : ks.take (k + 1) = ks.take k ++ [y] := by rw [List.take_add_one, hy]; rfl
    obtain ⟨r1, vs, r2, r3, r4⟩ := r
    refine ⟨wipe_set σ i (some x), ?_⟩
    dsimp only [tYes]
    rw [if_pos rfl]
    refine hte x y H'' _ D vs hF hm (s1.trans r1) (s1.fr D hD) r2 fun v H4 s4 hv => ?_
    have q4 := s4.st D _ r2 fun _ z => by cases z
    refine ⟨vs, q4, by omega, Sm.own (r1.trans s4) hD (fun P t => tabG_ne t q4 fun _ z => by cases z), vs ++ [v], upd_same, by rw [List.length_append, r3]; rfl, ?_⟩
    rw [tk, List.map_append]
    exact Paired.snoc (Paired.imp (fun _ _ z => put q4 (mono s4 z)) r4) (put q4 hv)
  · obtain ⟨r1, vs, r2, r3, r4⟩ := r
    rw [List.take_of_length_le (by rw [Paired.len hp]; exact Nat.le_refl _)] at r4
    exact hq D H' vs (s1.fr D hD) (s1.trans r1) r2 r4
/-- .. over range(n) -/
theorem rd_lcRDN {ρ : Type} {ta : TA} {n : Nat} {Rel : Addr → Hp → V → ρ → Prop} {h : Nat → ρ} {te : TE} {i : Nat} {σ : L2.St} {H : Hp} {Q : VK} (hz : n ≤ 100000) (hta : ∀ R : List V → Hp → Prop, (∀ H1, Sm H H1 → R [.int (n : Int)] H1) → ta σ H R)
    (mono : ∀ {D : Addr} {H' H'' : Hp} {v : V} {z : ρ}, Sm H' H'' → Rel D H' v z → Rel D H'' v z) (put : ∀ {D : Addr} {H' : Hp} {v : V} {z : ρ} {ws : List V} {o : HO}, H' D = some (.lst ws) → Rel D H' v z → Rel D (upd H' D o) v z)
    (hte : ∀ k H' (R : VK) D ws, k < n → Sm H H' → H D = none → H' D = some (.lst ws) → (∀ v H'', Sm H' H'' → Rel D H'' v (h k) → R v H'') → te ((wipe σ [i]).set i (some (.int (k : Int)))) H' R)
    (hq : ∀ D H' vs, H D = none → Sm H H' → H' D = some (.lst vs) → Paired (Rel D H') vs ((List.range n).map h) → Q (.ref D) H') : tLcI (iRng1 ta) (gName i) tYes te [i] σ H Q := by
  unfold tLcI tLc
  refine hta _ fun H1 s1 => ⟨n, rfl, by omega, by omega, ?_⟩
  have e : ((n : Int)).toNat = n := rfl
  rw [e]
  refine rd_lcRDW (G := fun _ => True) (Rel := Rel) (h := h) (pair_range n) (by rw [List.length_map, List.length_range]; unfold sizeLine; omega) mono put (fun x k H' R D ws hF hm s hD hw hR => ?_) hq s1 walk_rng fun _ _ => trivial
  subst hF
  exact hte k H' R D ws (List.mem_range.mp hm) s hD hw hR
/-- .. over a list or a tuple -/
theorem rd_lcRD {κ ρ : Type} {F : V → κ → Prop} {us : List V} {ks : List κ} (hp : Paired F us ks) {K : PySem.W.Frag} {Rel : Addr → Hp → V → ρ → Prop} {h : κ → ρ} {te : TE} {i : Nat} {σ : L2.St} {H : Hp} {Q : VK} (hz : us.length ≤ sizeLine) {tl : TE}
    (htl : ∀ R : VK, (∀ a H1, Sm H H1 → Sq K H1 a us → R (.ref a) H1) → tl σ H R) (mono : ∀ {D : Addr} {H' H'' : Hp} {v : V} {z : ρ}, Sm H' H'' → Rel D H' v z → Rel D H'' v z) (put : ∀ {D : Addr} {H' : Hp} {v : V} {z : ρ} {ws : List V} {o : HO}, H' D = some (.lst ws) → Rel D H' v z → Rel D (upd H' D o) v z)
    (hte : ∀ x y H' (R : VK) D ws, F x y → y ∈ ks → Sm H H' → H D = none → H' D = some (.lst ws) → (∀ v H'', Sm H' H'' → Rel D H'' v (h y) → R v H'') → te ((wipe σ [i]).set i (some x)) H' R)
    (hq : ∀ D H' vs, H D = none → Sm H H' → H' D = some (.lst vs) → Paired (Rel D H') vs (ks.map h) → Q (.ref D) H') : tLcI (iSq K tl) (gName i) tYes te [i] σ H Q := by
  unfold tLcI tLc
  refine htl _ fun a H1 s1 hs => ⟨a, rfl, ?_⟩
  rcases hs with hs | hs
  · exact .inl ⟨⟨us, hs⟩, rd_lcRDW (Rel := Rel) (h := h) hp hz mono put hte hq s1 walk_list fun H' s => s.lst hs⟩
  · exact .inr ⟨⟨us, hs⟩, rd_lcRDW (Rel := Rel) (h := h) hp hz mono put hte hq s1 walk_tup fun H' s => s.tup hs⟩
end GD

-- part D6
set_option Elab.async false
set_option linter.all false
set_option maxRecDepth 100000
set_option maxHeartbeats 2000000
/-! _law_count, _law_parts walked -/
namespace K8
open PySem PySem.Spec PyProof.Rows L2 GxR GS GA GD
def FdF (Fr : Addr → Prop) (H : Hp) (v : V) (f : Str × List Str) : Prop := ∃ p b, v = .ref p ∧ H p = some (.tup [.str f.1, .ref b]) ∧ Fr b ∧ H b = some (.lst (f.2.map V.str))
theorem FdF.mono {Fr : Addr → Prop} {H H' : Hp} {v : V} {f : Str × List Str} (s : Sm H H') (h : FdF Fr H v f) : FdF Fr H' v f := let ⟨p, b, e, h1, f1, h2⟩ := h; ⟨p, b, e, s.st _ _ h1 (fun _ z => by cases z), f1, s.st _ _ h2 fun _ z => by cases z⟩
theorem FdF.imp {Fr Gr : Addr → Prop} {H : Hp} {v : V} {f : Str × List Str} (g : ∀ a, Fr a → Gr a) (h : FdF Fr H v f) : FdF Gr H v f := let ⟨p, b, e, h1, f1, h2⟩ := h; ⟨p, b, e, h1, g b f1, h2⟩
theorem FdF.put {Fr : Addr → Prop} {H : Hp} {v : V} {f : Str × List Str} {D : Addr} {us : List V} {o : HO} (g : ∀ a, Fr a → a ≠ D) (hD : H D = some (.lst us)) (h : FdF Fr H v f) : FdF Fr (upd H D o) v f := by
  obtain ⟨p, b, e, h1, f1, h2⟩ := h
  refine ⟨p, b, e, ?_, f1, by rw [upd_ne (g b f1)]; exact h2⟩
  rw [upd_ne (fun z => by rw [z, hD] at h1; cases h1)]
  exact h1
theorem FdF.at_ {Fr : Addr → Prop} {K : PySem.W.Frag} {H : Hp} {v : V} {f : Str × List Str} (h : FdF Fr H v f) : FdAt K H v f := let ⟨p, b, e, h1, _, h2⟩ := h; ⟨p, b, e, SqT.of h1, .inl (SqL.of h2)⟩
def lawCount (n : Int) (l m : Nat) : Nat := if n % 5 = 0 then l else if n % 5 = 1 then m else l + (n / 5 % ((m : Int) - l + 1)).toNat
theorem count_in {n : Int} {l m : Nat} (h : l ≤ m) : l ≤ lawCount n l m ∧ lawCount n l m ≤ m := by
  unfold lawCount
  split
  · omega
  · split
    · omega
    · have h1 := Int.emod_nonneg (n / 5) (by omega : ((m : Int) - l + 1) ≠ 0)
      have h2 := Int.emod_lt_of_pos (n / 5) (by omega : (0 : Int) < (m : Int) - l + 1)
      omega
structure Pa where
  rights : List Str
  sole : List Str
  founders : List (Str × List Str)
  rules : List Ru
def lawFd (ns : List Int) (rights sole persons : List Str) : Nat → List Str × List (Str × List Str)
  | 0 => ([], [])
  | k + 1 => ((lawFd ns rights sole persons k).1 ++ (lawSome rights (nu ns (15 + k)) (lawFd ns rights sole persons k).1).filter fun x => sole.contains x, (lawFd ns rights sole persons k).2 ++ [(persons.getD k ⟨#[]⟩, lawSome rights (nu ns (15 + k)) (lawFd ns rights sole persons k).1)])
def paR (ns : List Int) : List Str := lawNames ns 0 (lawCount (nu ns 6) 1 6)
def paS (ns : List Int) : List Str := lawSome (paR ns) (nu ns 7) []
def paP (ns : List Int) : List Str := lawNames ns 8 (lawCount (nu ns 14) 0 5)
def paN (ns : List Int) : List Str := lawNames ns 20 (lawCount (nu ns 26) 0 12)
def lawParts (ns : List Int) : Pa := ⟨paR ns, paS ns, (lawFd ns (paR ns) (paS ns) (paP ns) (paP ns).length).2, (List.range (paN ns).length).map fun k : Nat => lawRule ns (27 + 6 * k) ((paN ns).getD k ⟨#[]⟩) (paR ns) (paS ns)⟩
theorem lawFd_len1 (ns : List Int) (rights sole persons : List Str) (hr : rights.length ≤ 6) : ∀ k, (lawFd ns rights sole persons k).1.length ≤ 6 * k
  | 0 => Nat.zero_le _
  | k + 1 => by
    have h1 := lawFd_len1 ns rights sole persons hr k
    have h2 := some_len rights (nu ns (15 + k)) (lawFd ns rights sole persons k).1
    have h3 := List.length_filter_le (fun x => sole.contains x) (lawSome rights (nu ns (15 + k)) (lawFd ns rights sole persons k).1)
    have e : (lawFd ns rights sole persons (k + 1)).1 = (lawFd ns rights sole persons k).1 ++ (lawSome rights (nu ns (15 + k)) (lawFd ns rights sole persons k).1).filter fun x => sole.contains x := rfl
    rw [e, List.length_append]
    omega
theorem lawFd_len2 (ns : List Int) (rights sole persons : List Str) : ∀ k, (lawFd ns rights sole persons k).2.length = k
  | 0 => rfl
  | k + 1 => by
    have e : (lawFd ns rights sole persons (k + 1)).2 = (lawFd ns rights sole persons k).2 ++ [(persons.getD k ⟨#[]⟩, lawSome rights (nu ns (15 + k)) (lawFd ns rights sole persons k).1)] := rfl
    rw [e, List.length_append, lawFd_len2 ns rights sole persons k]
    rfl
structure PaAt (H : Hp) (q : Addr) (pa : Pa) : Prop where
  at_ : ∃ (a b c d : Addr) (uf ur : List V), H q = some (.tup [.ref a, .ref b, .ref c, .ref d]) ∧ H a = some (.lst (pa.rights.map V.str)) ∧ H b = some (.lst (pa.sole.map V.str)) ∧ H c = some (.lst uf) ∧ Paired (FdF (fun _ => True) H) uf pa.founders ∧ H d = some (.lst ur) ∧ Paired (RuF (fun _ => True) H) ur pa.rules
theorem PaAt.mono {H H' : Hp} {q : Addr} {pa : Pa} (s : Sm H H') (h : PaAt H q pa) : PaAt H' q pa :=
  let ⟨a, b, c, d, uf, ur, h1, h2, h3, h4, h5, h6, h7⟩ := h.at_
  ⟨a, b, c, d, uf, ur, s.st _ _ h1 (fun _ z => by cases z), s.st _ _ h2 (fun _ z => by cases z), s.st _ _ h3 (fun _ z => by cases z), s.st _ _ h4 (fun _ z => by cases z), GD.Paired.imp (fun _ _ z => z.mono s) h5, s.st _ _ h6 (fun _ z => by cases z), GD.Paired.imp (fun _ _ z => z.mono s) h7⟩
section
variable {P : Program} {w : World} {K : PySem.W.Frag} {mg : Str → Option Value} {base : Heap}
def spCount (K : PySem.W.Frag) : Sp := fun vs H Q _ => ∃ (n : Int) (l m : Nat), vs = [.int n, .int l, .int m] ∧ l ≤ m ∧ m ≤ 100 ∧ Q (.int (lawCount n l m : Nat)) H
theorem sc_count : FnScope ["number", "least", "most"] ["number", "least", "most"] (defScope s_law_count) := ⟨rfl, rfl, rfl, by decide +kernel, rfl, by decide +kernel, by decide +kernel⟩
theorem ok_count (T : Tx w K mg base) : ∃ fd, FnOk P w K mg base CX0 1 (He.ga K "_law_count") fd ["number", "least", "most"] (spCount K) ∧ Binds K fd ["number", "least", "most"] [] ∧ PySem.W.keepIn K (.ref (He.ga K "_law_count")) = true := by
  obtain ⟨fd, F⟩ := T.F__law_count
  refine ⟨fd, okC (k := 0) F (codeOf_at (p := ("_law_count", none)) F) sc_count (fun vs H Q E h => ?_) (fun A outer s H vs Q E hr h => ?_), F.bindsN (ps := ["number", "least", "most"]) fun _ _ _ _ _ _ us hl => match us, hl with | [_, _, _], _ => rfl, F.kp⟩
  · obtain ⟨_, _, _, rfl, _⟩ := h
    rfl
  · obtain ⟨n, l, m, rfl, hl, hm, k⟩ := h
    have nd := sc_count.nd
    refine ⟨_, PSs.nox (pss_cons (ps_if (pt_cmpR op_eq (pe_op op_mod (pe_callTy call_int1 (by rfl) T.free_int (by decide +kernel) (pa_cons (pv 0) pa_nil)) pe_int) pe_int (nomark _)) (pss_one (ps_ret (pv 1))) pss_nil)
      (pss_cons (ps_if (pt_cmpR op_eq (pe_op op_mod (pe_callTy call_int1 (by rfl) T.free_int (by decide +kernel) (pa_cons (pv 0) pa_nil)) pe_int) pe_int (nomark _)) (pss_one (ps_ret (pv 2))) pss_nil)
      (pss_one (ps_ret (pe_op op_add (pv 1) (pe_op op_mod (pe_op op_fdiv (pe_callTy call_int1 (by rfl) T.free_int (by decide +kernel) (pa_cons (pv 0) pa_nil)) pe_int) (pe_op op_add (pe_op op_sub (pv 2) (pv 1)) pe_int))))))), ?_⟩
    refine ⟨_, rfl, .inl ⟨_, rfl, _, _, rfl, rfl, (by show (0 : Int) < 5; decide), rfl, _, rfl, ?_⟩⟩
    rw [eqI]
    by_cases c1 : n % 5 = 0
    · refine ifT (decide_eq_true c1) ⟨_, rfl, ?_⟩
      have e : lawCount n l m = l := by unfold lawCount; rw [if_pos c1]
      rw [e] at k
      exact k
    · refine ifF (decide_eq_false c1) ⟨_, rfl, .inl ⟨_, rfl, _, _, rfl, rfl, (by show (0 : Int) < 5; decide), rfl, _, rfl, ?_⟩⟩
      rw [eqI]
      by_cases c2 : n % 5 = 1
      · refine ifT (decide_eq_true c2) ⟨_, rfl, ?_⟩
        have e : lawCount n l m = m := by unfold lawCount; rw [if_neg c1, if_pos c2]
        rw [e] at k
        exact k
      · have h1 := Int.emod_nonneg (n / 5) (by omega : ((m : Int) - l + 1) ≠ 0)
        refine ifF (decide_eq_false c2) ⟨_, rfl, _, rfl, .inl ⟨_, rfl, _, _, rfl, rfl, ⟨by decide, by decide⟩, _, rfl, _, rfl, _, _, rfl, rfl, _, _, rfl, rfl, _, _, rfl, rfl, (by show (0 : Int) < (m : Int) - l + 1; omega), _, _, rfl, rfl, ?_⟩⟩
        have e : ((lawCount n l m : Nat) : Int) = (l : Int) + n / 5 % ((m : Int) - l + 1) := by
          unfold lawCount
          rw [if_neg c1, if_neg c2]
          omega
        rw [e] at k
        exact k
def spParts (K : PySem.W.Frag) : Sp := fun vs H Q _ => ∃ (p : Addr) (ns : List Int), vs = [.ref p] ∧ SqL K H p (ns.map V.int) ∧ ns.length = 120 ∧ (∀ n ∈ ns, In9 n) ∧ ∀ H' q, Sm H H' → PaAt H' q (lawParts ns) → Q (.ref q) H'
abbrev Npa : List Str := ["numbers", "rights", "sole", "persons", "founders", "taken", "k", "held", "names", "rules", "right"]
theorem sc_parts : FnScope Npa ["numbers"] (defScope s_law_parts) := ⟨rfl, rfl, rfl, by decide +kernel, rfl, by decide +kernel, by decide +kernel⟩
theorem ok_parts (T : Tx w K mg base) : ∃ fd, FnOk P w K mg base CX0 3 (He.ga K "_law_parts") fd ["numbers"] (spParts K) ∧ Binds K fd ["numbers"] [] ∧ PySem.W.keepIn K (.ref (He.ga K "_law_parts")) = true := by
  obtain ⟨fd, F⟩ := T.F__law_parts
  obtain ⟨fdN, GN, bN, kN⟩ := ok_names (P := P) T
  obtain ⟨fdS, GSm, bS, kS⟩ := ok_some (P := P) T
  obtain ⟨fdC, GC, bC, kC⟩ := ok_count (P := P) T
  obtain ⟨fdR, GR, bR, kR⟩ := ok_rule (P := P) T
  refine ⟨fd, okC (k := 2) F (codeOf_at (p := ("_law_parts", none)) F) sc_parts (fun vs H Q E h => ?_) (fun A outer s H vs Q E hr h => ?_), F.bindsN (ps := ["numbers"]) fun _ _ _ _ _ _ us hl => match us, hl with | [_], _ => rfl, F.kp⟩
  · obtain ⟨_, _, rfl, _⟩ := h
    rfl
  · obtain ⟨p, ns, rfl, hp, hn, h9, k⟩ := h
    have nd := sc_parts.nd
    refine ⟨_, PSs.nox (pss_cons (ps_set (i := 1) nd rfl (Or.inr rfl) (pe_call GN (hr.mono (by decide)) rfl T.glo__law_names kN bN .nil pass0 (pa_cons (pv 0) (pa_cons pe_int (pa_cons (pe_call GC (hr.mono (by decide)) rfl T.glo__law_count kC bC .nil pass0 (pa_cons (pe_ix ix_list (pv 0) pe_int (fun _ _ => rfl)) (pa_cons pe_int (pa_cons pe_int pa_nil)))) pa_nil)))))
      (pss_cons (ps_set (i := 2) nd rfl (Or.inr rfl) (pe_call GSm (hr.mono (by decide)) rfl T.glo__law_some kS bS .nil pass0 (pa_cons (pv 1) (pa_cons (pe_ix ix_list (pv 0) pe_int (fun _ _ => rfl)) (pa_cons (pe_lst pa_nil) pa_nil)))))
      (pss_cons (ps_set (i := 3) nd rfl (Or.inl rfl) (pe_call GN (hr.mono (by decide)) rfl T.glo__law_names kN bN .nil pass0 (pa_cons (pv 0) (pa_cons pe_int (pa_cons (pe_call GC (hr.mono (by decide)) rfl T.glo__law_count kC bC .nil pass0 (pa_cons (pe_ix ix_list (pv 0) pe_int (fun _ _ => rfl)) (pa_cons pe_int (pa_cons pe_int pa_nil)))) pa_nil)))))
      (pss_cons (ps_set (i := 4) nd rfl (Or.inl rfl) (pe_lst pa_nil))
      (pss_cons (ps_set (i := 5) nd rfl (Or.inl rfl) (pe_lst pa_nil))
      (pss_cons (ps_forI PassesOwn.never rfl (pi_range1 rfl T.free_range (pa_cons (pe_callB call_len_seq (by rfl) T.free_len PySem.boot_len (pa_cons (pv 3) pa_nil)) pa_nil)) (pg_name (i := 6) nd rfl (Or.inl rfl))
        (pss_cons (ps_set (i := 7) nd rfl (Or.inl rfl) (pe_call GSm (hr.mono (by decide)) rfl T.glo__law_some kS bS .nil pass0 (pa_cons (pv 1) (pa_cons (pe_ix ix_list (pv 0) (pe_op op_add pe_int (pv 6)) (fun _ _ => rfl)) (pa_cons (pv 5) pa_nil)))))
        (pss_cons (ps_set (i := 5) nd rfl (Or.inl rfl) (pe_op op_cat (pv 5) (pe_lcI (own := [("right", 10)]) (g := gName 10) (tt := tTest (tOp (rIn K false) (tVar 10) (tVar 2))) (te := tVar 10) rfl nd (pi_sq (pv 7)) (blkOk_by (own := [("right", 10)]) (N := Npa) (sc := defScope s_law_parts) (by decide +kernel))
            (fun _ _ _ _ _ => pg_name (i := 10) nd rfl (Or.inl rfl)) (fun _ _ _ _ _ => pts_one (pt_cmpR op_in_seq (pv 10) (pv 2) (by rfl))) (fun _ _ _ _ _ => pv 10))))
        (pss_one (ps_expr (pe_bm PySem.F.plainAttrs_list PySem.F.slot_list_append PySem.F.type_list_append mt_append (pv 4) (pa_cons (pe_tup (pa_cons (pe_ix ix_list (pv 3) (pv 6) (fun _ _ => rfl)) (pa_cons (pv 7) pa_nil))) pa_nil)))))))
      (pss_cons (ps_set (i := 8) nd rfl (Or.inr rfl) (pe_call GN (hr.mono (by decide)) rfl T.glo__law_names kN bN .nil pass0 (pa_cons (pv 0) (pa_cons pe_int (pa_cons (pe_call GC (hr.mono (by decide)) rfl T.glo__law_count kC bC .nil pass0 (pa_cons (pe_ix ix_list (pv 0) pe_int (fun _ _ => rfl)) (pa_cons pe_int (pa_cons pe_int pa_nil)))) pa_nil)))))
      (pss_cons (ps_setLcI (i := 9) (own := [("k", 6)]) (g := gName 6) (tt := tYes) (te := tCall (spRule K) [] E0 (tCons (tVar 0) (tCons (tOp (rI0 fun i j => .int (i + j)) (tC (.int 27)) (tOp (rI CMul fun i j => .int (i * j)) (tC (.int 6)) (tVar 6))) (tCons (tOp (rIxL K) (tVar 8) (tVar 6)) (tCons (tVar 1) (tCons (tVar 2) tNil)))))) rfl nd rfl rfl (sw_true rfl rfl rfl (by decide +kernel))
          (pi_range1 rfl T.free_range (pa_cons (pe_callB call_len_seq (by rfl) T.free_len PySem.boot_len (pa_cons (pv 8) pa_nil)) pa_nil)) (blkOk_by (own := [("k", 6)]) (N := Npa) (sc := defScope s_law_parts) (by decide +kernel))
          (fun _ _ _ _ _ => pg_name (i := 6) nd rfl (Or.inl rfl)) (fun _ _ _ _ _ => pts_nil) (fun _ _ _ _ _ => pe_call GR (hr.mono (by decide)) rfl T.glo__law_rule kR bR .nil pass0 (pa_cons (pv 0) (pa_cons (pe_op op_add pe_int (pe_op op_mul pe_int (pv 6))) (pa_cons (pe_ix ix_list (pv 8) (pv 6) (fun _ _ => rfl)) (pa_cons (pv 1) (pa_cons (pv 2) pa_nil)))))))
      (pss_one (ps_ret (pe_tup (pa_cons (pv 1) (pa_cons (pv 2) (pa_cons (pv 4) (pa_cons (pv 9) pa_nil))))))))))))))), ?_⟩
    have n9 := nu_in9 h9
    have c6 := count_in (n := nu ns 6) (l := 1) (m := 6) (by decide)
    have c14 := count_in (n := nu ns 14) (l := 0) (m := 5) (by decide)
    have c26 := count_in (n := nu ns 26) (l := 0) (m := 12) (by decide)
    have lR : (paR ns).length ≤ 6 ∧ 1 ≤ (paR ns).length := by unfold paR; rw [lawNames_len]; omega
    have lP : (paP ns).length ≤ 5 := by unfold paP; rw [lawNames_len]; omega
    have lN : (paN ns).length ≤ 12 := by unfold paN; rw [lawNames_len]; omega
    have lS : (paS ns).length ≤ 6 := Nat.le_trans (some_len ..) lR.1
    refine ⟨_, rfl, _, rfl, nu_at hp (j := 6) rfl (by omega) ⟨_, 1, 6, rfl, by decide, by decide, p, ns, 0, _, rfl, hp, hn, h9, by decide, by omega, fun H1 q1 hq1 s1 h1 => ?_⟩⟩
    refine ⟨_, rfl, _, rfl, ?_⟩
    dsimp only [tC]
    refine nu_at (s1.lst hp) (j := 7) rfl (by omega) ?_
    refine ⟨Nat.zero_le _, fun w hw => ?_⟩
    have t1 := Sm.new (o := .lst []) hw
    refine ⟨q1, w, paR ns, [], _, rfl, t1.lst (SqL.of h1), SqL.of upd_same, n9 _, lR.1, fun H2 q2 hq2 s2 h2 => ?_⟩
    have s2 := t1.trans s2
    have s12 := s1.trans s2
    have h1 : H1 q1 = some (.lst ((paR ns).map V.str)) := h1
    have h2 : H2 q2 = some (.lst ((paS ns).map V.str)) := h2
    refine ⟨_, rfl, _, rfl, nu_at (s12.lst hp) (j := 14) rfl (by omega) ⟨_, 0, 5, rfl, by decide, by decide, p, ns, 8, _, rfl, s12.lst hp, hn, h9, by decide, by omega, fun H3 q3 hq3 s3 h3 => ?_⟩⟩
    have s13 := s12.trans s3
    have h3 : H3 q3 = some (.lst ((paP ns).map V.str)) := h3
    have g1 := (s2.trans s3).st _ _ h1 fun _ z => by cases z
    have g2 := s3.st _ _ h2 fun _ z => by cases z
    refine ⟨Nat.zero_le _, fun f hf => ⟨Nat.zero_le _, fun t ht => ?_⟩⟩
    have a1 := Sm.new (o := .lst []) hf
    have a2 := Sm.new (o := .lst []) ht
    have nft : t ≠ f := fun z => by rw [z, upd_same] at ht; cases ht
    have hfe := a2.st _ _ (upd_same (H := H3) (a := f) (o := .lst [])) fun _ z => by cases z
    refine rd_forR (i := 6) (n := (paP ns).length) (by omega) (fun i σ' H' => ∃ (kv hv : Option V) (t : Addr) (us : List V), σ' = [some (.ref p), some (.ref q1), some (.ref q2), some (.ref q3), some (.ref f), some (.ref t), kv, hv, none, none, none] ∧ Sm H3 H' ∧ t ≠ f ∧ H' t = some (.lst ((lawFd ns (paR ns) (paS ns) (paP ns) i).1.map V.str)) ∧
        H' f = some (.lst us) ∧ Paired (FdF (· ≠ f) H') us (lawFd ns (paR ns) (paS ns) (paP ns) i).2)
      ⟨none, none, t, [], rfl, a1.trans a2, nft, upd_same, hfe, .nil⟩ (fun i σ' H' hi q => ?_) (fun σ' H' q => ?_) (fun R hR => ⟨_, rfl, q3, _, rfl, .inl ((a1.trans a2).lst (SqL.of h3)), by rw [List.length_map]; exact hR⟩)
    · obtain ⟨kv, hv, t, us, rfl, s4, nt, e1, e2, e3⟩ := q
      have s14 := s13.trans s4
      have b1 := lawFd_len1 ns (paR ns) (paS ns) (paP ns) lR.1 i
      have b2 := lawFd_len2 ns (paR ns) (paS ns) (paP ns) i
      refine ⟨_, rfl, _, rfl, _, rfl, _, _, rfl, rfl, nu_at (s14.lst hp) (j := 15 + i) (by omega) (by omega) ⟨_, rfl, q1, t, paR ns, _, _, rfl, s4.lst (SqL.of g1), SqL.of e1, n9 _, lR.1, fun H5 q5 hq5 s5 h5 => ?_⟩⟩
      have s45 := s4.trans s5
      have b5 := some_len (paR ns) (nu ns (15 + i)) (lawFd ns (paR ns) (paS ns) (paP ns) i).1
      refine ⟨_, rfl, ?_⟩
      refine rd_lc (K := K) (a := q5) (xs := (lawSome (paR ns) (nu ns (15 + i)) (lawFd ns (paR ns) (paS ns) (paP ns) i).1).map V.str) (p := fun v => match v with | .str t => (paS ns).contains t | _ => false) (f := fun v => v) (.inl (SqL.of h5)) (by rw [List.length_map]; unfold sizeLine; omega) (fun x H' R hx s6 hR => ?_) (fun x H' R hx _ s6 hR => ⟨x, rfl, hR H' Sm.refl⟩) (fun c H6 hc s6 h6 => ?_) (fun R hR => ⟨_, rfl, hR⟩)
      · obtain ⟨t, ht, rfl⟩ := List.mem_map.mp hx
        exact ⟨_, rfl, _, rfl, inT (.inl ((s45.trans s6).lst (SqL.of g2))) ⟨_, rfl, hR H' Sm.refl⟩⟩
      have ec : ((((lawSome (paR ns) (nu ns (15 + i)) (lawFd ns (paR ns) (paS ns) (paP ns) i).1).map V.str).filter fun v => match v with | .str t => (paS ns).contains t | _ => false).map fun v => v) = ((lawSome (paR ns) (nu ns (15 + i)) (lawFd ns (paR ns) (paS ns) (paP ns) i).1).filter fun x => (paS ns).contains x).map V.str := by
        rw [List.map_id', List.filter_map]
        rfl
      rw [ec] at h6
      have s56 := s5.trans s6
      have f6 := List.length_filter_le (fun x => (paS ns).contains x) (lawSome (paR ns) (nu ns (15 + i)) (lawFd ns (paR ns) (paS ns) (paP ns) i).1)
      refine ⟨t, c, _, _, rfl, rfl, s56.st _ _ e1 (fun _ z => by cases z), h6, ?_, fun z hz => ?_⟩
      · rw [List.length_map, List.length_map]
        unfold sizeLine; omega
      have u7 := Sm.new (o := .lst ((lawFd ns (paR ns) (paS ns) (paP ns) i).1.map V.str ++ ((lawSome (paR ns) (nu ns (15 + i)) (lawFd ns (paR ns) (paS ns) (paP ns) i).1).filter fun x => (paS ns).contains x).map V.str)) hz
      have s67 := s56.trans u7
      have e2' := s67.st _ _ e2 fun _ z => by cases z
      have nz : z ≠ f := fun y => by rw [y, s56.st _ _ e2 (fun _ z => by cases z)] at hz; cases hz
      refine ⟨_, rfl, .inl ⟨rfl, _, SqL.of e2'⟩, _, rfl, _, rfl, st_at (j := i) ((s4.trans s67).lst (SqL.of h3)) rfl hi ⟨_, rfl, by show 2 ≤ sizeLine; decide, fun y hy => ?_⟩⟩
      have u8 := Sm.new (o := .tup [.str ((paP ns).getD i ⟨#[]⟩), .ref q5]) hy
      have e2'' := u8.st _ _ e2' fun _ z => by cases z
      have s8 := s67.trans u8
      have le3 := Paired.len e3
      refine ⟨f, us, .ref y, rfl, rfl, e2'', by rw [le3, b2]; unfold sizeLine; omega, some (.int (i : Int)), some (.ref q5), z, us ++ [.ref y], rfl, ?_, nz, ?_, upd_same, ?_⟩
      · exact Sm.own (s4.trans s8) hf fun P tb => tabG_ne tb e2'' fun _ z => by cases z
      · refine (upd_ne nz).trans ((u8.st _ _ upd_same fun _ z => by cases z).trans ?_)
        rw [← List.map_append]
        rfl
      · refine GD.Paired.snoc (GD.Paired.imp (fun _ _ z => (z.mono s8).put (fun _ z => z) e2'') e3) (FdF.put (fun _ z => z) e2'' ⟨y, q5, rfl, upd_same, ?_, ?_⟩)
        · exact fun w => by rw [w, e2] at hq5; cases hq5
        · exact ((s6.trans u7).trans u8).st _ _ h5 fun _ z => by cases z
    · obtain ⟨kv, hv, t, us, rfl, s4, nt, e1, e2, e3⟩ := q
      have s14 := s13.trans s4
      dsimp only
      refine ⟨_, rfl, _, rfl, ?_⟩
      dsimp only [tC]
      refine nu_at (s14.lst hp) (j := 26) rfl (by omega) ?_
      refine ⟨_, 0, 12, rfl, by decide, by decide, p, ns, 20, _, rfl, s14.lst hp, hn, h9, by decide, by omega, fun H5 q5 hq5 s5 h5 => ?_⟩
      have h5 : H5 q5 = some (.lst ((paN ns).map V.str)) := h5
      have s15 := s14.trans s5
      have s45 := s4.trans s5
      refine rd_lcRDN (ρ := Ru) (n := (paN ns).length) (Rel := fun D H v r => RuF (· ≠ D) H v r) (h := fun k : Nat => lawRule ns (27 + 6 * k) ((paN ns).getD k ⟨#[]⟩) (paR ns) (paS ns)) (by omega) (fun R hR => ⟨_, rfl, q5, _, rfl, .inl (SqL.of h5), by rw [List.length_map]; exact hR _ Sm.refl⟩) (fun s z => z.mono s) (fun hD z => z.put (fun _ z => z) hD) (fun i H' R D ws hi s6 hD hw hR => ?_) (fun D H' vs hD s6 h6 hp6 => ?_)
      · have s56 := s5.trans s6
        refine ⟨_, rfl, _, rfl, _, _, rfl, rfl, .inl ⟨by decide, by decide⟩, _, _, rfl, rfl, _, rfl, _, rfl, st_at (j := i) (s6.lst (SqL.of h5)) rfl hi ⟨_, rfl, _, rfl, ?_⟩⟩
        have e : (27 : Int) + 6 * (i : Int) = ((27 + 6 * i : Nat) : Int) := by omega
        refine ⟨p, q1, q2, ns, 27 + 6 * i, _, paR ns, paS ns, by rw [← e]; rfl, (s15.trans s6).lst hp, hn, h9, by omega, (s45.trans s6).lst (SqL.of g1), (s45.trans s6).lst (SqL.of g2), lR.1, lR.2, lS, fun H7 u s7 h7 => hR u H7 s7 (h7.imp fun b hb z => ?_)⟩
        rw [z, hw] at hb
        cases hb
      · dsimp only [gName]
        have s46 := s45.trans s6
        refine ⟨_, rfl, _, rfl, _, rfl, _, rfl, by show 4 ≤ sizeLine; decide, fun z hz => ?_⟩
        have u := Sm.new (o := .tup [.ref q1, .ref q2, .ref f, .ref D]) hz
        have s6u := s6.trans u
        have s5u := s5.trans s6u
        have s4u := s4.trans s5u
        refine k _ z (s13.trans s4u) ⟨q1, q2, f, D, us, vs, upd_same, s4u.st _ _ g1 (fun _ z => by cases z), s4u.st _ _ g2 (fun _ z => by cases z), s5u.st _ _ e2 (fun _ z => by cases z), ?_, u.st _ _ h6 (fun _ z => by cases z), ?_⟩
        · exact GD.Paired.imp (fun _ _ z => (z.mono s5u).imp fun _ _ => trivial) e3
        · exact GD.Paired.imp (fun _ _ z => (z.mono u).imp fun _ _ => trivial) hp6
end
end K8

-- part D7
set_option Elab.async false
set_option linter.all false
set_option maxRecDepth 100000
set_option maxHeartbeats 2000000
/-! what a law draws makes a charter -/
namespace K8
open PySem PySem.Spec PyProof.Rows L2 GxR GS GA GD
def ord (rights l : List Str) : List Str := rights.filter fun x => l.contains x
theorem mem_ord {rights l : List Str} {x : Str} : x ∈ ord rights l ↔ x ∈ rights ∧ x ∈ l := by
  unfold ord
  rw [List.mem_filter]
  simp
theorem listed_ord {rights l : List Str} (hn : l.Nodup) (hm : ∀ x ∈ l, x ∈ rights) : listed rights l = some (ord rights l) := by
  unfold listed
  rw [if_pos]
  · rfl
  · rw [decide_eq_true hn, Bool.true_and, List.all_eq_true]
    intro x hx
    simpa using hm x hx
theorem listAll_ord {rights : List Str} : ∀ {ls : List (List Str)}, (∀ l ∈ ls, l.Nodup ∧ ∀ x ∈ l, x ∈ rights) → listAll rights ls = some (ls.map (ord rights))
  | [], _ => rfl
  | l :: r, h => by
    have h1 := h l (List.mem_cons_self ..)
    have e : listAll rights (l :: r) = (listed rights l).bind fun h => (listAll rights r).map fun t => h :: t := rfl
    rw [e, listed_ord h1.1 h1.2, listAll_ord fun x hx => h x (List.mem_cons_of_mem _ hx)]
    rfl
def frR (rights : List Str) (r : Ru) : Ru := ⟨r.kind, r.name, r.ls.map (ord rights), r.right⟩
theorem not_contains {x : Str} {l : List Str} : l.contains x = false ↔ ¬ x ∈ l := by
  rw [← Bool.not_eq_true, List.contains_iff_mem]
/-- the asked and the lacking list of a drawn rule -/
theorem third_ok {rights second lacks : List Str} {right : Str} (h1 : ¬ right ∈ second) (h2 : ∀ x ∈ lacks, ¬ x = right ∧ ¬ x ∈ second) : (((ord rights second).any fun x => (ord rights lacks).contains x) || ((ord rights second).contains right || (ord rights lacks).contains right)) = false := by
  have e1 : ((ord rights second).any fun x => (ord rights lacks).contains x) = false := by
    rw [List.any_eq_false]
    intro x hx hy
    have hy := List.contains_iff_mem.mp hy
    exact (h2 x (mem_ord.mp hy).2).2 (mem_ord.mp hx).2
  have e2 : (ord rights second).contains right = false := not_contains.mpr fun h => h1 (mem_ord.mp h).2
  have e3 : (ord rights lacks).contains right = false := not_contains.mpr fun h => (h2 right (mem_ord.mp h).2).1 rfl
  rw [e1, e2, e3]
  rfl
theorem lawSome_no {rights : List Str} {n : Int} {wo : List Str} {x : Str} (h : x ∈ lawSome rights n wo) : x ∈ rights ∧ ¬ x ∈ wo := ⟨(some_mem rights n wo x h).1, not_contains.mp (some_mem rights n wo x h).2⟩
theorem rule_cases {ns : List Int} {at_ : Nat} {R S : List Str} (hS : ∀ x ∈ S, x ∈ R) (h0 : 0 < R.length) (hj : ¬ rK0 ns at_ = "join") :
    rRt ns at_ (rF1 ns at_ R S) ∈ R ∧ ((rK1 ns at_ R S = "claim" ∧ ¬ rRt ns at_ (rF1 ns at_ R S) ∈ S) ∨ rK1 ns at_ R S = "drop" ∨ (rK1 ns at_ R S = "give" ∧ ¬ rRt ns at_ (rF1 ns at_ R S) ∈ S) ∨ rK1 ns at_ R S = "take" ∨ (rK1 ns at_ R S = "pass" ∧ rRt ns at_ (rF1 ns at_ R S) ∈ S)) := by
  have pickIn : ∀ fit : List Str, 0 < fit.length → rRt ns at_ fit ∈ fit := fun fit h => by
    have w1 := Int.emod_nonneg (nu ns (at_ + 2)) (by omega : (fit.length : Int) ≠ 0)
    have w2 := Int.emod_lt_of_pos (nu ns (at_ + 2)) (by omega : (0 : Int) < (fit.length : Int))
    unfold rRt
    rw [List.getD_eq_getElem?_getD, List.getElem?_eq_getElem (by omega)]
    exact List.getElem_mem _
  by_cases e : (rF0 (rK0 ns at_) R S).length = 0
  · have e1 : rK1 ns at_ R S = ([("drop" : Str), "take"] : List Str).getD (nu ns (at_ + 1) % 2).toNat ⟨#[]⟩ := by unfold rK1; rw [if_pos e]
    have e2 : rF1 ns at_ R S = R := by unfold rF1; rw [if_pos e]
    rw [e1, e2]
    refine ⟨pickIn R h0, ?_⟩
    have y1 := Int.emod_nonneg (nu ns (at_ + 1)) (by decide : (2 : Int) ≠ 0)
    have y2 := Int.emod_lt_of_pos (nu ns (at_ + 1)) (by decide : (0 : Int) < 2)
    have y3 : (nu ns (at_ + 1) % 2).toNat = 0 ∨ (nu ns (at_ + 1) % 2).toNat = 1 := by omega
    rcases y3 with y | y
    · rw [y]; exact .inr (.inl rfl)
    · rw [y]; exact .inr (.inr (.inr (.inl rfl)))
  · have e1 : rK1 ns at_ R S = rK0 ns at_ := by unfold rK1; rw [if_neg e]
    have e2 : rF1 ns at_ R S = rF0 (rK0 ns at_) R S := by unfold rF1; rw [if_neg e]
    rw [e1, e2]
    have hp := pickIn (rF0 (rK0 ns at_) R S) (by omega)
    have x1 := Int.emod_nonneg (nu ns at_) (by decide : (6 : Int) ≠ 0)
    have x2 := Int.emod_lt_of_pos (nu ns at_) (by decide : (0 : Int) < 6)
    have x3 : (nu ns at_ % 6).toNat = 0 ∨ (nu ns at_ % 6).toNat = 1 ∨ (nu ns at_ % 6).toNat = 2 ∨ (nu ns at_ % 6).toNat = 3 ∨ (nu ns at_ % 6).toNat = 4 ∨ (nu ns at_ % 6).toNat = 5 := by omega
    have sh : ∀ {x : Str}, x ∈ shd R S → x ∈ R ∧ ¬ x ∈ S := fun {x} h => by
      unfold shd at h
      obtain ⟨h1, h2⟩ := List.mem_filter.mp h
      exact ⟨h1, not_contains.mp (by simpa using h2)⟩
    have ek : ∀ i, (nu ns at_ % 6).toNat = i → rK0 ns at_ = kinds6.getD i ⟨#[]⟩ := fun i h => by unfold rK0; rw [h]
    rcases x3 with y | y | y | y | y | y
    · exact absurd (ek 0 y) hj
    · have q : rK0 ns at_ = "claim" := ek 1 y
      have f : rF0 (rK0 ns at_) R S = shd R S := by rw [q]; unfold rF0; rw [if_pos (.inl rfl)]
      rw [f] at hp ⊢
      exact ⟨(sh hp).1, .inl ⟨q, (sh hp).2⟩⟩
    · have q : rK0 ns at_ = "drop" := ek 2 y
      have f : rF0 (rK0 ns at_) R S = R := by rw [q]; unfold rF0; rw [if_neg (by decide +kernel), if_neg (by decide +kernel)]
      rw [f] at hp ⊢
      exact ⟨hp, .inr (.inl q)⟩
    · have q : rK0 ns at_ = "give" := ek 3 y
      have f : rF0 (rK0 ns at_) R S = shd R S := by rw [q]; unfold rF0; rw [if_pos (.inr rfl)]
      rw [f] at hp ⊢
      exact ⟨(sh hp).1, .inr (.inr (.inl ⟨q, (sh hp).2⟩))⟩
    · have q : rK0 ns at_ = "take" := ek 4 y
      have f : rF0 (rK0 ns at_) R S = R := by rw [q]; unfold rF0; rw [if_neg (by decide +kernel), if_neg (by decide +kernel)]
      rw [f] at hp ⊢
      exact ⟨hp, .inr (.inr (.inr (.inl q)))⟩
    · have q : rK0 ns at_ = "pass" := ek 5 y
      have f : rF0 (rK0 ns at_) R S = S := by rw [q]; unfold rF0; rw [if_neg (by decide +kernel), if_pos rfl]
      rw [f] at hp ⊢
      exact ⟨hS _ hp, .inr (.inr (.inr (.inr ⟨q, hp⟩)))⟩
theorem kept_of {R S : List Str} {kind name right : Str} {ls : List (List Str)} (hp : hasParts kind (1 + ls.length + 1) = true) (hj : ¬ kind = "join") (hc : R.contains right = true) (hl : ∀ l ∈ ls, l.Nodup ∧ (∀ x ∈ l, x ∈ R) ∧ l.length ≤ 7)
    (hck : checkRight kind (ls.map (ord R)) right (ord R S) = true) : keptRule R (ord R S) ⟨kind, name, ls, some right⟩ = some (frR R ⟨kind, name, ls, some right⟩) ∧ RuOk R ⟨kind, name, ls, some right⟩ := by
  have la := listAll_ord (rights := R) fun l h => ⟨(hl l h).1, (hl l h).2.1⟩
  refine ⟨?_, fun _ => ⟨fun h => absurd h hj, fun h => by cases h⟩, fun l h => by have := (hl l h).2.2; omega⟩
  · unfold keptRule
    rw [if_neg (by show ¬ hasParts kind (1 + ls.length + 1) = false; rw [hp]; decide)]
    show (if R.contains right = false then none else (listAll R ls).bind fun ls => if checkRight kind ls right (ord R S) = true then some (⟨kind, name, ls, some right⟩ : Ru) else none) = _
    rw [if_neg (by rw [hc]; decide), la]
    show (if checkRight kind (ls.map (ord R)) right (ord R S) = true then some (⟨kind, name, ls.map (ord R), some right⟩ : Ru) else none) = _
    rw [if_pos hck]
    rfl
theorem ck_two {kind right : Str} {a b sl : List Str} (h1 : ((decide (kind = "claim") || decide (kind = "give")) && sl.contains right) = false) (h2 : ¬ kind = "pass") (h3 : ((a.any fun x => b.contains x) || (a.contains right || b.contains right)) = false) : checkRight kind [a, b] right sl = true := by
  unfold checkRight
  rw [h1, decide_eq_false h2]
  show (!false && (!(false && _) && !((a.any fun x => b.contains x) || (a.contains right || b.contains right)))) = true
  rw [h3]
  rfl
theorem ck_three {kind right : Str} {c a b sl : List Str} (h1 : ((decide (kind = "claim") || decide (kind = "give")) && sl.contains right) = false) (h2 : (decide (kind = "pass") && (!sl.contains right || c.contains right)) = false) (h3 : ((a.any fun x => b.contains x) || (a.contains right || b.contains right)) = false) : checkRight kind [c, a, b] right sl = true := by
  unfold checkRight
  rw [h1]
  show (!false && (!(decide (kind = "pass") && (!sl.contains right || c.contains right)) && !((a.any fun x => b.contains x) || (a.contains right || b.contains right)))) = true
  rw [h2, h3]
  rfl
theorem rule_good {ns : List Int} {at_ : Nat} {name : Str} {R S : List Str} (hR : R.Nodup) (l6 : R.length ≤ 6) (hS : ∀ x ∈ S, x ∈ R) (h0 : 0 < R.length) : keptRule R (ord R S) (lawRule ns at_ name R S) = some (frR R (lawRule ns at_ name R S)) ∧ RuOk R (lawRule ns at_ name R S) := by
  by_cases hj : rK0 ns at_ = "join"
  · have er : lawRule ns at_ name R S = ⟨"join", name, [lawSome (shd R S) (nu ns (at_ + 1)) []], none⟩ := by
      unfold lawRule
      rw [if_pos hj, hj]
    rw [er]
    have hn : (shd R S).Nodup := List.Pairwise.filter _ hR
    have hm : ∀ x ∈ lawSome (shd R S) (nu ns (at_ + 1)) [], x ∈ R ∧ ¬ x ∈ S := fun x hx => by
      have h := (lawSome_no hx).1
      unfold shd at h
      obtain ⟨h1, h2⟩ := List.mem_filter.mp h
      exact ⟨h1, not_contains.mp (by simpa using h2)⟩
    have hl := listed_ord (rights := R) (some_nodup hn (nu ns (at_ + 1)) []) fun x hx => (hm x hx).1
    have sl := some_len (shd R S) (nu ns (at_ + 1)) []
    have sl2 : (shd R S).length ≤ R.length := List.length_filter_le ..
    generalize lawSome (shd R S) (nu ns (at_ + 1)) [] = held at hm hl sl
    refine ⟨?_, fun _ => ⟨fun _ => rfl, fun _ => rfl⟩, fun l hl => ?_⟩
    · unfold keptRule
      rw [if_neg (by show ¬ hasParts "join" 2 = false; decide +kernel)]
      show (listed R held).bind _ = _
      rw [hl]
      show (if ((ord R held).any fun x => (ord R S).contains x) = true then none else some (⟨"join", name, [ord R held], none⟩ : Ru)) = _
      rw [if_neg]
      · rfl
      · rw [Bool.not_eq_true, List.any_eq_false]
        intro x hx hy
        have hy := List.contains_iff_mem.mp hy
        exact (hm x (mem_ord.mp hx).2).2 (mem_ord.mp hy).2
    · rw [List.mem_singleton.mp hl]
      omega
  · obtain ⟨hr, hk⟩ := rule_cases hS h0 hj
    have n1 := some_nodup hR (nu ns (at_ + 3)) [rRt ns at_ (rF1 ns at_ R S)]
    have n2 := some_nodup hR (nu ns (at_ + 4)) [rRt ns at_ (rF1 ns at_ R S)]
    have n3 := some_nodup hR (nu ns (at_ + 5)) (rRt ns at_ (rF1 ns at_ R S) :: lawSome R (nu ns (at_ + 4)) [rRt ns at_ (rF1 ns at_ R S)])
    have m1 := fun x => @lawSome_no R (nu ns (at_ + 3)) [rRt ns at_ (rF1 ns at_ R S)] x
    have m2 := fun x => @lawSome_no R (nu ns (at_ + 4)) [rRt ns at_ (rF1 ns at_ R S)] x
    have m3 := fun x => @lawSome_no R (nu ns (at_ + 5)) (rRt ns at_ (rF1 ns at_ R S) :: lawSome R (nu ns (at_ + 4)) [rRt ns at_ (rF1 ns at_ R S)]) x
    have k1 := some_len R (nu ns (at_ + 3)) [rRt ns at_ (rF1 ns at_ R S)]
    have k2 := some_len R (nu ns (at_ + 4)) [rRt ns at_ (rF1 ns at_ R S)]
    have k3 := some_len R (nu ns (at_ + 5)) (rRt ns at_ (rF1 ns at_ R S) :: lawSome R (nu ns (at_ + 4)) [rRt ns at_ (rF1 ns at_ R S)])
    have er : lawRule ns at_ name R S = if rK1 ns at_ R S = "claim" ∨ rK1 ns at_ R S = "drop" then ⟨rK1 ns at_ R S, name, [lawSome R (nu ns (at_ + 4)) [rRt ns at_ (rF1 ns at_ R S)], lawSome R (nu ns (at_ + 5)) (rRt ns at_ (rF1 ns at_ R S) :: lawSome R (nu ns (at_ + 4)) [rRt ns at_ (rF1 ns at_ R S)])], some (rRt ns at_ (rF1 ns at_ R S))⟩ else
      ⟨rK1 ns at_ R S, name, [if ¬ rK1 ns at_ R S = "pass" ∧ nu ns (at_ + 1) % 3 = 1 then lawSome R (nu ns (at_ + 3)) [rRt ns at_ (rF1 ns at_ R S)] ++ [rRt ns at_ (rF1 ns at_ R S)] else lawSome R (nu ns (at_ + 3)) [rRt ns at_ (rF1 ns at_ R S)],
        lawSome R (nu ns (at_ + 4)) [rRt ns at_ (rF1 ns at_ R S)], lawSome R (nu ns (at_ + 5)) (rRt ns at_ (rF1 ns at_ R S) :: lawSome R (nu ns (at_ + 4)) [rRt ns at_ (rF1 ns at_ R S)])], some (rRt ns at_ (rF1 ns at_ R S))⟩ := by
      unfold lawRule
      rw [if_neg hj]
    rw [er]
    generalize rK1 ns at_ R S = kind at hk
    generalize rRt ns at_ (rF1 ns at_ R S) = right at *
    generalize lawSome R (nu ns (at_ + 4)) [right] = second at *
    generalize lawSome R (nu ns (at_ + 5)) (right :: second) = lacks at *
    have c2 : ¬ right ∈ second := fun h => (m2 right h).2 (List.mem_singleton.mpr rfl)
    have c3 : ∀ x ∈ lacks, ¬ x = right ∧ ¬ x ∈ second := fun x hx => ⟨fun e => (m3 x hx).2 (e ▸ List.mem_cons_self ..), fun e => (m3 x hx).2 (List.mem_cons_of_mem _ e)⟩
    have t3 := third_ok (rights := R) c2 c3
    have hc : R.contains right = true := List.contains_iff_mem.mpr hr
    have g1 : ∀ first : List Str, (first = lawSome R (nu ns (at_ + 3)) [right] ++ [right] ∨ first = lawSome R (nu ns (at_ + 3)) [right]) → first.Nodup ∧ (∀ x ∈ first, x ∈ R) ∧ first.length ≤ 7 := fun first h => by
      rcases h with rfl | rfl
      · refine ⟨?_, fun x hx => ?_, by rw [List.length_append]; show _ + 1 ≤ 7; omega⟩
        · rw [List.nodup_append]
          refine ⟨n1, by simp, fun a ha b hb e => ?_⟩
          rw [List.mem_singleton.mp hb] at e
          exact (m1 a ha).2 (List.mem_singleton.mpr e)
        · rcases List.mem_append.mp hx with h | h
          · exact (m1 x h).1
          · rw [List.mem_singleton.mp h]; exact hr
      · exact ⟨n1, fun x hx => (m1 x hx).1, by omega⟩
    have g2 : second.Nodup ∧ (∀ x ∈ second, x ∈ R) ∧ second.length ≤ 7 := ⟨n2, fun x hx => (m2 x hx).1, by omega⟩
    have g3 : lacks.Nodup ∧ (∀ x ∈ lacks, x ∈ R) ∧ lacks.length ≤ 7 := ⟨n3, fun x hx => (m3 x hx).1, by omega⟩
    have two : ∀ k : Str, (k = "claim" ∨ k = "drop") → hasParts k 4 = true ∧ ¬ k = "join" ∧ ¬ k = "pass" := fun k h => by
      rcases h with rfl | rfl <;> exact ⟨by decide +kernel, by decide +kernel, by decide +kernel⟩
    have three : ∀ k : Str, (k = "give" ∨ k = "take" ∨ k = "pass") → hasParts k 5 = true ∧ ¬ k = "join" ∧ ¬ (k = "claim" ∨ k = "drop") := fun k h => by
      rcases h with rfl | rfl | rfl <;> exact ⟨by decide +kernel, by decide +kernel, by decide +kernel⟩
    have nS : ¬ right ∈ S → (ord R S).contains right = false := fun h => not_contains.mpr fun z => h (mem_ord.mp z).2
    have mem2 : ∀ l ∈ [second, lacks], l.Nodup ∧ (∀ x ∈ l, x ∈ R) ∧ l.length ≤ 7 := fun l hl => by
      rcases List.mem_cons.mp hl with rfl | hl
      · exact g2
      · rw [List.mem_singleton.mp hl]; exact g3
    have mem3 : ∀ first : List Str, (first = lawSome R (nu ns (at_ + 3)) [right] ++ [right] ∨ first = lawSome R (nu ns (at_ + 3)) [right]) → ∀ l ∈ [first, second, lacks], l.Nodup ∧ (∀ x ∈ l, x ∈ R) ∧ l.length ≤ 7 := fun first h l hl => by
      rcases List.mem_cons.mp hl with rfl | hl
      · exact g1 _ h
      · exact mem2 l hl
    have fst : ∀ k : Str, (if ¬ k = "pass" ∧ nu ns (at_ + 1) % 3 = 1 then lawSome R (nu ns (at_ + 3)) [right] ++ [right] else lawSome R (nu ns (at_ + 3)) [right]) = lawSome R (nu ns (at_ + 3)) [right] ++ [right] ∨ (if ¬ k = "pass" ∧ nu ns (at_ + 1) % 3 = 1 then lawSome R (nu ns (at_ + 3)) [right] ++ [right] else lawSome R (nu ns (at_ + 3)) [right]) = lawSome R (nu ns (at_ + 3)) [right] := fun k => by
      split
      · exact .inl rfl
      · exact .inr rfl
    rcases hk with ⟨rfl, hs⟩ | rfl | ⟨rfl, hs⟩ | rfl | ⟨rfl, hs⟩
    · rw [if_pos (.inl rfl)]
      obtain ⟨a1, a2, a3⟩ := two "claim" (.inl rfl)
      exact kept_of a1 a2 hc mem2 (ck_two (by rw [nS hs, Bool.and_false]) a3 t3)
    · rw [if_pos (.inr rfl)]
      obtain ⟨a1, a2, a3⟩ := two "drop" (.inr rfl)
      exact kept_of a1 a2 hc mem2 (ck_two (by rw [show (decide (("drop" : Str) = "claim") || decide (("drop" : Str) = "give")) = false by decide +kernel, Bool.false_and]) a3 t3)
    · obtain ⟨a1, a2, a3⟩ := three "give" (.inl rfl)
      rw [if_neg a3]
      exact kept_of a1 a2 hc (mem3 _ (fst _)) (ck_three (by rw [nS hs, Bool.and_false]) (by rw [show decide (("give" : Str) = "pass") = false by decide +kernel, Bool.false_and]) t3)
    · obtain ⟨a1, a2, a3⟩ := three "take" (.inr (.inl rfl))
      rw [if_neg a3]
      exact kept_of a1 a2 hc (mem3 _ (fst _)) (ck_three (by rw [show (decide (("take" : Str) = "claim") || decide (("take" : Str) = "give")) = false by decide +kernel, Bool.false_and]) (by rw [show decide (("take" : Str) = "pass") = false by decide +kernel, Bool.false_and]) t3)
    · obtain ⟨a1, a2, a3⟩ := three "pass" (.inr (.inr rfl))
      rw [if_neg a3, if_neg (fun z => z.1 rfl)]
      have c1 : (ord R S).contains right = true := List.contains_iff_mem.mpr (mem_ord.mpr ⟨hr, hs⟩)
      have c4 : (ord R (lawSome R (nu ns (at_ + 3)) [right])).contains right = false := not_contains.mpr fun h => (m1 right (mem_ord.mp h).2).2 (List.mem_singleton.mpr rfl)
      exact kept_of a1 a2 hc (mem3 _ (.inr rfl)) (ck_three (by rw [show (decide (("pass" : Str) = "claim") || decide (("pass" : Str) = "give")) = false by decide +kernel, Bool.false_and]) (by show (_ && (!(ord R S).contains right || (ord R (lawSome R (nu ns (at_ + 3)) [right])).contains right)) = false; rw [c1, c4]; rw [Bool.and_eq_false_iff]; exact .inr rfl) t3)
theorem rule_nm {ns : List Int} {at_ : Nat} {name : Str} {R S : List Str} : (lawRule ns at_ name R S).name = name := by
  unfold lawRule
  split
  · rfl
  · dsimp only
    split <;> rfl
end K8

-- part D8
set_option Elab.async false
set_option linter.all false
set_option maxRecDepth 100000
set_option maxHeartbeats 2000000
/-! what a law draws makes a charter, the whole -/
namespace K8
open PySem PySem.Spec PyProof.Rows L2 GxR GS GA GD
def frF (R : List Str) (f : Str × List Str) : Str × List Str := (f.1, ord R f.2)
theorem heldAll_ord {R : List Str} : ∀ {fs : List (Str × List Str)}, (∀ f ∈ fs, f.2.Nodup ∧ ∀ x ∈ f.2, x ∈ R) → heldAll R fs = some (fs.map (frF R))
  | [], _ => rfl
  | f :: r, h => by
    have h1 := h f (List.mem_cons_self ..)
    rw [heldAll_cons, listed_ord h1.1 h1.2, heldAll_ord fun x hx => h x (List.mem_cons_of_mem _ hx)]
    rfl
structure FdOk (R S persons : List Str) (k : Nat) (t : List Str × List (Str × List Str)) : Prop where
  held : ∀ f ∈ t.2, f.2.Nodup ∧ (∀ x ∈ f.2, x ∈ R) ∧ f.2.length ≤ R.length
  tak : ∀ f ∈ t.2, ∀ x ∈ f.2, x ∈ S → x ∈ t.1
  one : ∀ r ∈ S, (t.2.filter fun f => f.2.contains r).length ≤ 1
  nm : t.2.map (·.1) = persons.take k
theorem fd_ok (ns : List Int) {R S persons : List Str} (hR : R.Nodup) : ∀ k, k ≤ persons.length → FdOk R S persons k (lawFd ns R S persons k)
  | 0, _ => ⟨fun _ h => (by cases h), fun _ h => (by cases h), fun _ _ => Nat.zero_le _, rfl⟩
  | k + 1, hk => by
    have i := fd_ok ns (S := S) (persons := persons) hR k (by omega)
    have e1 : (lawFd ns R S persons (k + 1)).1 = (lawFd ns R S persons k).1 ++ (lawSome R (nu ns (15 + k)) (lawFd ns R S persons k).1).filter fun x => S.contains x := rfl
    have e2 : (lawFd ns R S persons (k + 1)).2 = (lawFd ns R S persons k).2 ++ [(persons.getD k ⟨#[]⟩, lawSome R (nu ns (15 + k)) (lawFd ns R S persons k).1)] := rfl
    have m := fun x => @lawSome_no R (nu ns (15 + k)) (lawFd ns R S persons k).1 x
    have n := some_nodup hR (nu ns (15 + k)) (lawFd ns R S persons k).1
    have l := some_len R (nu ns (15 + k)) (lawFd ns R S persons k).1
    refine ⟨fun f hf => ?_, fun f hf x hx hs => ?_, fun r hr => ?_, ?_⟩
    · rw [e2] at hf
      rcases List.mem_append.mp hf with h | h
      · exact i.held f h
      · rw [List.mem_singleton.mp h]
        exact ⟨n, fun x hx => (m x hx).1, l⟩
    · rw [e1, List.mem_append]
      rw [e2] at hf
      rcases List.mem_append.mp hf with h | h
      · exact .inl (i.tak f h x hx hs)
      · rw [List.mem_singleton.mp h] at hx
        exact .inr (List.mem_filter.mpr ⟨hx, List.contains_iff_mem.mpr hs⟩)
    · rw [e2, List.filter_append, List.length_append]
      have h1 := i.one r hr
      by_cases c : r ∈ lawSome R (nu ns (15 + k)) (lawFd ns R S persons k).1
      · have z : (lawFd ns R S persons k).2.filter (fun f => f.2.contains r) = [] := by
          rw [List.filter_eq_nil_iff]
          intro f hf hc
          exact (m r c).2 (i.tak f hf r (List.contains_iff_mem.mp hc) hr)
        rw [z]
        have := List.length_filter_le (fun f : Str × List Str => f.2.contains r) [(persons.getD k ⟨#[]⟩, lawSome R (nu ns (15 + k)) (lawFd ns R S persons k).1)]
        simp only [List.length_nil, List.length_cons] at this ⊢
        omega
      · rw [List.filter_cons_of_neg (by simpa using c)]
        simp only [List.filter_nil, List.length_nil]
        omega
    · rw [e2, List.map_append, i.nm, List.take_add_one]
      congr 1
      rw [List.getElem?_eq_getElem (by omega)]
      show [persons.getD k ⟨#[]⟩] = _
      rw [List.getD_eq_getElem?_getD, List.getElem?_eq_getElem (by omega)]
      rfl
theorem names_check {xs : List Str} {m : Int} (hl : (xs.length : Int) ≤ m) (hn : ∀ x ∈ xs, isName x = true) (hd : xs.Nodup) : checkNames xs m = true := by
  unfold checkNames
  rw [decide_eq_true hl, decide_eq_true hd, List.all_eq_true.mpr hn]
  rfl
/-- the parts of a law as the charter keeps them -/
def fzn (pa : Pa) : Ch := ⟨pa.rights, ord pa.rights pa.sole, pa.founders.map (frF pa.rights), pa.rules.map (frR pa.rights)⟩
structure PaOk (pa : Pa) : Prop where
  rn : pa.rights.Nodup
  r6 : 0 < pa.rights.length ∧ pa.rights.length ≤ 6
  rok : ∀ x ∈ pa.rights, isName x = true
  sm : ∀ x ∈ pa.sole, x ∈ pa.rights
  sn : pa.sole.Nodup
  sl : pa.sole.length ≤ 6
  fl : pa.founders.length ≤ 5
  fok : ∀ f ∈ pa.founders, isName f.1 = true ∧ f.2.Nodup ∧ (∀ x ∈ f.2, x ∈ pa.rights) ∧ f.2.length ≤ 6
  fn : (pa.founders.map (·.1)).Nodup
  one : ∀ r ∈ pa.sole, (pa.founders.filter fun f => f.2.contains r).length ≤ 1
  rl : pa.rules.length ≤ 12
  rnm : (pa.rules.map (·.name)).Nodup
  rnk : ∀ r ∈ pa.rules, isName r.name = true
  rul : ∀ r ∈ pa.rules, keptRule pa.rights (ord pa.rights pa.sole) r = some (frR pa.rights r) ∧ RuOk pa.rights r
theorem parts_ok (ns : List Int) : PaOk (lawParts ns) := by
  have c6 := count_in (n := nu ns 6) (l := 1) (m := 6) (by decide)
  have c14 := count_in (n := nu ns 14) (l := 0) (m := 5) (by decide)
  have c26 := count_in (n := nu ns 26) (l := 0) (m := 12) (by decide)
  have hR : (paR ns).Nodup := lawNames_nodup ns _ _ (by omega)
  have lR : (paR ns).length ≤ 6 ∧ 0 < (paR ns).length := by unfold paR; rw [lawNames_len]; omega
  have lP : (paP ns).length ≤ 5 := by unfold paP; rw [lawNames_len]; omega
  have lN : (paN ns).length ≤ 12 := by unfold paN; rw [lawNames_len]; omega
  have fo := fd_ok ns (S := paS ns) (persons := paP ns) hR _ (Nat.le_refl _)
  have sS : ∀ x ∈ paS ns, x ∈ paR ns := fun x hx => (lawSome_no hx).1
  have nmP : ((lawFd ns (paR ns) (paS ns) (paP ns) (paP ns).length).2.map (·.1)) = paP ns := by rw [fo.nm, List.take_length]
  have nmR : ((lawParts ns).rules.map (·.name)) = paN ns := by
    show (((List.range (paN ns).length).map fun k : Nat => lawRule ns (27 + 6 * k) ((paN ns).getD k ⟨#[]⟩) (paR ns) (paS ns)).map (·.name)) = paN ns
    rw [List.map_map]
    refine List.ext_getElem (by rw [List.length_map, List.length_range]) fun i h1 h2 => ?_
    rw [List.getElem_map, List.getElem_range]
    show (lawRule ns (27 + 6 * i) ((paN ns).getD i ⟨#[]⟩) (paR ns) (paS ns)).name = _
    rw [rule_nm, List.getD_eq_getElem?_getD, List.getElem?_eq_getElem h2]
    rfl
  refine ⟨hR, ⟨lR.2, lR.1⟩, lawNames_ok ns _ _, sS, some_nodup hR _ _, Nat.le_trans (some_len ..) lR.1, ?_, fun f hf => ?_, ?_, fo.one, ?_, ?_, fun r hr => ?_, fun r hr => ?_⟩
  · show (lawFd ns (paR ns) (paS ns) (paP ns) (paP ns).length).2.length ≤ 5
    rw [lawFd_len2]; exact lP
  · have h := fo.held f hf
    refine ⟨?_, h.1, h.2.1, Nat.le_trans h.2.2 lR.1⟩
    have : f.1 ∈ paP ns := by rw [← nmP]; exact List.mem_map_of_mem hf
    exact lawNames_ok ns _ _ _ this
  · show ((lawFd ns (paR ns) (paS ns) (paP ns) (paP ns).length).2.map (·.1)).Nodup
    rw [nmP]
    exact lawNames_nodup ns _ _ (by omega)
  · show ((List.range (paN ns).length).map _).length ≤ 12
    rw [List.length_map, List.length_range]; exact lN
  · rw [nmR]
    exact lawNames_nodup ns _ _ (by omega)
  · have : r.name ∈ paN ns := by rw [← nmR]; exact List.mem_map_of_mem hr
    exact lawNames_ok ns _ _ _ this
  · obtain ⟨k, _, rfl⟩ := List.mem_map.mp hr
    exact rule_good hR lR.1 sS lR.2
theorem kept_fd {pa : Pa} (h : PaOk pa) : keptFounders pa.rights (ord pa.rights pa.sole) pa.founders = some (pa.founders.map (frF pa.rights)) := by
  unfold keptFounders
  rw [heldAll_ord fun f hf => ⟨(h.fok f hf).2.1, (h.fok f hf).2.2.1⟩]
  show (if (checkNames ((pa.founders.map (frF pa.rights)).map (·.1)) 5 && _) = true then some (pa.founders.map (frF pa.rights)) else none) = _
  have e : (pa.founders.map (frF pa.rights)).map (·.1) = pa.founders.map (·.1) := by rw [List.map_map]; rfl
  rw [e, names_check (by rw [List.length_map]; have := h.fl; omega) (fun x hx => by obtain ⟨f, hf, rfl⟩ := List.mem_map.mp hx; exact (h.fok f hf).1) h.fn, Bool.true_and, if_pos]
  rw [List.all_eq_true]
  intro r hr
  refine decide_eq_true (Nat.le_trans ?_ (h.one r (mem_ord.mp hr).2))
  rw [List.filter_map, List.length_map, ← List.countP_eq_length_filter, ← List.countP_eq_length_filter]
  refine List.countP_mono_left fun f _ hc => ?_
  exact List.contains_iff_mem.mpr (mem_ord.mp (List.contains_iff_mem.mp hc)).2
theorem made {pa : Pa} (h : PaOk pa) : mkCharter pa.rights pa.sole pa.founders pa.rules = some (fzn pa) := by
  unfold mkCharter
  have l := h.r6
  rw [names_check (by omega) h.rok h.rn, decide_eq_false (by omega), listed_ord h.sn h.sm]
  show ((keptFounders pa.rights (ord pa.rights pa.sole) pa.founders).bind fun f => (keptRules pa.rights (ord pa.rights pa.sole) pa.rules).bind fun u => if checkNames (u.map (·.name)) 12 = true then some (⟨pa.rights, ord pa.rights pa.sole, f, u⟩ : Ch) else none) = _
  rw [kept_fd h, keptRules_of (ks := pa.rules.map (frR pa.rights)) (by rw [List.map_map]; exact List.map_congr_left fun r hr => (h.rul r hr).1)]
  show (if checkNames ((pa.rules.map (frR pa.rights)).map (·.name)) 12 = true then some (fzn pa) else none) = _
  have e2 : (pa.rules.map (frR pa.rights)).map (·.name) = pa.rules.map (·.name) := by rw [List.map_map]; rfl
  rw [e2, names_check (by rw [List.length_map]; have := h.rl; omega) (fun x hx => by obtain ⟨r, hr, rfl⟩ := List.mem_map.mp hx; exact h.rnk r hr) h.rnm]
  rfl
end K8

-- part XU
set_option Elab.async false
set_option linter.all false
set_option maxRecDepth 100000
set_option maxHeartbeats 2000000
namespace K8
open PySem PySem.Spec PyProof.Rows L2 GxR GS GA GD DL
/-- the tables of the defs that hold generator expressions -/
def Tz (K : PySem.W.Frag) : AP := fun P => ∃ p ∈ tf, P = (He.cT K p).2
theorem Tz_mk {K : PySem.W.Frag} (p : Str × Option Str) (h : p ∈ tf) : Tz K (He.cT K p).2 := ⟨p, h, rfl⟩
section
variable {w : World} {K : PySem.W.Frag} {mg : Str → Option Value} {base : Heap}
theorem X_UnknownName (T : Tx w K mg base) : ∃ fdx, FnOk R.prog w K mg base CX0 1 (Hd.suA K suUnknownName) fdx ["self", "name"] (SU.spS (He.ga K "UnknownName") "name" (fun σ H Q => tJs [tC (.str "unknown name "), tFmt (tVar 1)] Str.empty σ H fun out H1 => Q (.str out) H1)) ∧
    OexC K (He.ga K "UnknownName") ∧ PySem.W.findIn K (.ref (He.ga K "UnknownName")) "__init__" = some (some (.ref (Hd.suA K suUnknownName))) ∧ PySem.W.typeIn K (.ref (Hd.suA K suUnknownName)) = some (.type "function") ∧ Binds K fdx ["self", "name"] [] := by
  obtain ⟨cc, fdx, S, hb, bx, iC, tI, no⟩ := T.sup_UnknownName
  refine ⟨fdx, S.ok (k := 0) T.free_super hb no (fun A outer s H E => pe_joined (.cons pe_str (.cons (pe_fmt (pe_var rfl (.inl ?_))) .nil))) (by decide) (by decide) rfl (fun env => rfl) (fun env => ⟨_, rfl⟩), S.oex, iC, tI, bx⟩
  show fdx.scope.names.lookup _ = _
  rw [S.fsc]
  rfl
end
end K8

-- part CM
set_option Elab.async false
set_option linter.all false
set_option maxRecDepth 100000
set_option maxHeartbeats 2000000
/-! a charter is made of parts, told over data; any parts of the right shape -/
namespace K8
open PySem PySem.Spec PyProof.Rows L2 GxR GS GA GD DL
def dSt (l : List Str) : D := .tup (l.map .str)
def dFo (f : Str × List Str) : D := .tup [.str f.1, dSt f.2]
def dRu (r : Ru) : D := .tup (.str r.kind :: .str r.name :: (r.ls.map dSt ++ r.right.toList.map .str))
def chN : List Str := ["rights", "sole", "founders", "rules"]
def dCi (c : Ch) : D := .ins "Charter" chN [dSt c.rights, dSt c.sole, .tup (c.founders.map dFo), .tup (c.rules.map dRu)]
/-- a list or a tuple -/
def IsSq (d : D) (ds : List D) : Prop := d = .lst ds ∨ d = .tup ds
def IsTx (d : D) (l : List Str) : Prop := IsSq d (l.map .str)
def IsFd (d : D) (f : Str × List Str) : Prop := ∃ x, d = .tup [.str f.1, x] ∧ IsTx x f.2
def IsRu (d : D) (r : Ru) : Prop := ∃ xs, d = .tup (.str r.kind :: .str r.name :: (xs ++ r.right.toList.map .str)) ∧ Paired IsTx xs r.ls
section
variable {K : PySem.W.Frag} {H : Hp} {A : AP}
theorem un_sq {d : D} {ds : List D} {v : V} (h : IsSq d ds) (r : Rp K H A d v) : ∃ a vs, v = .ref a ∧ Sq K H a vs ∧ RpL K H A ds vs := by
  rcases h with rfl | rfl
  · unfold Rp at r
    obtain ⟨a, vs, rfl, h1, _, h2⟩ := r
    exact ⟨a, vs, rfl, .inl (SqL.of h1), h2⟩
  · unfold Rp at r
    obtain ⟨a, vs, rfl, h1, h2⟩ := r
    exact ⟨a, vs, rfl, .inr h1, h2⟩
theorem un_tx {d : D} {l : List Str} {v : V} (h : IsTx d l) (r : Rp K H A d v) : ∃ a, v = .ref a ∧ TxL K H a l := by
  obtain ⟨a, vs, rfl, h1, h2⟩ := un_sq h r
  rw [RpL.ofStrs h2] at h1
  exact ⟨a, rfl, h1⟩
theorem un_fd {d : D} {f : Str × List Str} {v : V} (h : IsFd d f) (r : Rp K H A d v) : FdAt K H v f := by
  obtain ⟨x, rfl, hx⟩ := h
  unfold Rp at r
  obtain ⟨p, vs, rfl, h1, h2⟩ := r
  obtain ⟨v1, t1, rfl, r1, h2⟩ := h2.uncons
  obtain ⟨v2, t2, rfl, r2, h3⟩ := h2.uncons
  obtain rfl := h3.unnil
  unfold Rp at r1
  subst r1
  obtain ⟨b, rfl, hb⟩ := un_tx hx r2
  exact ⟨p, b, rfl, h1, hb⟩
theorem un_paired {α : Type} {P : D → α → Prop} {F : V → α → Prop} (hf : ∀ d x v, P d x → Rp K H A d v → F v x) : ∀ {ds : List D} {xs : List α} {vs : List V}, Paired P ds xs → RpL K H A ds vs → Paired F vs xs
  | _, _, vs, .nil, h => by rw [h.unnil]; exact .nil
  | _, _, vs, .cons p t, h => by
    obtain ⟨v, w, rfl, h1, h2⟩ := h.uncons
    exact .cons (hf _ _ _ p h1) (un_paired hf t h2)
theorem un_app : ∀ {ds es : List D} {vs : List V}, RpL K H A (ds ++ es) vs → ∃ us ws, vs = us ++ ws ∧ RpL K H A ds us ∧ RpL K H A es ws
  | [], es, vs, h => ⟨[], vs, rfl, RpL.nil, h⟩
  | d :: r, es, vs, h => by
    obtain ⟨v, t, rfl, h1, h2⟩ := h.uncons
    obtain ⟨us, ws, rfl, h3, h4⟩ := un_app h2
    exact ⟨v :: us, ws, rfl, RpL.cons h1 h3, h4⟩
theorem un_ru {d : D} {r : Ru} {v : V} (h : IsRu d r) (q : Rp K H A d v) : RuAt K H v r := by
  obtain ⟨xs, rfl, hx⟩ := h
  unfold Rp at q
  obtain ⟨p, vs, rfl, h1, h2⟩ := q
  obtain ⟨v1, t1, rfl, r1, h2⟩ := h2.uncons
  obtain ⟨v2, t2, rfl, r2, h2⟩ := h2.uncons
  obtain ⟨us, ws, rfl, h3, h4⟩ := un_app h2
  unfold Rp at r1 r2
  subst r1 r2
  rw [RpL.ofStrs h4] at h1
  exact ⟨p, us, rfl, h1, un_paired (F := TlAt K H) (fun d x v i r => un_tx i r) hx h3⟩
theorem rp_tup {ds : List D} {vs : List V} {a : Addr} (h : SqT K H a vs) (r : RpL K H A ds vs) : Rp K H A (.tup ds) (.ref a) := by unfold Rp; exact ⟨a, vs, rfl, h, r⟩
theorem rp_strs {l : List Str} {a : Addr} (h : SqT K H a (l.map V.str)) : Rp K H A (dSt l) (.ref a) := rp_tup h RpL.strs
theorem rp_str {s : Str} : Rp K H A (.str s) (.str s) := by unfold Rp; rfl
theorem rpl_fs : ∀ {us : List V} {fs : List (Str × List Str)}, Paired (KfAt K H) us fs → RpL K H A (fs.map dFo) us
  | _, _, .nil => RpL.nil
  | _, _, .cons h t => RpL.cons (by obtain ⟨p, b, rfl, h1, h2⟩ := h; exact rp_tup h1 (RpL.cons rp_str (RpL.cons (rp_strs h2) RpL.nil))) (rpl_fs t)
theorem rpl_tt : ∀ {us : List V} {ls : List (List Str)}, Paired (TtAt K H) us ls → RpL K H A (ls.map dSt) us
  | _, _, .nil => RpL.nil
  | _, _, .cons h t => RpL.cons (by obtain ⟨a, rfl, h1⟩ := h; exact rp_strs h1) (rpl_tt t)
theorem rpl_rs : ∀ {us : List V} {rs : List Ru}, Paired (KrAt K H) us rs → RpL K H A (rs.map dRu) us
  | _, _, .nil => RpL.nil
  | _, _, .cons h t => RpL.cons (by obtain ⟨p, us, rfl, h1, h2⟩ := h; exact rp_tup h1 (RpL.cons rp_str (RpL.cons rp_str (RpL.app (rpl_tt h2) RpL.strs)))) (rpl_rs t)
theorem rp_ci {x : Addr} {c : Ch} (h : ChAt K H x c) (nx : ¬ A x) : Rp K H A (dCi c) (.ref x) := by
  obtain ⟨dx, pr, ps, pf, pu, uf, uu, i1, i2, i3, i4, i5, i6, i7⟩ := h.at_
  unfold dCi Rp
  exact ⟨x, dx, [.ref pr, .ref ps, .ref pf, .ref pu], rfl, i1, nx, rfl, RpL.cons (rp_strs i2) (RpL.cons (rp_strs i3) (RpL.cons (rp_tup i4 (rpl_fs i5)) (RpL.cons (rp_tup i6 (rpl_rs i7)) RpL.nil)))⟩
end
/-- parts of the right shape, not too many -/
structure Shp (rights sole : List Str) (fs : List (Str × List Str)) (rs : List Ru) : Prop where
  n : rights.length ≤ 4000 ∧ sole.length ≤ 4000 ∧ fs.length ≤ 4000 ∧ rs.length ≤ 4000
  r : ∀ x ∈ rights, x.length ≤ sizeLine
  f : ∀ f ∈ fs, f.1.length ≤ sizeLine ∧ f.2.length ≤ 4000
  u : ∀ r ∈ rs, r.name.length ≤ sizeLine ∧ RuOk rights r
/-- Charter(rights=, sole=, founders=, rules=) -/
def dMkC (tk : DA) : DE := fun X ρ Q => tk X ρ fun ds ρ1 => ∃ d1 d2 d3 d4 fd ud rights sole fs rs, ds = [d1, d2, d3, d4] ∧ IsTx d1 rights ∧ IsTx d2 sole ∧ IsSq d3 fd ∧ Paired IsFd fd fs ∧ IsSq d4 ud ∧ Paired IsRu ud rs ∧ Shp rights sole fs rs ∧
  (∀ c, mkCharter rights sole fs rs = some c → Q (dCi c) .sh ρ1) ∧ (mkCharter rights sole fs rs = none → X ⟨"InvalidCharter", none⟩ ρ1)
def gA {α : Type} (vs mz zs : List α) : List α := vs ++ zs
abbrev InitF (K : PySem.W.Frag) (fd : FuncData) : Prop := FunD K "__init__" "Charter.__init__" (defArgs sCharter___init__) (defBody sCharter___init__) (defScope sCharter___init__) (dCharter___init__.dvs K) (dCharter___init__.kws K) (He.fAd K ("Charter", some "__init__")) fd
theorem kb_all {K : PySem.W.Frag} {fd : FuncData} (F : InitF K fd) : ∃ mv, KBn K fd ["self", "rights", "sole", "founders", "rules"] 1 ["rights", "sole", "founders", "rules"] (fun us ws => gA us mv ws) fun vs zs => gA vs [] zs := by
  refine FunD.kbinds0 F 1 ["rights", "sole", "founders", "rules"] [] (fun vs mz zs => gA vs mz zs) (fun z => by cases z) (fun q hq => by cases hq) (fun h1 h2 h3 => h1.append h3) fun D doc pm an cdv ct us mv ws h1 h2 h3 => ?_
  match us, h1, mv, h2, ws, h3 with
  | [s], _, [], _, [r, o, f, u], _ => rfl
section
variable {X : Cx} {W : WX} {tk : DA} {e : Expr} {te : DE} {kws : List Keyword} {nm : Option Str} {kpos p pos : Pos} {E : XK} {C : Addr}
theorem dk_nil {Ts : AP} : PK X [] (upA X.K Ts W dNil) := ⟨fun pos pins s σ H Q I ⟨A, O, ρ, Xf, Qd, m, h, c⟩ => pk_nil.run pos pins s σ H Q I (c.q [] ρ [] H A O h Sm.refl Tr.refl m RpL.nil)⟩
theorem dk_cons {Ts : AP} (he : PE X e (upE X.K Ts W te)) (hr : PK X kws (upA X.K Ts W tk)) : PK X (⟨nm, e, kpos⟩ :: kws) (upA X.K Ts W (dCons te tk)) := ⟨fun pos pins s σ H Q I h => (pk_cons he hr).run pos pins s σ H Q I (up_cons h)⟩
theorem up_mkC {σ : L2.St} {H : Hp} {Q : VK} (hC : C = He.ga X.K "Charter") (h : upE X.K (Tz X.K) (fun cls d _ H => E cls d H) (dMkC tk) σ H Q) : tMakeK C 0 4 (spInit X.K) (fun vs zs => gA vs [] zs) E tNil (upA X.K (Tz X.K) (fun cls d _ H => E cls d H) tk) σ H Q := by
  subst hC
  obtain ⟨A, O, ρ, Xf, Qd, m, h, c⟩ := h
  refine ⟨A, O, ρ, Xf, _, m, h, fun ds ρ1 zs H1 A1 O1 h1 s1 t1 m1 r1 => ?_, c.x⟩
  have c1 := c.move s1 t1 m
  obtain ⟨d1, d2, d3, d4, fd, ud, rights, sole, fs, rs, rfl, i1, i2, i3, i4, i5, i6, sh, hq, hx⟩ := h1
  obtain ⟨v1, t, rfl, q1, r2⟩ := r1.uncons
  obtain ⟨v2, t, rfl, q2, r3⟩ := r2.uncons
  obtain ⟨v3, t, rfl, q3, r4⟩ := r3.uncons
  obtain ⟨v4, t, rfl, q4, r5⟩ := r4.uncons
  obtain rfl := r5.unnil
  obtain ⟨a1, rfl, g1⟩ := un_tx i1 q1
  obtain ⟨a2, rfl, g2⟩ := un_tx i2 q2
  obtain ⟨a3, wf, rfl, g3, k3⟩ := un_sq i3 q3
  obtain ⟨a4, wu, rfl, g4, k4⟩ := un_sq i5 q4
  have p3 := un_paired (F := FdAt X.K H1) (fun d x v i r => un_fd i r) i4 k3
  have p4 := un_paired (F := RuAt X.K H1) (fun d x v i r => un_ru i r) i6 k4
  have g : Gd X.K H1 := fun p hp => m1.tab _ ⟨p, hp, rfl⟩
  refine ⟨rfl, rfl, fun x dx hnx hdx ne => ?_⟩
  have hx2 : upd H1 dx (.own x) x = none := by rw [upd_ne (Ne.symm ne)]; exact hnx
  have s2 : Sm H1 (upd (upd H1 dx (.own x)) x (.ins (He.ga X.K "Charter") dx [])) := (Sm.new hdx).trans (Sm.new hx2)
  have hh : (upd (upd H1 dx (.own x)) x (.ins (He.ga X.K "Charter") dx [])) x = some (.ins (He.ga X.K "Charter") dx []) := upd_same
  generalize upd (upd H1 dx (.own x)) x (.ins (He.ga X.K "Charter") dx []) = H2 at s2 hh ⊢
  refine ⟨x, dx, a1, a2, a3, a4, rights, sole, wf, fs, wu, rs, rfl, hh, s2.txl g1, s2.txl g2, s2.sq g3, GD.Paired.imp (fun _ _ z => z.mono s2) p3, s2.sq g4, GD.Paired.imp (fun _ _ z => z.mono s2) p4, sh.n, sh.r, sh.f, fun r hr => (sh.u r hr).1, g.mono s2, fun r hr => (sh.u r hr).2, fun H' ch S em hc => ⟨rfl, ?_⟩, fun H' S em => ?_⟩
  · exact c1.sh m1 (Sx.out hnx s2 S) (hq ch em) (rp_ci hc fun z => m1.trk x z hnx)
  · have s3 := Sx.out hnx s2 S
    exact c1.x _ ρ1 _ none H' A1 O1 (hx em) (Tr.of s3) (m1.sm s3) ⟨rfl, rfl⟩
end
end K8

-- part CN
set_option Elab.async false
set_option linter.all false
set_option maxRecDepth 100000
set_option maxHeartbeats 2000000
namespace K8
open PySem PySem.Spec PyProof.Rows L2 GxR GS GA GD DL
theorem de_mkC {X : Cx} {k : Nat} {f : Addr} {fd : FuncData} {E : XK} {tk : DA} {kws : List Keyword} {p pos : Pos} {g : List Value → List Value → List Value} (M : Mk X.K (He.ga X.K "Charter") f) (F : FnOk X.prog X.w X.K X.mg X.base (L2.CX X.prog X.w) k f fd ["self", "rights", "sole", "founders", "rules"] (spInit X.K)) (hr : Room (k + 1) X.A) (hg : Gl X "Charter") (hm : X.mg "Charter" = some (.ref (He.ga X.K "Charter")))
    (hb : KBn X.K fd ["self", "rights", "sole", "founders", "rules"] 1 ["rights", "sole", "founders", "rules"] g fun vs zs => gA vs [] zs) (hx : Passes (L2.CX X.prog X.w) X E) (hkw : PK X kws (upA X.K (Tz X.K) (fun cls d _ H => E cls d H) tk))
    (hall : (backToKw pos (keywordEach kws X.env)).all (·.1.isSome) = true := by rfl) (hks : (backToKw pos (keywordEach kws X.env)).filterMap (·.1) = (["rights", "sole", "founders", "rules"] : List Str) := by rfl)
    (hpl : ((backTo pos (starEach [] X.env)).any (·.1) || (backToKw pos (keywordEach kws X.env)).any (·.1.isNone)) = false := by rfl) :
    PE X (.Call (.Name "Charter" p) [] kws pos) (upE X.K (Tz X.K) (fun cls d _ H => E cls d H) (dMkC tk)) :=
  (pe_makeK0 (x := "Charter") M F hr hg hm hb hx hkw hall hks (by decide) hpl).imp fun σ H Q h => up_mkC rfl h
end K8

-- part DN1
set_option Elab.async false
set_option linter.all false
set_option maxRecDepth 100000
set_option maxHeartbeats 2000000
namespace DL
open PySem PySem.Spec PyProof.Rows L2 GxR GS GA GD DL
local macro_rules | `(tactic| walk_at "ev") => `(tactic| simp (dsimp := false) only [k0, k1, k2, k3, iK_true, iK_false, iK_not, sl_0, sl_s, vK_va, vK_ow, bK_va, bK_ow, dVar_ev, dVarB_ev, dC_ev, dBin_ev, tK_bl, dTst_ev, dAnd_ev, dOr_ev, dNot_ev, dAndV_ev, dOrV_ev, dNotV_ev, dIf_ev, dNext_ev, dSeq_st, kS_e, dBreak_ev, dCont_ev, dRet_ev, dRetN_ev, dIfS_ev, dSet_ev, dDrop_ev, slOf_fr, slOf_sh, gAdd_i, gAdd_s, gAdd_l, gAdd_t, num_i, gEq_i, gEq_s, gEq_b, gEq_sn, gEq_ns, gEq_in, gEq_ni, gEq_nn, gEq_is, gEq_si, gNe_i, gNe_s, gNe_b, gNe_sn, gNe_ns, gNe_in, gNe_ni, gNe_nn, gEq_l, gEq_t, gNe_l, gNe_t,
    gIsN_n, gIsN_s, gIsN_i, gIsN_l, gIsN_t, gNotN_n, gNotN_s, gNotN_i, gNotN_l, gNotN_t, gIn_l, gIn_t, gNin_l, gNin_t, flD_s, flD_i, flD_n, flD_str, flD_int, has_strs, gIx_l, gIx_t, gIx_s, DL.at0, at1, at2, at3, at4, at5, dNoPart_ev, pK_i, dPart_ev, sK_l, sK_r, sK_t, sK_s, dSl_ev, dNil_ev, dCons_ev, dConsW_ev, itsD_l, itsD_t, dStar_ev, dLst_ev, dTup_ev, dBlt_ev, gLen_l, gLen_t, gLen_r, gLen_s, gInt_i, gInt_b, gAbs_i, gMax_i, gMin_i, gTuple_l, gTuple_t, gList_l, gList_t, oW_ow, owAt_ev, dApp_ev, dStI_ev, wK_sh, wK_fr, wK_bo, wK_t, wK_r, wK_s, diVal_ev, rK_i, diRng_ev, eK_sh, eK_fr, eK_bo, diEnum_ev, dgName_ev, dgNil_ev, dgCons_ev, dgTup_ev, dAsg_ev, dFor_ev, dWhile_ev, dLc_ev, dGen_ev, dCall_ev, mK_i, dMeth_ev, fK_i, dFld_ev, nK_i, dNeg_ev, dYes_ev, oK_some, List.length_map, rng_len, Int.toNat_natCast,
    List.map_cons, List.map_nil, List.length_cons, List.length_nil, List.length_set, List.replicate_succ, List.replicate_zero, List.nil_append, List.cons_append, List.set_cons_zero, List.set_cons_succ, Nat.reduceAdd, Nat.reduceSub, ne_eq, reduceCtorEq, not_false_eq_true, not_true_eq_false, true_and, and_true, Nat.reduceLT, Nat.reduceLeDiff, Nat.zero_le, Bool.false_eq_true])
local macro_rules | `(tactic| walk_at "st") => `(tactic| simp (dsimp := false) only [k0, k1, k2, k3, iK_true, iK_false, iK_not, sl_0, sl_s, vK_va, vK_ow, bK_va, bK_ow, dVar_ev, dVarB_ev, dC_ev, dBin_ev, tK_bl, dTst_ev, dAnd_ev, dOr_ev, dNot_ev, dAndV_ev, dOrV_ev, dNotV_ev, dIf_ev, dNext_ev, dSeq_st, kS_e, dBreak_ev, dCont_ev, dRet_ev, dRetN_ev, dSet_ev, dDrop_ev, slOf_fr, slOf_sh, gAdd_i, gAdd_s, gAdd_l, gAdd_t, num_i, gEq_i, gEq_s, gEq_b, gEq_sn, gEq_ns, gEq_in, gEq_ni, gEq_nn, gEq_is, gEq_si, gNe_i, gNe_s, gNe_b, gNe_sn, gNe_ns, gNe_in, gNe_ni, gNe_nn, gEq_l, gEq_t, gNe_l, gNe_t,
    gIsN_n, gIsN_s, gIsN_i, gIsN_l, gIsN_t, gNotN_n, gNotN_s, gNotN_i, gNotN_l, gNotN_t, gIn_l, gIn_t, gNin_l, gNin_t, flD_s, flD_i, flD_n, flD_str, flD_int, has_strs, gIx_l, gIx_t, gIx_s, DL.at0, at1, at2, at3, at4, at5, dNoPart_ev, pK_i, dPart_ev, sK_l, sK_r, sK_t, sK_s, dSl_ev, dNil_ev, dCons_ev, dConsW_ev, itsD_l, itsD_t, dStar_ev, dLst_ev, dTup_ev, dBlt_ev, gLen_l, gLen_t, gLen_r, gLen_s, gInt_i, gInt_b, gAbs_i, gMax_i, gMin_i, gTuple_l, gTuple_t, gList_l, gList_t, oW_ow, owAt_ev, dApp_ev, dStI_ev, wK_sh, wK_fr, wK_bo, wK_t, wK_r, wK_s, diVal_ev, rK_i, diRng_ev, eK_sh, eK_fr, eK_bo, diEnum_ev, dgName_ev, dgNil_ev, dgCons_ev, dgTup_ev, dAsg_ev, dFor_ev, dWhile_ev, dLc_ev, dGen_ev, dCall_ev, mK_i, dMeth_ev, fK_i, dFld_ev, nK_i, dNeg_ev, dYes_ev, oK_some, List.length_map, rng_len, Int.toNat_natCast,
    List.map_cons, List.map_nil, List.length_cons, List.length_nil, List.length_set, List.replicate_succ, List.replicate_zero, List.nil_append, List.cons_append, List.set_cons_zero, List.set_cons_succ, Nat.reduceAdd, Nat.reduceSub, ne_eq, reduceCtorEq, not_false_eq_true, not_true_eq_false, true_and, and_true, Nat.reduceLT, Nat.reduceLeDiff, Nat.zero_le, Bool.false_eq_true])
def In9 (n : Int) : Prop := 0 ≤ n ∧ n < 1009
theorem in9 (i : Int) : In9 (i % 1009) := ⟨Int.emod_nonneg _ (by decide), Int.emod_lt_of_pos _ (by decide)⟩
theorem log2_small {i : Int} {b : Nat} (h0 : 0 ≤ i) (h : i < 2 ^ b) : i.natAbs.log2 ≤ b := by
  by_cases z : i.natAbs = 0
  · rw [z]; show Nat.log2 0 ≤ b; rw [Nat.log2_zero]; omega
  · have : i.natAbs < 2 ^ b := by
      have e : ((i.natAbs : Nat) : Int) = i := by omega
      have : ((i.natAbs : Nat) : Int) < ((2 ^ b : Nat) : Int) := by rw [e]; simpa using h
      exact Int.ofNat_lt.mp this
    exact Nat.le_of_lt ((Nat.log2_lt z).mpr this)
theorem log2_mono {i j : Int} (h0 : 0 ≤ i) (h : i ≤ j) : i.natAbs.log2 ≤ j.natAbs.log2 := by
  have hij : i.natAbs ≤ j.natAbs := by omega
  by_cases z : i.natAbs = 0
  · rw [z]; show Nat.log2 0 ≤ _; rw [Nat.log2_zero]; omega
  · have hz : j.natAbs ≠ 0 := by omega
    exact (Nat.le_log2 hz).mpr (Nat.le_trans ((Nat.le_log2 z).mp (Nat.le_refl _)) hij)
abbrev N_law_row : List Str := ["cell", "many", "row", "rest", "mixed", "k"]
def r_law_row : DS :=
  (dSeq (dSet 2 (dLst dNil))
  (dSeq (dSet 3 (dBlt gAbs (dConsW (dVarB 0) dNil)))
  (dSeq (dSet 4 (dBin gMod (dBlt gInt (dConsW (dBin gAdd (dBin gMul (dVarB 3) (dC (.int 48271))) (dC (.int 69621))) dNil)) (dC (.int 2147483647))))
  (dSeq (dFor (diRng (dConsW (dVarB 1) dNil)) (dgName 5) (dSeq (dSet 4 (dBin gMod (dBlt gInt (dConsW (dBin gAdd (dBin gMul (dVarB 4) (dC (.int 16807))) (dBin gMul (dC (.int 271)) (dBin gAdd (dVarB 5) (dC (.int 3))))) dNil)) (dC (.int 2147483629))))
  (dIfS (dTst (dBin gGe (dBlt gAbs (dConsW (dVarB 0) dNil)) (dBin gPow (dC (.int 10)) (dC (.int 18))))) (dSeq (dApp 2 (dBin gMod (dBlt gInt (dConsW (dVarB 3) dNil)) (dC (.int 1009))))
  (dSet 3 (dBin gDiv (dVarB 3) (dC (.int 1009))))) (dApp 2 (dBin gMod (dBlt gInt (dConsW (dBin gDiv (dVarB 4) (dC (.int 7))) dNil)) (dC (.int 1009)))))))
  (dRet (dVar 2))))))
/- theorem M_law_row : MD r_law_row 2 6 ph_law_row := fun ds Qd Xd h hl => by -/
def ph__law_row : Ph := fun ds Qd _ => ∃ (cell : Int) (m : Nat), ds = [.int cell, .int m] ∧ cell.natAbs.log2 < 4000000 ∧ m ≤ 4000 ∧ ∀ ns : List Int, ns.length = m → (∀ n ∈ ns, In9 n) → Qd (.lst (ns.map .int))
theorem M_law_row : MD r_law_row 2 6 ph__law_row := fun ds Qd Xd h hl => by
  obtain ⟨cell, m, rfl, hc, hm, q⟩ := h
  unfold r_law_row
  walk_at "ev"
  have e0 : (0 : Int) ≤ (if cell < 0 then -cell else cell) := by split <;> omega
  have en : (if cell < 0 then -cell else cell).natAbs = cell.natAbs := by split <;> omega
  generalize hr : (if cell < 0 then -cell else cell) = ab at e0 en
  have cm : ∀ r : Int, 0 ≤ r → r ≤ ab → CMulB r 48271 := fun r h0 h1 => by
    have := log2_mono h0 h1
    rw [en] at this
    show r.natAbs.log2 + (48271 : Nat).log2 < _
    have : (48271 : Nat).log2 = 15 := by decide
    omega
  refine ⟨cm ab e0 (Int.le_refl _), by decide, by omega, by omega, forK.rng (fun k ρ => ∃ (ns : List Int) (r mx : Int) (x : Sl), ρ = [.va (.int cell), .va (.int m), .ow (ns.map .int), .va (.int r), .va (.int mx), x] ∧ ns.length = k ∧ (∀ n ∈ ns, In9 n) ∧ 0 ≤ r ∧ r ≤ ab ∧ 0 ≤ mx ∧ mx < 2147483648)
    ⟨[], ab, _, _, rfl, rfl, by simp, e0, Int.le_refl _, Int.emod_nonneg _ (by decide), by
      have := Int.emod_lt_of_pos (ab * 48271 + 69621) (show (0 : Int) < 2147483647 by decide)
      omega⟩ ?_ ?_⟩
  · rintro k ρ' lt ⟨ns, r, mx, x, rfl, hl, h9, r0, r1, m0, m1⟩
    walk_at "ev"
    have c1 : CMulB mx 16807 := by
      have := log2_small (b := 31) m0 (by omega)
      show mx.natAbs.log2 + (16807 : Nat).log2 < _
      have : (16807 : Nat).log2 = 14 := by decide
      omega
    have c2 : CMulB 271 ((k : Int) + 3) := by
      have := log2_small (i := (k : Int) + 3) (b := 13) (by omega) (by show _ < (2 : Int) ^ 13; omega)
      show (271 : Nat).log2 + ((k : Int) + 3).natAbs.log2 < _
      have : (271 : Nat).log2 = 8 := by decide
      omega
    have z := Int.emod_nonneg (mx * 16807 + 271 * ((k : Int) + 3)) (show (2147483629 : Int) ≠ 0 by decide)
    have z2 := Int.emod_lt_of_pos (mx * 16807 + 271 * ((k : Int) + 3)) (show (0 : Int) < 2147483629 by decide)
    have nl : ns.length < sizeLine := by unfold sizeLine; omega
    refine ⟨c1, c2, by decide, ⟨by decide, by decide, by decide⟩, ?_⟩
    have e9 : ∀ y : Int, In9 y → ∀ n ∈ ns ++ [y], In9 n := fun y hy n hn => (List.mem_append.mp hn).elim (h9 n) fun z => by rw [List.mem_singleton.mp z]; exact hy
    refine iK_d (fun _ => ?_) fun _ => ?_
    · walk_at "ev"
      refine ⟨by decide, nl, ⟨by decide, by decide⟩, ns ++ [r % 1009], r / 1009, _, _, by rw [List.map_append]; rfl, by rw [List.length_append, hl]; rfl, e9 _ (in9 _), by omega, by omega, z, by omega⟩
    · walk_at "ev"
      refine ⟨⟨by decide, by decide⟩, by decide, nl, ns ++ [(mx * 16807 + 271 * ((k : Int) + 3)) % 2147483629 / 7 % 1009], r, _, _, by rw [List.map_append]; rfl, by rw [List.length_append, hl]; rfl, e9 _ (in9 _), r0, r1, z, by omega⟩
  · rintro ρ' ⟨ns, r, mx, x, rfl, hl, h9, _⟩
    walk_at "ev"
    exact q ns hl h9
abbrev N_law_numbers : List Str := ["script", "many", "cells", "each", "numbers", "cell", "number"]
def r_law_numbers : DS :=
  (dSeq (dSet 2 (dSl (dVarB 0) dNoPart (dPart (dC (.int 63)))))
  (dSeq (dSet 3 (dBin gAdd (dC (.int 1)) (dBin gDiv (dVarB 1) (dBlt gMax (dConsW (dC (.int 1)) (dConsW (dBlt gLen (dConsW (dVarB 2) dNil)) dNil))))))
  (dSeq (dSet 4 (dLst dNil))
  (dSeq (dFor (diVal (dVar 2)) (dgName 5) (dFor (diVal (dCall 2 ph__law_row (dCons (dVar 5) (dCons (dVar 3) dNil)))) (dgName 6) (dApp 4 (dVar 6))))
  (dSeq (dWhile (dTst (dBin gLt (dBlt gLen (dConsW (dVarB 4) dNil)) (dVarB 1))) (dApp 4 (dC (.int 0))))
  (dRet (dSl (dVarB 4) dNoPart (dPart (dVarB 1)))))))))
/- theorem M_law_numbers : MD r_law_numbers 2 7 ph_law_numbers := fun ds Qd Xd h hl => by -/
def ph__law_numbers : Ph := fun ds Qd _ => ∃ (d : D) (sc : List Int) (m : Nat), ds = [d, .int m] ∧ (d = .scr sc ∨ d = .lst (sc.map .int)) ∧ (∀ c ∈ sc, c.natAbs.log2 < 4000000) ∧ sc.length ≤ 63 ∧ m ≤ 400 ∧ ∀ ns : List Int, ns.length = m → (∀ n ∈ ns, In9 n) → Qd (.lst (ns.map .int))
theorem M_law_numbers : MD r_law_numbers 2 7 ph__law_numbers := fun ds Qd Xd h hl => by
  obtain ⟨d, sc, m, rfl, hd0, hs, hl, hm, q⟩ := h
  unfold r_law_numbers
  have sk : ∀ lo hi f, sK d lo hi f = f (.lst (cutD (sc.map .int) lo hi)) .fr := fun lo hi f => by rcases hd0 with rfl | rfl <;> rfl
  walk_at "ev"
  simp (dsimp := false) only [sk]
  walk_at "ev"
  have ec : cutD (sc.map D.int) none (some 63) = sc.map D.int := (cutD_take _ 63).trans (List.take_of_length_le (by rw [List.length_map]; exact hl))
  simp only [ec, List.length_map]
  have hd : 0 < (if (sc.length : Int) > 1 then (sc.length : Int) else 1) ∧ (if (sc.length : Int) > 1 then (sc.length : Int) else 1) < 1073741824 := by split <;> omega
  generalize (if (sc.length : Int) > 1 then (sc.length : Int) else 1) = dv at hd
  have q0 : 0 ≤ (m : Int) / dv := Int.ediv_nonneg (by omega) (by omega)
  have q1 : (m : Int) / dv ≤ m := Int.ediv_le_self _ (by omega)
  obtain ⟨e, he, hle⟩ : ∃ e : Nat, (1 : Int) + m / dv = (e : Int) ∧ e ≤ 401 := ⟨(1 + (m : Int) / dv).toNat, by omega, by omega⟩
  rw [he]
  refine ⟨hd, forK.map (fun k ρ => ∃ (ns : List Int) (x y : Sl), ρ = [.va d, .va (.int m), .va (.lst (sc.map .int)), .va (.int e), .ow (ns.map .int), x, y] ∧ ns.length ≤ k * 401 ∧ ∀ n ∈ ns, In9 n) ⟨[], _, _, rfl, by simp, by simp⟩ ?_ ?_⟩
  · rintro k c ρ' hc lt ⟨ns, x, y, rfl, nl, h9⟩
    walk_at "ev"
    refine ⟨c, e, rfl, hs c (List.mem_of_getElem? hc), by omega, fun rs rl r9 => ?_⟩
    walk_at "ev"
    refine forK.map (fun j ρ => ∃ (ns : List Int) (y : Sl), ρ = [.va d, .va (.int m), .va (.lst (sc.map .int)), .va (.int e), .ow (ns.map .int), .va (.int c), y] ∧ ns.length ≤ k * 401 + j ∧ ∀ n ∈ ns, In9 n) ⟨ns, _, rfl, by omega, h9⟩ ?_ ?_
    · rintro j u ρ' hu lj ⟨ms, z, rfl, ml, m9⟩
      walk_at "ev"
      refine ⟨by unfold sizeLine; omega, ms ++ [u], _, by rw [List.map_append]; rfl, by rw [List.length_append]; show _ + 1 ≤ _; omega, fun n hn => (List.mem_append.mp hn).elim (m9 n) fun z => by rw [List.mem_singleton.mp z]; exact r9 u (List.mem_of_getElem? hu)⟩
    · rintro ρ' ⟨ms, z, rfl, ml, m9⟩
      exact ⟨ms, _, _, rfl, by omega, m9⟩
  · rintro ρ' ⟨ns, x, y, rfl, nl, h9⟩
    walk_at "ev"
    refine whileK.mk (fun n ρ => ∃ (ns : List Int), ρ = [.va d, .va (.int m), .va (.lst (sc.map .int)), .va (.int e), .ow (ns.map .int), x, y] ∧ ns.length ≤ 63 * 401 + m ∧ (∀ n ∈ ns, In9 n) ∧ n = m - ns.length) _ ⟨ns, rfl, by
      have := Nat.mul_le_mul_right 401 hl
      omega, h9, rfl⟩ ?_
    rintro n ρ1 ⟨ns, rfl, nl, h9, rfl⟩
    walk_at "ev"
    refine iK_d (fun c => ?_) fun c => ?_
    · walk_at "ev"
      refine ⟨by unfold sizeLine; omega, m - (ns.length + 1), by omega, ns ++ [0], by rw [List.map_append]; rfl, by rw [List.length_append]; show _ + 1 ≤ _; omega, fun n hn => (List.mem_append.mp hn).elim (h9 n) fun z => by rw [List.mem_singleton.mp z]; exact ⟨by decide, by decide⟩, by rw [List.length_append]; rfl⟩
    · walk_at "ev"
      rw [cutD_take, ← List.map_take]
      exact q _ (by rw [List.length_take]; omega) fun n hn => h9 n (List.mem_of_mem_take hn)
end DL

-- part NA
set_option Elab.async false
set_option linter.all false
set_option maxRecDepth 100000
set_option maxHeartbeats 2000000
namespace K8
open PySem PySem.Spec PyProof.Rows L2 GxR GS GA GD DL
local macro_rules | `(tactic| walk_at "ev") => `(tactic| simp (dsimp := false) only [k0, k1, k2, k3, iK_true, iK_false, iK_not, sl_0, sl_s, vK_va, vK_ow, bK_va, bK_ow, dVar_ev, dVarB_ev, dC_ev, dBin_ev, tK_bl, dTst_ev, dAnd_ev, dOr_ev, dNot_ev, dAndV_ev, dOrV_ev, dNotV_ev, dIf_ev, dNext_ev, dSeq_st, kS_e, dBreak_ev, dCont_ev, dRet_ev, dRetN_ev, dIfS_ev, dSet_ev, dDrop_ev, slOf_fr, slOf_sh, gAdd_i, gAdd_s, gAdd_l, gAdd_t, num_i, gEq_i, gEq_s, gEq_b, gEq_sn, gEq_ns, gEq_in, gEq_ni, gEq_nn, gEq_is, gEq_si, gNe_i, gNe_s, gNe_b, gNe_sn, gNe_ns, gNe_in, gNe_ni, gNe_nn, gEq_l, gEq_t, gNe_l, gNe_t,
    gIsN_n, gIsN_s, gIsN_i, gIsN_l, gIsN_t, gNotN_n, gNotN_s, gNotN_i, gNotN_l, gNotN_t, gIn_l, gIn_t, gNin_l, gNin_t, flD_s, flD_i, flD_n, flD_str, flD_int, has_strs, gIx_l, gIx_t, gIx_s, DL.at0, at1, at2, at3, at4, at5, dNoPart_ev, pK_i, dPart_ev, sK_l, sK_r, sK_t, sK_s, dSl_ev, dNil_ev, dCons_ev, dConsW_ev, itsD_l, itsD_t, dStar_ev, dLst_ev, dTup_ev, dBlt_ev, gLen_l, gLen_t, gLen_r, gLen_s, gInt_i, gInt_b, gAbs_i, gMax_i, gMin_i, gTuple_l, gTuple_t, gList_l, gList_t, oW_ow, owAt_ev, decide_true, decide_false, Bool.not_true, Bool.not_false, gRepr_1, dStarT_ev, dRepl_ev, dTryAs0_ev, dTryOn_ev, dIsx0_ev, xnK_x, dIdx_ev, liK_l, has_two, stK_l, gTimes_s, zK_s, dSplit_ev, dJoin_ev, dInTab_ev, dIxTab_ev, gInD_l, gInS_s, gNinS_s, chK_b, dChn_ev, is_tt, is_ll, is_tn, is_bn, dTryAs_ev, dXf_ev, dIsx_ev, xK_x, dRaise1_ev, dIsi_ev, is_ss, is_sl, is_st, is_bb, dProp_ev, prK_i, xc_c, xc_a, dApp_ev, dStI_ev, wK_sh, wK_fr, wK_bo, wK_t, wK_r, wK_s, diVal_ev, rK_i, diRng_ev, eK_sh, eK_fr, eK_bo, diEnum_ev, dgName_ev, dgNil_ev, dgCons_ev, dgTup_ev, dAsg_ev, dFor_ev, dWhile_ev, dLc_ev, dGen_ev, dCall_ev, mK_i, dMeth_ev, fK_i, dFld_ev, nK_i, dNeg_ev, dYes_ev, oK_some, List.length_map, rng_len, Int.toNat_natCast,
    List.map_cons, List.map_nil, List.length_cons, List.length_nil, List.length_set, List.replicate_succ, List.replicate_zero, List.nil_append, List.cons_append, List.set_cons_zero, List.set_cons_succ, Nat.reduceAdd, Nat.reduceSub, ne_eq, reduceCtorEq, not_false_eq_true, not_true_eq_false, true_and, and_true, Nat.reduceLT, Nat.reduceLeDiff, Nat.zero_le, Bool.false_eq_true])
local macro_rules | `(tactic| walk_at "st") => `(tactic| simp (dsimp := false) only [k0, k1, k2, k3, iK_true, iK_false, iK_not, sl_0, sl_s, vK_va, vK_ow, bK_va, bK_ow, dVar_ev, dVarB_ev, dC_ev, dBin_ev, tK_bl, dTst_ev, dAnd_ev, dOr_ev, dNot_ev, dAndV_ev, dOrV_ev, dNotV_ev, dIf_ev, dNext_ev, dSeq_st, kS_e, dBreak_ev, dCont_ev, dRet_ev, dRetN_ev, dSet_ev, dDrop_ev, slOf_fr, slOf_sh, gAdd_i, gAdd_s, gAdd_l, gAdd_t, num_i, gEq_i, gEq_s, gEq_b, gEq_sn, gEq_ns, gEq_in, gEq_ni, gEq_nn, gEq_is, gEq_si, gNe_i, gNe_s, gNe_b, gNe_sn, gNe_ns, gNe_in, gNe_ni, gNe_nn, gEq_l, gEq_t, gNe_l, gNe_t,
    gIsN_n, gIsN_s, gIsN_i, gIsN_l, gIsN_t, gNotN_n, gNotN_s, gNotN_i, gNotN_l, gNotN_t, gIn_l, gIn_t, gNin_l, gNin_t, flD_s, flD_i, flD_n, flD_str, flD_int, has_strs, gIx_l, gIx_t, gIx_s, DL.at0, at1, at2, at3, at4, at5, dNoPart_ev, pK_i, dPart_ev, sK_l, sK_r, sK_t, sK_s, dSl_ev, dNil_ev, dCons_ev, dConsW_ev, itsD_l, itsD_t, dStar_ev, dLst_ev, dTup_ev, dBlt_ev, gLen_l, gLen_t, gLen_r, gLen_s, gInt_i, gInt_b, gAbs_i, gMax_i, gMin_i, gTuple_l, gTuple_t, gList_l, gList_t, oW_ow, owAt_ev, decide_true, decide_false, Bool.not_true, Bool.not_false, gRepr_1, dStarT_ev, dRepl_ev, dTryAs0_ev, dTryOn_ev, dIsx0_ev, xnK_x, dIdx_ev, liK_l, has_two, stK_l, gTimes_s, zK_s, dSplit_ev, dJoin_ev, dInTab_ev, dIxTab_ev, gInD_l, gInS_s, gNinS_s, chK_b, dChn_ev, is_tt, is_ll, is_tn, is_bn, dTryAs_ev, dXf_ev, dIsx_ev, xK_x, dRaise1_ev, dIsi_ev, is_ss, is_sl, is_st, is_bb, dProp_ev, prK_i, xc_c, xc_a, dApp_ev, dStI_ev, wK_sh, wK_fr, wK_bo, wK_t, wK_r, wK_s, diVal_ev, rK_i, diRng_ev, eK_sh, eK_fr, eK_bo, diEnum_ev, dgName_ev, dgNil_ev, dgCons_ev, dgTup_ev, dAsg_ev, dFor_ev, dWhile_ev, dLc_ev, dGen_ev, dCall_ev, mK_i, dMeth_ev, fK_i, dFld_ev, nK_i, dNeg_ev, dYes_ev, oK_some, List.length_map, rng_len, Int.toNat_natCast,
    List.map_cons, List.map_nil, List.length_cons, List.length_nil, List.length_set, List.replicate_succ, List.replicate_zero, List.nil_append, List.cons_append, List.set_cons_zero, List.set_cons_succ, Nat.reduceAdd, Nat.reduceSub, ne_eq, reduceCtorEq, not_false_eq_true, not_true_eq_false, true_and, and_true, Nat.reduceLT, Nat.reduceLeDiff, Nat.zero_le, Bool.false_eq_true])
theorem atn {ns : List Int} {i : Int} {j : Nat} (e : i = (j : Int)) (h : j < ns.length) : atI (ns.map D.int) i = some (.int (nu ns j)) := at_ix (k := j) e (by
  unfold nu
  rw [List.getD_eq_getElem?_getD, List.getElem?_eq_getElem h]
  rfl)
theorem signs_at {i : Int} (h0 : 0 ≤ i) (h1 : i < 36) : atI signs.cps.toList i = some (sg i) := by
  have e : i = ((i.toNat : Nat) : Int) := by omega
  rw [e]
  refine atI_nat ?_
  have := sg_at h0 h1
  rw [← Array.getElem?_toList] at this
  rw [this]
  rw [← e]
abbrev N_law_names : List Str := ["numbers", "at", "many", "chars", "prefix", "k", "place", "shift"]
def r_law_names : DS :=
  (dSeq (dIfS (dTst (dBin gEq (dBin gMod (dBlt gInt (dConsW (dBin gIx (dVarB 0) (dC (.int 99))) dNil)) (dC (.int 4))) (dC (.int 1)))) (dSet 1 (dC (.int 0))) dNext)
  (dSeq (dSet 3 (dC (.str "abcdefghijklmnopqrstuvwxyz0123456789")))
  (dSeq (dSet 4 (dBin gIx (dVarB 3) (dBin gMod (dBlt gInt (dConsW (dBin gIx (dVarB 0) (dVarB 1)) dNil)) (dC (.int 26)))))
  (dSeq (dFor (diRng (dConsW (dBin gMod (dBlt gInt (dConsW (dBin gIx (dVarB 0) (dBin gAdd (dVarB 1) (dC (.int 1)))) dNil)) (dC (.int 11))) dNil)) (dgName 5) (dSet 4 (dBin gAdd (dVarB 4) (dBin gIx (dVarB 3) (dBin gMod (dBlt gInt (dConsW (dBin gAdd (dBin gIx (dVarB 0) (dBin gAdd (dVarB 1) (dC (.int 2)))) (dBin gMul (dVarB 5) (dBin gIx (dVarB 0) (dBin gAdd (dVarB 1) (dC (.int 3)))))) dNil)) (dC (.int 36)))))))
  (dSeq (dSet 6 (dBin gAdd (dC (.int 1)) (dBin gMod (dBlt gInt (dConsW (dBin gIx (dVarB 0) (dBin gAdd (dVarB 1) (dC (.int 4)))) dNil)) (dBlt gLen (dConsW (dVarB 4) dNil)))))
  (dSeq (dSet 7 (dBlt gInt (dConsW (dBin gIx (dVarB 0) (dBin gAdd (dVarB 1) (dC (.int 5)))) dNil)))
  (dRet (dLc (diRng (dConsW (dVarB 2) dNil)) 5 dYes (dBin gAdd (dBin gAdd (dSl (dVarB 4) dNoPart (dPart (dVarB 6))) (dBin gIx (dVarB 3) (dBin gMod (dBlt gInt (dConsW (dBin gAdd (dVarB 7) (dBin gMul (dC (.int 5)) (dVarB 5))) dNil)) (dC (.int 36))))) (dSl (dVarB 4) (dPart (dVarB 6)) dNoPart))))))))))
/- theorem M_law_names : MD r_law_names 3 8 ph_law_names := fun ds Qd Xd h hl => by -/
def ph__law_names : Ph := fun ds Qd _ => ∃ (ns : List Int) (a m : Nat), ds = [.lst (ns.map .int), .int a, .int m] ∧ ns.length = 136 ∧ (∀ n ∈ ns, In9 n) ∧ a + 6 ≤ 136 ∧ m ≤ 36 ∧ Qd (.lst ((lawNames ns a m).map .str))
theorem M_law_names : MD r_law_names 3 8 ph__law_names := fun ds Qd Xd h hl => by
  obtain ⟨ns, a, m, rfl, hn, h9, ha, hm, q⟩ := h
  unfold r_law_names
  walk_at "ev"
  refine oK.mk (atn (ns := ns) (i := 99) (j := 99) rfl (by omega)) ?_
  walk_at "ev"
  refine ⟨by decide, iK_J (fun ρ => ρ = [.va (.lst (ns.map .int)), .va (.int (nmAt ns a : Nat)), .va (.int m), .no, .no, .no, .no, .no]) (fun c J e => ?_) (fun c J e => ?_) ?_⟩
  · walk_at "ev"
    refine J _ ?_
    unfold nmAt
    rw [if_pos (of_decide_eq_true e)]
    rfl
  · walk_at "ev"
    refine J _ ?_
    unfold nmAt
    rw [if_neg (of_decide_eq_false e)]
  rintro ρ' rfl
  have hb : nmAt ns a + 6 ≤ 136 := by unfold nmAt; split <;> omega
  have qe : lawNames ns a m = (List.range m).map fun k : Nat => mkS (nmOne ns (nmAt ns a) k) := rfl
  rw [qe] at q
  generalize nmAt ns a = b at hb q
  have m0 : ∀ (x : Int) {c : Int}, 0 < c → 0 ≤ x % c ∧ x % c < c := fun x c h => ⟨Int.emod_nonneg _ (by omega), Int.emod_lt_of_pos _ h⟩
  have n9 : ∀ j, In9 (nu ns j) := fun j => nu_in9 h9 j
  walk_at "ev"
  have z := m0 (nu ns b) (show (0 : Int) < 26 by decide)
  have z1 := m0 (nu ns (b + 1)) (show (0 : Int) < 11 by decide)
  refine oK.mk (atn (j := b) rfl (by omega)) ?_
  walk_at "ev"
  refine ⟨by decide, by decide, oK.mk (signs_at z.1 (by omega)) ?_⟩
  walk_at "ev"
  refine oK.mk (atn (j := b + 1) (by omega) (by omega)) ?_
  walk_at "ev"
  refine ⟨by decide, by omega, by omega, ?_⟩
  have lp := nmPre_len ns b
  refine forK.rng (fun k ρ => ∃ x, ρ = [.va (.lst (ns.map .int)), .va (.int b), .va (.int m), .va (.str signs), .va (.str (mkS (nmPre ns b k))), x, .no, .no]) ⟨_, rfl⟩ ?_ ?_
  · rintro k ρ' lt ⟨x, rfl⟩
    have w1 := n9 (b + 3)
    have z2 := m0 (nu ns (b + 2) + (k : Int) * nu ns (b + 3)) (show (0 : Int) < 36 by decide)
    walk_at "ev"
    refine oK.mk (atn (j := b + 2) (by omega) (by omega)) ?_
    walk_at "ev"
    refine oK.mk (atn (j := b + 3) (by omega) (by omega)) ?_
    walk_at "ev"
    refine ⟨?_, by decide, by decide, oK.mk (signs_at z2.1 (by omega)) ?_⟩
    · have h1 := log2_small (i := (k : Int)) (b := 4) (by omega) (by show _ < (2 : Int) ^ 4; omega)
      have h2 := log2_small (i := nu ns (b + 3)) (b := 10) w1.1 (by have := w1.2; show _ < (2 : Int) ^ 10; omega)
      show _ + _ < _
      omega
    walk_at "ev"
    refine ⟨?_, .va (.int (k : Int)), ?_⟩
    · rw [mkS_len, lp]
      show _ + 1 ≤ sizeLine
      unfold sizeLine; omega
    · rw [mkS_snoc]
      unfold nmPre
      rw [List.range_succ, List.map_append]
      rfl
  · rintro ρ' ⟨x, rfl⟩
    generalize hn1 : (nu ns (b + 1) % 11).toNat = n1
    have hl1 := lp n1
    have n10 : n1 ≤ 10 := by omega
    obtain ⟨p1, p2, p3⟩ := nmPlace_le ns b (nmPre ns b n1) (by omega)
    walk_at "ev"
    refine oK.mk (atn (j := b + 4) (by omega) (by omega)) ?_
    walk_at "ev"
    rw [mkS_len]
    refine ⟨by unfold sizeLine; omega, by omega, ?_⟩
    rw [← p3]
    refine oK.mk (atn (j := b + 5) (by omega) (by omega)) ?_
    walk_at "ev"
    refine ⟨by omega, by omega, lcK.rng (fun k => .str (mkS (nmOne ns b k))) (by unfold sizeLine; omega) (fun k lt => ?_) ?_⟩
    · have z2 := m0 (nu ns (b + 5) + 5 * (k : Int)) (show (0 : Int) < 36 by decide)
      walk_at "ev"
      refine ⟨?_, ?_, by decide, by decide, oK.mk (signs_at z2.1 (by omega)) ?_⟩
      · rw [mkS_len]; unfold sizeLine; omega
      · have h1 := log2_small (i := (k : Int)) (b := 6) (by omega) (by show _ < (2 : Int) ^ 6; omega)
        show (5 : Nat).log2 + _ < _
        have : (5 : Nat).log2 = 2 := by decide
        omega
      walk_at "ev"
      rw [cutS_take, cutS_drop, mkS_snoc, mkS_app]
      simp only [mkS_len]
      have l1 : ((nmPre ns b n1).take (nmPlace ns b (nmPre ns b n1))).length ≤ n1 + 1 := by rw [List.length_take]; omega
      have l2 : ((nmPre ns b n1).drop (nmPlace ns b (nmPre ns b n1))).length ≤ n1 + 1 := by rw [List.length_drop]; omega
      refine ⟨?_, by unfold sizeLine; omega, ?_, ?_⟩
      · show _ + 1 ≤ sizeLine
        unfold sizeLine; omega
      · rw [List.length_append]
        show _ + 1 + _ ≤ sizeLine
        unfold sizeLine; omega
      · unfold nmOne
        rw [hn1]
    · walk_at "ev"
      rw [List.map_map] at q
      exact q
end K8

-- part NB
set_option Elab.async false
set_option linter.all false
set_option maxRecDepth 100000
set_option maxHeartbeats 2000000
namespace K8
open PySem PySem.Spec PyProof.Rows L2 GxR GS GA GD DL
local macro_rules | `(tactic| walk_at "ev") => `(tactic| simp (dsimp := false) only [k0, k1, k2, k3, iK_true, iK_false, iK_not, sl_0, sl_s, vK_va, vK_ow, bK_va, bK_ow, dVar_ev, dVarB_ev, dC_ev, dBin_ev, tK_bl, dTst_ev, dAnd_ev, dOr_ev, dNot_ev, dAndV_ev, dOrV_ev, dNotV_ev, dIf_ev, dNext_ev, dSeq_st, kS_e, dBreak_ev, dCont_ev, dRet_ev, dRetN_ev, dIfS_ev, dSet_ev, dDrop_ev, slOf_fr, slOf_sh, gAdd_i, gAdd_s, gAdd_l, gAdd_t, num_i, gEq_i, gEq_s, gEq_b, gEq_sn, gEq_ns, gEq_in, gEq_ni, gEq_nn, gEq_is, gEq_si, gNe_i, gNe_s, gNe_b, gNe_sn, gNe_ns, gNe_in, gNe_ni, gNe_nn, gEq_l, gEq_t, gNe_l, gNe_t,
    gIsN_n, gIsN_s, gIsN_i, gIsN_l, gIsN_t, gNotN_n, gNotN_s, gNotN_i, gNotN_l, gNotN_t, gIn_l, gIn_t, gNin_l, gNin_t, flD_s, flD_i, flD_n, flD_str, flD_int, has_strs, gIx_l, gIx_t, gIx_s, DL.at0, at1, at2, at3, at4, at5, dNoPart_ev, pK_i, dPart_ev, sK_l, sK_r, sK_t, sK_s, dSl_ev, dNil_ev, dCons_ev, dConsW_ev, itsD_l, itsD_t, dStar_ev, dLst_ev, dTup_ev, dBlt_ev, gLen_l, gLen_t, gLen_r, gLen_s, gInt_i, gInt_b, gAbs_i, gMax_i, gMin_i, gTuple_l, gTuple_t, gList_l, gList_t, oW_ow, owAt_ev, decide_true, decide_false, Bool.not_true, Bool.not_false, gRepr_1, dStarT_ev, dRepl_ev, dTryAs0_ev, dTryOn_ev, dIsx0_ev, xnK_x, dIdx_ev, liK_l, has_two, stK_l, gTimes_s, zK_s, dSplit_ev, dJoin_ev, dInTab_ev, dIxTab_ev, gInD_l, gInS_s, gNinS_s, chK_b, dChn_ev, is_tt, is_ll, is_tn, is_bn, dTryAs_ev, dXf_ev, dIsx_ev, xK_x, dRaise1_ev, dIsi_ev, is_ss, is_sl, is_st, is_bb, dProp_ev, prK_i, xc_c, xc_a, dApp_ev, dStI_ev, wK_sh, wK_fr, wK_bo, wK_t, wK_r, wK_s, diVal_ev, rK_i, diRng_ev, eK_sh, eK_fr, eK_bo, diEnum_ev, dgName_ev, dgNil_ev, dgCons_ev, dgTup_ev, dAsg_ev, dFor_ev, dWhile_ev, dLc_ev, dGen_ev, dCall_ev, mK_i, dMeth_ev, fK_i, dFld_ev, nK_i, dNeg_ev, dYes_ev, oK_some, List.length_map, rng_len, Int.toNat_natCast,
    List.map_cons, List.map_nil, List.length_cons, List.length_nil, List.length_set, List.replicate_succ, List.replicate_zero, List.nil_append, List.cons_append, List.set_cons_zero, List.set_cons_succ, Nat.reduceAdd, Nat.reduceSub, ne_eq, reduceCtorEq, not_false_eq_true, not_true_eq_false, true_and, and_true, Nat.reduceLT, Nat.reduceLeDiff, Nat.zero_le, Bool.false_eq_true])
local macro_rules | `(tactic| walk_at "st") => `(tactic| simp (dsimp := false) only [k0, k1, k2, k3, iK_true, iK_false, iK_not, sl_0, sl_s, vK_va, vK_ow, bK_va, bK_ow, dVar_ev, dVarB_ev, dC_ev, dBin_ev, tK_bl, dTst_ev, dAnd_ev, dOr_ev, dNot_ev, dAndV_ev, dOrV_ev, dNotV_ev, dIf_ev, dNext_ev, dSeq_st, kS_e, dBreak_ev, dCont_ev, dRet_ev, dRetN_ev, dSet_ev, dDrop_ev, slOf_fr, slOf_sh, gAdd_i, gAdd_s, gAdd_l, gAdd_t, num_i, gEq_i, gEq_s, gEq_b, gEq_sn, gEq_ns, gEq_in, gEq_ni, gEq_nn, gEq_is, gEq_si, gNe_i, gNe_s, gNe_b, gNe_sn, gNe_ns, gNe_in, gNe_ni, gNe_nn, gEq_l, gEq_t, gNe_l, gNe_t,
    gIsN_n, gIsN_s, gIsN_i, gIsN_l, gIsN_t, gNotN_n, gNotN_s, gNotN_i, gNotN_l, gNotN_t, gIn_l, gIn_t, gNin_l, gNin_t, flD_s, flD_i, flD_n, flD_str, flD_int, has_strs, gIx_l, gIx_t, gIx_s, DL.at0, at1, at2, at3, at4, at5, dNoPart_ev, pK_i, dPart_ev, sK_l, sK_r, sK_t, sK_s, dSl_ev, dNil_ev, dCons_ev, dConsW_ev, itsD_l, itsD_t, dStar_ev, dLst_ev, dTup_ev, dBlt_ev, gLen_l, gLen_t, gLen_r, gLen_s, gInt_i, gInt_b, gAbs_i, gMax_i, gMin_i, gTuple_l, gTuple_t, gList_l, gList_t, oW_ow, owAt_ev, decide_true, decide_false, Bool.not_true, Bool.not_false, gRepr_1, dStarT_ev, dRepl_ev, dTryAs0_ev, dTryOn_ev, dIsx0_ev, xnK_x, dIdx_ev, liK_l, has_two, stK_l, gTimes_s, zK_s, dSplit_ev, dJoin_ev, dInTab_ev, dIxTab_ev, gInD_l, gInS_s, gNinS_s, chK_b, dChn_ev, is_tt, is_ll, is_tn, is_bn, dTryAs_ev, dXf_ev, dIsx_ev, xK_x, dRaise1_ev, dIsi_ev, is_ss, is_sl, is_st, is_bb, dProp_ev, prK_i, xc_c, xc_a, dApp_ev, dStI_ev, wK_sh, wK_fr, wK_bo, wK_t, wK_r, wK_s, diVal_ev, rK_i, diRng_ev, eK_sh, eK_fr, eK_bo, diEnum_ev, dgName_ev, dgNil_ev, dgCons_ev, dgTup_ev, dAsg_ev, dFor_ev, dWhile_ev, dLc_ev, dGen_ev, dCall_ev, mK_i, dMeth_ev, fK_i, dFld_ev, nK_i, dNeg_ev, dYes_ev, oK_some, List.length_map, rng_len, Int.toNat_natCast,
    List.map_cons, List.map_nil, List.length_cons, List.length_nil, List.length_set, List.replicate_succ, List.replicate_zero, List.nil_append, List.cons_append, List.set_cons_zero, List.set_cons_succ, Nat.reduceAdd, Nat.reduceSub, ne_eq, reduceCtorEq, not_false_eq_true, not_true_eq_false, true_and, and_true, Nat.reduceLT, Nat.reduceLeDiff, Nat.zero_le, Bool.false_eq_true])
theorem has_e (x : Str) (l : List Str) : hasD (.str x) (l.map .str) = l.contains x := has_strs ..
abbrev N_law_some : List Str := ["rights", "number", "without", "found", "k", "turn"]
def r_law_some : DS :=
  (dSeq (dSet 3 (dLst dNil))
  (dSeq (dFor (diRng (dConsW (dBlt gLen (dConsW (dVarB 0) dNil)) dNil)) (dgName 4) (dIfS (dAnd (dTst (dBin gEq (dBin gMod (dBin gDiv (dBlt gInt (dConsW (dVarB 1) dNil)) (dBin gIx (dLst (dCons (dC (.int 1)) (dCons (dC (.int 2)) (dCons (dC (.int 4)) (dCons (dC (.int 8)) (dCons (dC (.int 16)) (dCons (dC (.int 32)) dNil))))))) (dVarB 4))) (dC (.int 2))) (dC (.int 1)))) (dTst (dBin gNin (dBin gIx (dVarB 0) (dVarB 4)) (dVarB 2)))) (dApp 3 (dBin gIx (dVarB 0) (dVarB 4))) dNext))
  (dSeq (dSet 5 (dBin gMod (dBin gDiv (dBlt gInt (dConsW (dVarB 1) dNil)) (dC (.int 64))) (dBlt gMax (dConsW (dC (.int 1)) (dConsW (dBlt gLen (dConsW (dVarB 3) dNil)) dNil)))))
  (dRet (dBin gAdd (dSl (dVarB 3) (dPart (dVarB 5)) dNoPart) (dSl (dVarB 3) dNoPart (dPart (dVarB 5))))))))
/- theorem M_law_some : MD r_law_some 3 6 ph_law_some := fun ds Qd Xd h hl => by -/
def ph__law_some : Ph := fun ds Qd _ => ∃ (rights wo : List Str) (n : Int), ds = [.lst (rights.map .str), .int n, .lst (wo.map .str)] ∧ rights.length ≤ 6 ∧ Qd (.lst ((lawSome rights n wo).map .str))
theorem M_law_some : MD r_law_some 3 6 ph__law_some := fun ds Qd Xd h hl => by
  obtain ⟨rights, wo, n, rfl, l6, q⟩ := h
  unfold r_law_some
  walk_at "ev"
  refine ⟨by omega, by omega, forK.rng (fun k ρ => ∃ x, ρ = [.va (.lst (rights.map .str)), .va (.int n), .va (.lst (wo.map .str)), .ow ((fnd rights n wo k).map .str), x, .no]) ⟨_, rfl⟩ ?_ ?_⟩
  · rintro k ρ' hk ⟨x, rfl⟩
    have p2 : atI ([1, 2, 4, 8, 16, 32].map D.int) (k : Int) = some (.int (pw2 k)) := at_map (x := pw2 k) (by
      have : ∀ k < 6, ([1, 2, 4, 8, 16, 32] : List Int)[k]? = some (pw2 k) := by decide
      exact this k (by omega))
    have pp : CDiv n (pw2 k) := by
      have : ∀ k < 6, 0 < pw2 k ∧ pw2 k < 1073741824 := by decide
      exact this k (by omega)
    have p3 : atI (rights.map D.str) (k : Int) = some (.str (rights.getD k ⟨#[]⟩)) := at_map (by
      rw [List.getD_eq_getElem?_getD, List.getElem?_eq_getElem hk]
      rfl)
    have fs := fnd_succ rights n wo k
    have fl := fnd_len rights n wo k
    simp only [List.map_cons, List.map_nil] at p2
    walk_at "ev"
    refine ⟨by decide, oK.mk p2 ?_⟩
    walk_at "ev"
    refine ⟨pp, by decide, iK_d (fun c1 => ?_) fun c1 => ?_⟩
    · walk_at "ev"
      refine oK.mk p3 ?_
      walk_at "ev"
      refine iK_b (fun c2 => ?_) fun c2 => ?_
      · walk_at "ev"
        exact ⟨_, by rw [fs, if_neg (by unfold pick; rw [c2]; simp), List.append_nil]⟩
      · walk_at "ev"
        refine oK.mk p3 ?_
        walk_at "ev"
        refine ⟨by unfold sizeLine; omega, .va (.int k), ?_⟩
        rw [fs, if_pos (by unfold pick; rw [decide_eq_true c1, c2]; rfl), List.map_append]; rfl
    · walk_at "ev"
      exact ⟨_, by rw [fs, if_neg (by unfold pick; rw [decide_eq_false c1]; simp), List.append_nil]⟩
  · rintro ρ' ⟨x, rfl⟩
    walk_at "ev"
    have fl := fnd_len rights n wo rights.length
    obtain ⟨t, et⟩ : ∃ t : Nat, n / 64 % (if (((fnd rights n wo rights.length).length : Nat) : Int) > 1 then (((fnd rights n wo rights.length).length : Nat) : Int) else 1) = (t : Int) := by
      refine ⟨(n / 64 % (if (((fnd rights n wo rights.length).length : Nat) : Int) > 1 then (((fnd rights n wo rights.length).length : Nat) : Int) else 1)).toNat, ?_⟩
      have := Int.emod_nonneg (n / 64) (b := if (((fnd rights n wo rights.length).length : Nat) : Int) > 1 then (((fnd rights n wo rights.length).length : Nat) : Int) else 1) (by split <;> omega)
      omega
    have es : lawSome rights n wo = (fnd rights n wo rights.length).drop t ++ (fnd rights n wo rights.length).take t := by
      unfold lawSome
      dsimp only
      rw [et]
      rfl
    rw [et, cutD_drop, cutD_take]
    refine ⟨⟨by decide, by decide⟩, by split <;> omega, ?_, ?_⟩
    · rw [List.length_drop, List.length_take, List.length_map]; unfold sizeLine; omega
    · rw [es, List.map_append, List.map_drop, List.map_take] at q
      exact q
abbrev N_law_count : List Str := ["number", "least", "most"]
def r_law_count : DS :=
  (dSeq (dIfS (dTst (dBin gEq (dBin gMod (dBlt gInt (dConsW (dVarB 0) dNil)) (dC (.int 5))) (dC (.int 0)))) (dRet (dVar 1)) dNext)
  (dSeq (dIfS (dTst (dBin gEq (dBin gMod (dBlt gInt (dConsW (dVarB 0) dNil)) (dC (.int 5))) (dC (.int 1)))) (dRet (dVar 2)) dNext)
  (dRet (dBin gAdd (dVarB 1) (dBin gMod (dBin gDiv (dBlt gInt (dConsW (dVarB 0) dNil)) (dC (.int 5))) (dBin gAdd (dBin gSub' (dVarB 2) (dVarB 1)) (dC (.int 1))))))))
/- theorem M_law_count : MD r_law_count 3 3 ph_law_count := fun ds Qd Xd h hl => by -/
def ph__law_count : Ph := fun ds Qd _ => ∃ (n : Int) (l m : Nat), ds = [.int n, .int l, .int m] ∧ l ≤ m ∧ m ≤ 100 ∧ Qd (.int (lawCount n l m : Nat))
theorem M_law_count : MD r_law_count 3 3 ph__law_count := fun ds Qd Xd h hl => by
  obtain ⟨n, l, m, rfl, h1, h2, q⟩ := h
  unfold r_law_count
  walk_at "ev"
  refine ⟨by decide, iK_d (fun c1 => ?_) fun c1 => ?_⟩
  · walk_at "ev"
    unfold lawCount at q
    rw [if_pos c1] at q
    exact q
  walk_at "ev"
  refine ⟨by decide, iK_d (fun c2 => ?_) fun c2 => ?_⟩
  · walk_at "ev"
    unfold lawCount at q
    rw [if_neg c1, if_pos c2] at q
    exact q
  walk_at "ev"
  unfold lawCount at q
  rw [if_neg c1, if_neg c2] at q
  have g1 := Int.emod_nonneg (n / 5) (by omega : ((m : Int) - l + 1) ≠ 0)
  refine ⟨⟨by decide, by decide⟩, by omega, ?_⟩
  rw [show ((l + (n / 5 % ((m : Int) - l + 1)).toNat : Nat) : Int) = l + n / 5 % ((m : Int) - l + 1) by omega] at q
  exact q
abbrev N_law_rule : List Str := ["numbers", "at", "name", "rights", "sole", "kind", "shared", "fit", "right", "first", "second", "lacks"]
def r_law_rule : DS :=
  (dSeq (dSet 5 (dBin gIx (dLst (dCons (dC (.str "join")) (dCons (dC (.str "claim")) (dCons (dC (.str "drop")) (dCons (dC (.str "give")) (dCons (dC (.str "take")) (dCons (dC (.str "pass")) dNil))))))) (dBin gMod (dBlt gInt (dConsW (dBin gIx (dVarB 0) (dVarB 1)) dNil)) (dC (.int 6)))))
  (dSeq (dSet 6 (dLc (diVal (dVarB 3)) 8 (dTst (dBin gNin (dVarB 8) (dVarB 4))) (dVar 8)))
  (dSeq (dIfS (dTst (dBin gEq (dVarB 5) (dC (.str "join")))) (dRet (dTup (dCons (dVar 5) (dCons (dVar 2) (dCons (dCall 3 ph__law_some (dCons (dVar 6) (dCons (dBin gIx (dVarB 0) (dBin gAdd (dVarB 1) (dC (.int 1)))) (dCons (dLst dNil) dNil)))) dNil))))) dNext)
  (dSeq (dSet 7 (dVar 3))
  (dSeq (dIfS (dTst (dBin gEq (dVarB 5) (dC (.str "pass")))) (dSet 7 (dVar 4)) dNext)
  (dSeq (dIfS (dOr (dTst (dBin gEq (dVarB 5) (dC (.str "claim")))) (dTst (dBin gEq (dVarB 5) (dC (.str "give"))))) (dSet 7 (dVar 6)) dNext)
  (dSeq (dIfS (dTst (dBin gEq (dBlt gLen (dConsW (dVarB 7) dNil)) (dC (.int 0)))) (dSeq (dSet 5 (dBin gIx (dLst (dCons (dC (.str "drop")) (dCons (dC (.str "take")) dNil))) (dBin gMod (dBlt gInt (dConsW (dBin gIx (dVarB 0) (dBin gAdd (dVarB 1) (dC (.int 1)))) dNil)) (dC (.int 2)))))
  (dSet 7 (dVar 3))) dNext)
  (dSeq (dSet 8 (dBin gIx (dVarB 7) (dBin gMod (dBlt gInt (dConsW (dBin gIx (dVarB 0) (dBin gAdd (dVarB 1) (dC (.int 2)))) dNil)) (dBlt gLen (dConsW (dVarB 7) dNil)))))
  (dSeq (dSet 9 (dCall 3 ph__law_some (dCons (dVar 3) (dCons (dBin gIx (dVarB 0) (dBin gAdd (dVarB 1) (dC (.int 3)))) (dCons (dLst (dCons (dVar 8) dNil)) dNil)))))
  (dSeq (dSet 10 (dCall 3 ph__law_some (dCons (dVar 3) (dCons (dBin gIx (dVarB 0) (dBin gAdd (dVarB 1) (dC (.int 4)))) (dCons (dLst (dCons (dVar 8) dNil)) dNil)))))
  (dSeq (dSet 11 (dCall 3 ph__law_some (dCons (dVar 3) (dCons (dBin gIx (dVarB 0) (dBin gAdd (dVarB 1) (dC (.int 5)))) (dCons (dBin gAdd (dLst (dCons (dVar 8) dNil)) (dVarB 10)) dNil)))))
  (dSeq (dIfS (dOr (dTst (dBin gEq (dVarB 5) (dC (.str "claim")))) (dTst (dBin gEq (dVarB 5) (dC (.str "drop"))))) (dRet (dTup (dCons (dVar 5) (dCons (dVar 2) (dCons (dVar 10) (dCons (dVar 11) (dCons (dVar 8) dNil))))))) dNext)
  (dSeq (dIfS (dAnd (dTst (dBin gNe (dVarB 5) (dC (.str "pass")))) (dTst (dBin gEq (dBin gMod (dBlt gInt (dConsW (dBin gIx (dVarB 0) (dBin gAdd (dVarB 1) (dC (.int 1)))) dNil)) (dC (.int 3))) (dC (.int 1))))) (dSet 9 (dBin gAdd (dVarB 9) (dLst (dCons (dVar 8) dNil)))) dNext)
  (dRet (dTup (dCons (dVar 5) (dCons (dVar 2) (dCons (dVar 9) (dCons (dVar 10) (dCons (dVar 11) (dCons (dVar 8) dNil)))))))))))))))))))))
/- theorem M_law_rule : MD r_law_rule 5 12 ph_law_rule := fun ds Qd Xd h hl => by -/
def dL (l : List Str) : D := .lst (l.map .str)
def dRl (r : Ru) : D := .tup (.str r.kind :: .str r.name :: (r.ls.map dL ++ r.right.toList.map .str))
theorem k6_at {i : Int} (h0 : 0 ≤ i) (h1 : i < 6) : atI (kinds6.map D.str) i = some (.str (kinds6.getD i.toNat ⟨#[]⟩)) := by
  have e : i = ((i.toNat : Nat) : Int) := by omega
  refine at_ix (k := i.toNat) e ?_
  have hl : i.toNat < kinds6.length := by show _ < 6; omega
  rw [List.getD_eq_getElem?_getD, List.getElem?_eq_getElem hl]
  rfl
theorem st_ix {l : List Str} {i : Int} {j : Nat} (e : i = (j : Int)) (h : j < l.length) : atI (l.map D.str) i = some (.str (l.getD j ⟨#[]⟩)) := at_ix (k := j) e (by
  rw [List.getD_eq_getElem?_getD, List.getElem?_eq_getElem h]
  rfl)
def ph__law_rule : Ph := fun ds Qd _ => ∃ (ns : List Int) (a : Nat) (name : Str) (R S : List Str), ds = [.lst (ns.map .int), .int a, .str name, dL R, dL S] ∧ ns.length = 136 ∧ (∀ n ∈ ns, In9 n) ∧ a + 6 ≤ 136 ∧ R.length ≤ 6 ∧ 0 < R.length ∧ S.length ≤ 6 ∧ Qd (dRl (lawRule ns a name R S))
theorem M_law_rule : MD r_law_rule 5 12 ph__law_rule := fun ds Qd Xd h hl => by
  obtain ⟨ns, a, name, R, S, rfl, hn, h9, ha, lR, l0, lS, q⟩ := h
  unfold r_law_rule dL
  have m0 : ∀ (x : Int) {c : Int}, 0 < c → 0 ≤ x % c ∧ x % c < c := fun x c h => ⟨Int.emod_nonneg _ (by omega), Int.emod_lt_of_pos _ h⟩
  have z6 := m0 (nu ns a) (show (0 : Int) < 6 by decide)
  have k6 := k6_at z6.1 z6.2
  have shl : (shd R S).length ≤ 6 := Nat.le_trans (List.length_filter_le ..) lR
  walk_at "ev"
  refine ⟨by decide, oK.mk (atn (j := a) rfl (by omega)) ?_⟩
  walk_at "ev"
  refine ⟨by decide, oK.mk k6 ?_⟩
  walk_at "ev"
  refine lcK.map inj_str (fun x => !S.contains x) .str (by unfold sizeLine; omega) (fun x hx o ho => ?_) ?_
  · walk_at "ev"
    rw [ho]
    refine iK_b (fun c => ?_) fun c => ?_
    · rw [c]; rfl
    · walk_at "ev"
      rw [c]; rfl
  rw [show (R.filter fun x => !S.contains x) = shd R S from rfl]
  generalize hk0 : kinds6.getD (nu ns a % 6).toNat ⟨#[]⟩ = kd
  have hK : rK0 ns a = kd := hk0
  walk_at "ev"
  refine iK_d (fun c1 => ?_) fun c1 => ?_
  · walk_at "ev"
    refine oK.mk (atn (j := a + 1) (by omega) (by omega)) ?_
    walk_at "ev"
    refine ⟨shd R S, [], _, rfl, shl, ?_⟩
    walk_at "ev"
    refine ⟨by decide, ?_⟩
    unfold lawRule at q
    rw [if_pos (hK.trans c1), hK] at q
    exact q
  walk_at "st"
  have f0 : (if kd = "pass" then S else R).length ≤ 6 := by split <;> omega
  refine ifJ (decide (kd = "pass")) (fun ρ => ρ = [.va (.lst (ns.map .int)), .va (.int a), .va (.str name), .va (.lst (R.map .str)), .va (.lst (S.map .str)), .va (.str kd), .ow ((shd R S).map .str), .va (.lst ((if kd = "pass" then S else R).map .str)), .no, .no, .no, .no]) (fun T r => ?_) (fun k J e => ?_) (fun k J e => ?_) ?_
  · walk_at "ev"
    exact r
  · walk_at "ev"
    refine J _ ?_
    rw [if_pos (of_decide_eq_true e)]
  · walk_at "ev"
    refine J _ ?_
    rw [if_neg (of_decide_eq_false e)]
  rintro ρ' rfl
  walk_at "st"
  have e0 : rF0 kd R S = if kd = "claim" ∨ kd = "give" then shd R S else if kd = "pass" then S else R := rfl
  refine ifJ (decide (kd = "claim") || decide (kd = "give")) (fun ρ => ∃ x6, ρ = [.va (.lst (ns.map .int)), .va (.int a), .va (.str name), .va (.lst (R.map .str)), .va (.lst (S.map .str)), .va (.str kd), x6, .va (.lst ((rF0 kd R S).map .str)), .no, .no, .no, .no]) (fun T r => ?_) (fun k J e => ?_) (fun k J e => ?_) ?_
  · walk_at "ev"
    refine iK_d (fun c => ?_) fun c => ?_
    · rw [decide_eq_true c] at r
      exact r
    · walk_at "ev"
      rw [decide_eq_false c] at r
      exact r
  · walk_at "ev"
    refine J _ ⟨.va (.lst ((shd R S).map .str)), ?_⟩
    rw [e0, if_pos (c := kd = "claim" ∨ kd = "give") (by simpa using e)]
  · walk_at "ev"
    refine J _ ⟨.ow ((shd R S).map .str), ?_⟩
    rw [e0, if_neg (c := kd = "claim" ∨ kd = "give") (by simpa using e)]
  rintro ρ' ⟨x6, rfl⟩
  have e1 : rK1 ns a R S = if (rF0 kd R S).length = 0 then ([("drop" : Str), "take"] : List Str).getD (nu ns (a + 1) % 2).toNat ⟨#[]⟩ else kd := by unfold rK1; rw [hK]
  have e2 : rF1 ns a R S = if (rF0 kd R S).length = 0 then R else rF0 kd R S := by unfold rF1; rw [hK]
  have f1 : (rF0 kd R S).length ≤ 6 := by rw [e0]; split <;> omega
  have z2 := m0 (nu ns (a + 1)) (show (0 : Int) < 2 by decide)
  walk_at "st"
  refine ifJ (decide ((rF0 kd R S).length = 0)) (fun ρ => ∃ x6, ρ = [.va (.lst (ns.map .int)), .va (.int a), .va (.str name), .va (.lst (R.map .str)), .va (.lst (S.map .str)), .va (.str (rK1 ns a R S)), x6, .va (.lst ((rF1 ns a R S).map .str)), .no, .no, .no, .no]) (fun T r => ?_) (fun k J e => ?_) (fun k J e => ?_) ?_
  · walk_at "ev"
    have : decide (((rF0 kd R S).length : Int) = 0) = decide ((rF0 kd R S).length = 0) := decide_eq_decide.mpr (by omega)
    rw [this]
    exact r
  · walk_at "ev"
    refine ⟨by decide, oK.mk (atn (j := a + 1) (by omega) (by omega)) ?_⟩
    walk_at "ev"
    refine ⟨by decide, oK.mk (st_ix (l := ["drop", "take"]) (j := (nu ns (a + 1) % 2).toNat) (by omega) (by show _ < 2; omega)) ?_⟩
    walk_at "ev"
    refine J _ ⟨x6, ?_⟩
    rw [e1, e2, if_pos (of_decide_eq_true e), if_pos (of_decide_eq_true e)]
  · walk_at "ev"
    refine J _ ⟨x6, ?_⟩
    rw [e1, e2, if_neg (of_decide_eq_false e), if_neg (of_decide_eq_false e)]
  rintro ρ' ⟨y6, rfl⟩
  have f2 : (rF1 ns a R S).length ≤ 6 ∧ 0 < (rF1 ns a R S).length := by rw [e2]; split <;> omega
  have lq : lawRule ns a name R S = if rK1 ns a R S = "claim" ∨ rK1 ns a R S = "drop" then ⟨rK1 ns a R S, name, [lawSome R (nu ns (a + 4)) [rRt ns a (rF1 ns a R S)], lawSome R (nu ns (a + 5)) (rRt ns a (rF1 ns a R S) :: lawSome R (nu ns (a + 4)) [rRt ns a (rF1 ns a R S)])], some (rRt ns a (rF1 ns a R S))⟩ else
      ⟨rK1 ns a R S, name, [if ¬ rK1 ns a R S = "pass" ∧ nu ns (a + 1) % 3 = 1 then lawSome R (nu ns (a + 3)) [rRt ns a (rF1 ns a R S)] ++ [rRt ns a (rF1 ns a R S)] else lawSome R (nu ns (a + 3)) [rRt ns a (rF1 ns a R S)], lawSome R (nu ns (a + 4)) [rRt ns a (rF1 ns a R S)], lawSome R (nu ns (a + 5)) (rRt ns a (rF1 ns a R S) :: lawSome R (nu ns (a + 4)) [rRt ns a (rF1 ns a R S)])], some (rRt ns a (rF1 ns a R S))⟩ := by
    unfold lawRule
    rw [hK, if_neg c1]
  rw [lq] at q
  have er : rRt ns a (rF1 ns a R S) = (rF1 ns a R S).getD (nu ns (a + 2) % ((rF1 ns a R S).length : Int)).toNat ⟨#[]⟩ := rfl
  generalize rRt ns a (rF1 ns a R S) = rt at q er
  generalize rF1 ns a R S = fit at f2 er
  generalize rK1 ns a R S = kn at q
  clear e1 e2 lq
  have z3 := m0 (nu ns (a + 2)) (show (0 : Int) < (fit.length : Int) by omega)
  walk_at "st"
  refine oK.mk (atn (j := a + 2) (by omega) (by omega)) ?_
  walk_at "st"
  refine ⟨by omega, oK.mk (st_ix (j := (nu ns (a + 2) % (fit.length : Int)).toNat) (by omega) (by omega)) ?_⟩
  rw [← er]
  have sl : ∀ n wo, (lawSome R n wo).length ≤ 6 := fun n wo => Nat.le_trans (some_len R n wo) lR
  walk_at "st"
  refine oK.mk (atn (j := a + 3) (by omega) (by omega)) ?_
  walk_at "st"
  refine ⟨by decide, R, [rt], _, rfl, lR, ?_⟩
  generalize hg1 : lawSome R (nu ns (a + 3)) [rt] = g1 at q
  have l1 := sl (nu ns (a + 3)) [rt]
  rw [hg1] at l1
  walk_at "st"
  refine oK.mk (atn (j := a + 4) (by omega) (by omega)) ?_
  walk_at "st"
  refine ⟨by decide, R, [rt], _, rfl, lR, ?_⟩
  generalize hg2 : lawSome R (nu ns (a + 4)) [rt] = g2 at q
  have l2 := sl (nu ns (a + 4)) [rt]
  rw [hg2] at l2
  walk_at "st"
  refine oK.mk (atn (j := a + 5) (by omega) (by omega)) ?_
  walk_at "st"
  refine ⟨by decide, by unfold sizeLine; omega, R, rt :: g2, _, rfl, lR, ?_⟩
  generalize hg3 : lawSome R (nu ns (a + 5)) (rt :: g2) = g3 at q
  walk_at "ev"
  refine iK_d (fun c2 => ?_) fun c2 => ?_
  · walk_at "ev"
    refine ⟨by decide, ?_⟩
    rw [if_pos (Or.inl c2)] at q
    exact q
  walk_at "ev"
  refine iK_d (fun c3 => ?_) fun c3 => ?_
  · walk_at "ev"
    refine ⟨by decide, ?_⟩
    rw [if_pos (Or.inr c3)] at q
    exact q
  rw [if_neg fun z => z.elim c2 c3] at q
  walk_at "st"
  refine ifJ (!decide (kn = "pass") && decide (nu ns (a + 1) % 3 = 1)) (fun ρ => ∃ x9, ρ = [.va (.lst (ns.map .int)), .va (.int a), .va (.str name), .va (.lst (R.map .str)), .va (.lst (S.map .str)), .va (.str kn), y6, .va (.lst (fit.map .str)), .va (.str rt), x9, .va (.lst (g2.map .str)), .va (.lst (g3.map .str))] ∧ (x9 = .va (.lst (List.map D.str (if ¬ kn = "pass" ∧ nu ns (a + 1) % 3 = 1 then g1 ++ [rt] else g1))) ∨ x9 = .ow (List.map D.str (if ¬ kn = "pass" ∧ nu ns (a + 1) % 3 = 1 then g1 ++ [rt] else g1)))) (fun T r => ?_) (fun k J e => ?_) (fun k J e => ?_) ?_
  · walk_at "ev"
    refine iK_d (fun c => ?_) fun c => ?_
    · rw [decide_eq_true c] at r
      exact r
    · walk_at "ev"
      refine oK.mk (atn (j := a + 1) (by omega) (by omega)) ?_
      walk_at "ev"
      rw [decide_eq_false c] at r
      exact ⟨by decide, r⟩
  · walk_at "ev"
    have ce : ¬ kn = "pass" ∧ nu ns (a + 1) % 3 = 1 := by simpa using e
    refine ⟨by decide, by unfold sizeLine; omega, J _ ⟨_, rfl, .inr ?_⟩⟩
    rw [if_pos ce, List.map_append]
    rfl
  · walk_at "ev"
    have ce : ¬ (¬ kn = "pass" ∧ nu ns (a + 1) % 3 = 1) := by simpa using e
    refine J _ ⟨_, rfl, .inl ?_⟩
    rw [if_neg ce]
  rintro ρ' ⟨x9, rfl, e9⟩
  rcases e9 with rfl | rfl
  · walk_at "ev"
    exact ⟨by decide, q⟩
  · walk_at "ev"
    exact ⟨by decide, q⟩
end K8

-- part NC
set_option Elab.async false
set_option linter.all false
set_option maxRecDepth 100000
set_option maxHeartbeats 2000000
namespace K8
open PySem PySem.Spec PyProof.Rows L2 GxR GS GA GD DL
local macro_rules | `(tactic| walk_at "ev") => `(tactic| simp (dsimp := false) only [k0, k1, k2, k3, iK_true, iK_false, iK_not, sl_0, sl_s, vK_va, vK_ow, bK_va, bK_ow, dVar_ev, dVarB_ev, dC_ev, dBin_ev, tK_bl, dTst_ev, dAnd_ev, dOr_ev, dNot_ev, dAndV_ev, dOrV_ev, dNotV_ev, dIf_ev, dNext_ev, dSeq_st, kS_e, dBreak_ev, dCont_ev, dRet_ev, dRetN_ev, dIfS_ev, dSet_ev, dDrop_ev, slOf_fr, slOf_sh, gAdd_i, gAdd_s, gAdd_l, gAdd_t, num_i, gEq_i, gEq_s, gEq_b, gEq_sn, gEq_ns, gEq_in, gEq_ni, gEq_nn, gEq_is, gEq_si, gNe_i, gNe_s, gNe_b, gNe_sn, gNe_ns, gNe_in, gNe_ni, gNe_nn, gEq_l, gEq_t, gNe_l, gNe_t,
    gIsN_n, gIsN_s, gIsN_i, gIsN_l, gIsN_t, gNotN_n, gNotN_s, gNotN_i, gNotN_l, gNotN_t, gIn_l, gIn_t, gNin_l, gNin_t, flD_s, flD_i, flD_n, flD_str, flD_int, has_strs, gIx_l, gIx_t, gIx_s, DL.at0, at1, at2, at3, at4, at5, dNoPart_ev, pK_i, dPart_ev, sK_l, sK_r, sK_t, sK_s, dSl_ev, dNil_ev, dCons_ev, dConsW_ev, itsD_l, itsD_t, dStar_ev, dLst_ev, dTup_ev, dBlt_ev, gLen_l, gLen_t, gLen_r, gLen_s, gInt_i, gInt_b, gAbs_i, gMax_i, gMin_i, gTuple_l, gTuple_t, gList_l, gList_t, oW_ow, owAt_ev, decide_true, decide_false, Bool.not_true, Bool.not_false, gRepr_1, dStarT_ev, dRepl_ev, dTryAs0_ev, dTryOn_ev, dIsx0_ev, xnK_x, dIdx_ev, liK_l, has_two, stK_l, gTimes_s, zK_s, dSplit_ev, dJoin_ev, dInTab_ev, dIxTab_ev, gInD_l, gInS_s, gNinS_s, chK_b, dChn_ev, is_tt, is_ll, is_tn, is_bn, dTryAs_ev, dXf_ev, dIsx_ev, xK_x, dRaise1_ev, dIsi_ev, is_ss, is_sl, is_st, is_bb, dProp_ev, prK_i, xc_c, xc_a, dApp_ev, dStI_ev, wK_sh, wK_fr, wK_bo, wK_t, wK_r, wK_s, diVal_ev, rK_i, diRng_ev, eK_sh, eK_fr, eK_bo, diEnum_ev, dgName_ev, dgNil_ev, dgCons_ev, dgTup_ev, dAsg_ev, dFor_ev, dWhile_ev, dLc_ev, dGen_ev, dCall_ev, mK_i, dMeth_ev, fK_i, dFld_ev, nK_i, dNeg_ev, dYes_ev, oK_some, List.length_map, rng_len, Int.toNat_natCast,
    List.map_cons, List.map_nil, List.length_cons, List.length_nil, List.length_set, List.replicate_succ, List.replicate_zero, List.nil_append, List.cons_append, List.set_cons_zero, List.set_cons_succ, Nat.reduceAdd, Nat.reduceSub, ne_eq, reduceCtorEq, not_false_eq_true, not_true_eq_false, true_and, and_true, Nat.reduceLT, Nat.reduceLeDiff, Nat.zero_le, Bool.false_eq_true])
local macro_rules | `(tactic| walk_at "st") => `(tactic| simp (dsimp := false) only [k0, k1, k2, k3, iK_true, iK_false, iK_not, sl_0, sl_s, vK_va, vK_ow, bK_va, bK_ow, dVar_ev, dVarB_ev, dC_ev, dBin_ev, tK_bl, dTst_ev, dAnd_ev, dOr_ev, dNot_ev, dAndV_ev, dOrV_ev, dNotV_ev, dIf_ev, dNext_ev, dSeq_st, kS_e, dBreak_ev, dCont_ev, dRet_ev, dRetN_ev, dSet_ev, dDrop_ev, slOf_fr, slOf_sh, gAdd_i, gAdd_s, gAdd_l, gAdd_t, num_i, gEq_i, gEq_s, gEq_b, gEq_sn, gEq_ns, gEq_in, gEq_ni, gEq_nn, gEq_is, gEq_si, gNe_i, gNe_s, gNe_b, gNe_sn, gNe_ns, gNe_in, gNe_ni, gNe_nn, gEq_l, gEq_t, gNe_l, gNe_t,
    gIsN_n, gIsN_s, gIsN_i, gIsN_l, gIsN_t, gNotN_n, gNotN_s, gNotN_i, gNotN_l, gNotN_t, gIn_l, gIn_t, gNin_l, gNin_t, flD_s, flD_i, flD_n, flD_str, flD_int, has_strs, gIx_l, gIx_t, gIx_s, DL.at0, at1, at2, at3, at4, at5, dNoPart_ev, pK_i, dPart_ev, sK_l, sK_r, sK_t, sK_s, dSl_ev, dNil_ev, dCons_ev, dConsW_ev, itsD_l, itsD_t, dStar_ev, dLst_ev, dTup_ev, dBlt_ev, gLen_l, gLen_t, gLen_r, gLen_s, gInt_i, gInt_b, gAbs_i, gMax_i, gMin_i, gTuple_l, gTuple_t, gList_l, gList_t, oW_ow, owAt_ev, decide_true, decide_false, Bool.not_true, Bool.not_false, gRepr_1, dStarT_ev, dRepl_ev, dTryAs0_ev, dTryOn_ev, dIsx0_ev, xnK_x, dIdx_ev, liK_l, has_two, stK_l, gTimes_s, zK_s, dSplit_ev, dJoin_ev, dInTab_ev, dIxTab_ev, gInD_l, gInS_s, gNinS_s, chK_b, dChn_ev, is_tt, is_ll, is_tn, is_bn, dTryAs_ev, dXf_ev, dIsx_ev, xK_x, dRaise1_ev, dIsi_ev, is_ss, is_sl, is_st, is_bb, dProp_ev, prK_i, xc_c, xc_a, dApp_ev, dStI_ev, wK_sh, wK_fr, wK_bo, wK_t, wK_r, wK_s, diVal_ev, rK_i, diRng_ev, eK_sh, eK_fr, eK_bo, diEnum_ev, dgName_ev, dgNil_ev, dgCons_ev, dgTup_ev, dAsg_ev, dFor_ev, dWhile_ev, dLc_ev, dGen_ev, dCall_ev, mK_i, dMeth_ev, fK_i, dFld_ev, nK_i, dNeg_ev, dYes_ev, oK_some, List.length_map, rng_len, Int.toNat_natCast,
    List.map_cons, List.map_nil, List.length_cons, List.length_nil, List.length_set, List.replicate_succ, List.replicate_zero, List.nil_append, List.cons_append, List.set_cons_zero, List.set_cons_succ, Nat.reduceAdd, Nat.reduceSub, ne_eq, reduceCtorEq, not_false_eq_true, not_true_eq_false, true_and, and_true, Nat.reduceLT, Nat.reduceLeDiff, Nat.zero_le, Bool.false_eq_true])
def dFl (f : Str × List Str) : D := .tup [.str f.1, dL f.2]
def dPa (pa : Pa) : D := .tup [dL pa.rights, dL pa.sole, .lst (pa.founders.map dFl), .lst (pa.rules.map dRl)]
abbrev N_law_parts : List Str := ["numbers", "rights", "sole", "persons", "founders", "taken", "k", "names", "rules", "held", "right"]
def r_law_parts : DS :=
  (dSeq (dSet 1 (dCall 3 ph__law_names (dCons (dVar 0) (dCons (dC (.int 0)) (dCons (dCall 3 ph__law_count (dCons (dBin gIx (dVarB 0) (dC (.int 6))) (dCons (dC (.int 1)) (dCons (dC (.int 6)) dNil)))) dNil)))))
  (dSeq (dSet 2 (dCall 3 ph__law_some (dCons (dVar 1) (dCons (dBin gIx (dVarB 0) (dC (.int 7))) (dCons (dLst dNil) dNil)))))
  (dSeq (dSet 3 (dCall 3 ph__law_names (dCons (dVar 0) (dCons (dC (.int 8)) (dCons (dCall 3 ph__law_count (dCons (dBin gIx (dVarB 0) (dC (.int 14))) (dCons (dC (.int 0)) (dCons (dC (.int 5)) dNil)))) dNil)))))
  (dSeq (dSet 4 (dLst dNil))
  (dSeq (dSet 5 (dLst dNil))
  (dSeq (dFor (diRng (dConsW (dBlt gLen (dConsW (dVarB 3) dNil)) dNil)) (dgName 6) (dSeq (dSet 9 (dCall 3 ph__law_some (dCons (dVar 1) (dCons (dBin gIx (dVarB 0) (dBin gAdd (dC (.int 15)) (dVarB 6))) (dCons (dVar 5) dNil)))))
  (dSeq (dSet 5 (dBin gAdd (dVarB 5) (dLc (diVal (dVarB 9)) 10 (dTst (dBin gIn (dVarB 10) (dVarB 2))) (dVar 10))))
  (dApp 4 (dTup (dCons (dBin gIx (dVarB 3) (dVarB 6)) (dCons (dVar 9) dNil)))))))
  (dSeq (dSet 7 (dCall 3 ph__law_names (dCons (dVar 0) (dCons (dC (.int 20)) (dCons (dCall 3 ph__law_count (dCons (dBin gIx (dVarB 0) (dC (.int 26))) (dCons (dC (.int 0)) (dCons (dC (.int 12)) dNil)))) dNil)))))
  (dSeq (dSet 8 (dLc (diRng (dConsW (dBlt gLen (dConsW (dVarB 7) dNil)) dNil)) 6 dYes (dCall 5 ph__law_rule (dCons (dVar 0) (dCons (dBin gAdd (dC (.int 27)) (dBin gMul (dC (.int 6)) (dVarB 6))) (dCons (dBin gIx (dVarB 7) (dVarB 6)) (dCons (dVar 1) (dCons (dVar 2) dNil))))))))
  (dRet (dTup (dCons (dVar 1) (dCons (dVar 2) (dCons (dVar 4) (dCons (dVar 8) dNil))))))))))))))
/- theorem M_law_parts : MD r_law_parts 1 11 ph_law_parts := fun ds Qd Xd h hl => by -/
def ph__law_parts : Ph := fun ds Qd _ => ∃ ns : List Int, ds = [.lst (ns.map .int)] ∧ ns.length = 136 ∧ (∀ n ∈ ns, In9 n) ∧ Qd (dPa (lawParts ns))
theorem M_law_parts : MD r_law_parts 1 11 ph__law_parts := fun ds Qd Xd h hl => by
  obtain ⟨ns, rfl, hn, h9, q⟩ := h
  unfold r_law_parts
  have cR := count_in (n := nu ns 6) (l := 1) (m := 6) (by decide)
  have cP := count_in (n := nu ns 14) (l := 0) (m := 5) (by decide)
  have cN := count_in (n := nu ns 26) (l := 0) (m := 12) (by decide)
  walk_at "st"
  refine oK.mk (atn (j := 6) (by omega) (by omega)) ?_
  walk_at "st"
  refine ⟨nu ns 6, 1, 6, rfl, by decide, by decide, ?_⟩
  walk_at "st"
  refine ⟨ns, 0, lawCount (nu ns 6) 1 6, rfl, hn, h9, by decide, by omega, ?_⟩
  rw [show lawNames ns 0 (lawCount (nu ns 6) 1 6) = paR ns from rfl]
  have lR : (paR ns).length ≤ 6 ∧ 0 < (paR ns).length := by unfold paR; rw [lawNames_len]; omega
  walk_at "st"
  refine oK.mk (atn (j := 7) (by omega) (by omega)) ?_
  walk_at "st"
  refine ⟨paR ns, [], nu ns 7, rfl, lR.1, ?_⟩
  rw [show lawSome (paR ns) (nu ns 7) [] = paS ns from rfl]
  have lS : (paS ns).length ≤ 6 := Nat.le_trans (some_len _ _ _) lR.1
  walk_at "st"
  refine oK.mk (atn (j := 14) (by omega) (by omega)) ?_
  walk_at "st"
  refine ⟨nu ns 14, 0, 5, rfl, by decide, by decide, ?_⟩
  walk_at "st"
  refine ⟨ns, 8, lawCount (nu ns 14) 0 5, rfl, hn, h9, by decide, by omega, ?_⟩
  rw [show lawNames ns 8 (lawCount (nu ns 14) 0 5) = paP ns from rfl]
  have lP : (paP ns).length ≤ 5 := by unfold paP; rw [lawNames_len]; omega
  have q : Qd (.tup [dL (paR ns), dL (paS ns), .lst ((lawFd ns (paR ns) (paS ns) (paP ns) (paP ns).length).2.map dFl), .lst (((List.range (paN ns).length).map fun k : Nat => lawRule ns (27 + 6 * k) ((paN ns).getD k ⟨#[]⟩) (paR ns) (paS ns)).map dRl)]) := q
  have f1 := lawFd_len1 ns (paR ns) (paS ns) (paP ns) lR.1
  have f2 := lawFd_len2 ns (paR ns) (paS ns) (paP ns)
  walk_at "st"
  refine ⟨by omega, by omega, ?_⟩
  refine forK.rng (fun k ρ => ∃ x6 x9, ρ = [.va (.lst (ns.map .int)), .va (dL (paR ns)), .va (dL (paS ns)), .va (dL (paP ns)), .ow ((lawFd ns (paR ns) (paS ns) (paP ns) k).2.map dFl), .ow ((lawFd ns (paR ns) (paS ns) (paP ns) k).1.map .str), x6, .no, .no, x9, .no]) ⟨_, _, rfl⟩ ?_ ?_
  · rintro k ρ' lt ⟨x6, x9, rfl⟩
    unfold dL
    walk_at "st"
    refine oK.mk (atn (j := 15 + k) (by omega) (by omega)) ?_
    walk_at "st"
    have g1 := f1 k
    have g2 := f2 k
    have hs := some_len (paR ns) (nu ns (15 + k)) (lawFd ns (paR ns) (paS ns) (paP ns) k).1
    have e1 : (lawFd ns (paR ns) (paS ns) (paP ns) (k + 1)).1 = (lawFd ns (paR ns) (paS ns) (paP ns) k).1 ++ (lawSome (paR ns) (nu ns (15 + k)) (lawFd ns (paR ns) (paS ns) (paP ns) k).1).filter fun x => (paS ns).contains x := rfl
    have e2 : (lawFd ns (paR ns) (paS ns) (paP ns) (k + 1)).2 = (lawFd ns (paR ns) (paS ns) (paP ns) k).2 ++ [((paP ns).getD k ⟨#[]⟩, lawSome (paR ns) (nu ns (15 + k)) (lawFd ns (paR ns) (paS ns) (paP ns) k).1)] := rfl
    refine ⟨paR ns, (lawFd ns (paR ns) (paS ns) (paP ns) k).1, nu ns (15 + k), rfl, lR.1, ?_⟩
    generalize lawSome (paR ns) (nu ns (15 + k)) (lawFd ns (paR ns) (paS ns) (paP ns) k).1 = held at hs e1 e2
    generalize hF : lawFd ns (paR ns) (paS ns) (paP ns) k = F at g1 g2 e1 e2
    walk_at "st"
    refine lcK.map inj_str (fun x => (paS ns).contains x) .str (by unfold sizeLine; omega) (fun x hx o ho => ?_) ?_
    · walk_at "ev"
      rw [ho]
      refine iK_b (fun c => ?_) fun c => ?_
      · rw [c]
        walk_at "ev"
        rfl
      · rw [c]; rfl
    have hf := List.length_filter_le (fun x => (paS ns).contains x) held
    walk_at "st"
    refine ⟨by unfold sizeLine; omega, ?_⟩
    refine oK.mk (st_ix (j := k) rfl lt) ?_
    walk_at "st"
    refine ⟨by decide, by unfold sizeLine; omega, .va (.int k), .va (.lst (held.map .str)), ?_⟩
    rw [e1, e2, List.map_append, List.map_append]
    rfl
  rintro ρ' ⟨x6, x9, rfl⟩
  unfold dL at q ⊢
  walk_at "st"
  refine oK.mk (atn (j := 26) (by omega) (by omega)) ?_
  walk_at "st"
  refine ⟨nu ns 26, 0, 12, rfl, by decide, by decide, ?_⟩
  walk_at "st"
  refine ⟨ns, 20, lawCount (nu ns 26) 0 12, rfl, hn, h9, by decide, by omega, ?_⟩
  rw [show lawNames ns 20 (lawCount (nu ns 26) 0 12) = paN ns from rfl]
  have lN : (paN ns).length ≤ 12 := by unfold paN; rw [lawNames_len]; omega
  walk_at "st"
  refine ⟨by omega, by omega, lcK.rng (fun k => dRl (lawRule ns (27 + 6 * k) ((paN ns).getD k ⟨#[]⟩) (paR ns) (paS ns))) (by unfold sizeLine; omega) (fun k lt => ?_) ?_⟩
  · walk_at "ev"
    have cm : CMulB 6 (k : Int) := by
      have h1 := log2_small (i := (k : Int)) (b := 4) (by omega) (by show _ < (2 : Int) ^ 4; omega)
      show (6 : Nat).log2 + _ < _
      have : (6 : Nat).log2 = 2 := by decide
      omega
    refine ⟨cm, oK.mk (st_ix (j := k) rfl lt) ?_⟩
    walk_at "ev"
    refine ⟨ns, 27 + 6 * k, (paN ns).getD k ⟨#[]⟩, paR ns, paS ns, ?_, hn, h9, by omega, lR.1, lR.2, lS, ?_⟩
    · rw [show ((27 + 6 * k : Nat) : Int) = 27 + 6 * (k : Int) by omega]
      rfl
    · walk_at "ev"
  walk_at "ev"
  refine ⟨by decide, ?_⟩
  rw [List.map_map] at q
  exact q
end K8

-- part KA
set_option Elab.async false
set_option linter.all false
set_option maxRecDepth 100000
set_option maxHeartbeats 2000000
namespace K8
open PySem PySem.Spec PyProof.Rows L2 GxR GS GA GD DL
local macro_rules | `(tactic| walk_at "ev") => `(tactic| simp (dsimp := false) only [k0, k1, k2, k3, iK_true, iK_false, iK_not, sl_0, sl_s, vK_va, vK_ow, bK_va, bK_ow, dVar_ev, dVarB_ev, dC_ev, dBin_ev, tK_bl, dTst_ev, dAnd_ev, dOr_ev, dNot_ev, dAndV_ev, dOrV_ev, dNotV_ev, dIf_ev, dNext_ev, dSeq_st, kS_e, dBreak_ev, dCont_ev, dRet_ev, dRetN_ev, dIfS_ev, dSet_ev, dDrop_ev, slOf_fr, slOf_sh, gAdd_i, gAdd_s, gAdd_l, gAdd_t, num_i, gEq_i, gEq_s, gEq_b, gEq_sn, gEq_ns, gEq_in, gEq_ni, gEq_nn, gEq_is, gEq_si, gNe_i, gNe_s, gNe_b, gNe_sn, gNe_ns, gNe_in, gNe_ni, gNe_nn, gEq_l, gEq_t, gNe_l, gNe_t,
    gIsN_n, gIsN_s, gIsN_i, gIsN_l, gIsN_t, gNotN_n, gNotN_s, gNotN_i, gNotN_l, gNotN_t, gIn_l, gIn_t, gNin_l, gNin_t, flD_s, flD_i, flD_n, flD_str, flD_int, has_strs, gIx_l, gIx_t, gIx_s, DL.at0, at1, at2, at3, at4, at5, dNoPart_ev, pK_i, dPart_ev, sK_l, sK_r, sK_t, sK_s, dSl_ev, dNil_ev, dCons_ev, dConsW_ev, itsD_l, itsD_t, dStar_ev, dLst_ev, dTup_ev, dBlt_ev, gLen_l, gLen_t, gLen_r, gLen_s, gInt_i, gInt_b, gAbs_i, gMax_i, gMin_i, gTuple_l, gTuple_t, gList_l, gList_t, oW_ow, owAt_ev, decide_true, decide_false, Bool.not_true, Bool.not_false, gRepr_1, dStarT_ev, dRepl_ev, dTryAs0_ev, dTryOn_ev, dIsx0_ev, xnK_x, dIdx_ev, liK_l, has_two, stK_l, gTimes_s, zK_s, dSplit_ev, dJoin_ev, dInTab_ev, dIxTab_ev, gInD_l, gInS_s, gNinS_s, chK_b, dChn_ev, is_tt, is_ll, is_tn, is_bn, dTryAs_ev, dXf_ev, dIsx_ev, xK_x, dRaise1_ev, dIsi_ev, is_ss, is_sl, is_st, is_bb, dProp_ev, prK_i, xc_c, xc_a, dApp_ev, dStI_ev, wK_sh, wK_fr, wK_bo, wK_t, wK_r, wK_s, diVal_ev, rK_i, diRng_ev, eK_sh, eK_fr, eK_bo, diEnum_ev, dgName_ev, dgNil_ev, dgCons_ev, dgTup_ev, dAsg_ev, dFor_ev, dWhile_ev, dLc_ev, dGen_ev, dCall_ev, mK_i, dMeth_ev, fK_i, dFld_ev, nK_i, dNeg_ev, dYes_ev, oK_some, List.length_map, rng_len, Int.toNat_natCast,
    List.map_cons, List.map_nil, List.length_cons, List.length_nil, List.length_set, List.replicate_succ, List.replicate_zero, List.nil_append, List.cons_append, List.set_cons_zero, List.set_cons_succ, Nat.reduceAdd, Nat.reduceSub, ne_eq, reduceCtorEq, not_false_eq_true, not_true_eq_false, true_and, and_true, Nat.reduceLT, Nat.reduceLeDiff, Nat.zero_le, Bool.false_eq_true])
local macro_rules | `(tactic| walk_at "st") => `(tactic| simp (dsimp := false) only [k0, k1, k2, k3, iK_true, iK_false, iK_not, sl_0, sl_s, vK_va, vK_ow, bK_va, bK_ow, dVar_ev, dVarB_ev, dC_ev, dBin_ev, tK_bl, dTst_ev, dAnd_ev, dOr_ev, dNot_ev, dAndV_ev, dOrV_ev, dNotV_ev, dIf_ev, dNext_ev, dSeq_st, kS_e, dBreak_ev, dCont_ev, dRet_ev, dRetN_ev, dSet_ev, dDrop_ev, slOf_fr, slOf_sh, gAdd_i, gAdd_s, gAdd_l, gAdd_t, num_i, gEq_i, gEq_s, gEq_b, gEq_sn, gEq_ns, gEq_in, gEq_ni, gEq_nn, gEq_is, gEq_si, gNe_i, gNe_s, gNe_b, gNe_sn, gNe_ns, gNe_in, gNe_ni, gNe_nn, gEq_l, gEq_t, gNe_l, gNe_t,
    gIsN_n, gIsN_s, gIsN_i, gIsN_l, gIsN_t, gNotN_n, gNotN_s, gNotN_i, gNotN_l, gNotN_t, gIn_l, gIn_t, gNin_l, gNin_t, flD_s, flD_i, flD_n, flD_str, flD_int, has_strs, gIx_l, gIx_t, gIx_s, DL.at0, at1, at2, at3, at4, at5, dNoPart_ev, pK_i, dPart_ev, sK_l, sK_r, sK_t, sK_s, dSl_ev, dNil_ev, dCons_ev, dConsW_ev, itsD_l, itsD_t, dStar_ev, dLst_ev, dTup_ev, dBlt_ev, gLen_l, gLen_t, gLen_r, gLen_s, gInt_i, gInt_b, gAbs_i, gMax_i, gMin_i, gTuple_l, gTuple_t, gList_l, gList_t, oW_ow, owAt_ev, decide_true, decide_false, Bool.not_true, Bool.not_false, gRepr_1, dStarT_ev, dRepl_ev, dTryAs0_ev, dTryOn_ev, dIsx0_ev, xnK_x, dIdx_ev, liK_l, has_two, stK_l, gTimes_s, zK_s, dSplit_ev, dJoin_ev, dInTab_ev, dIxTab_ev, gInD_l, gInS_s, gNinS_s, chK_b, dChn_ev, is_tt, is_ll, is_tn, is_bn, dTryAs_ev, dXf_ev, dIsx_ev, xK_x, dRaise1_ev, dIsi_ev, is_ss, is_sl, is_st, is_bb, dProp_ev, prK_i, xc_c, xc_a, dApp_ev, dStI_ev, wK_sh, wK_fr, wK_bo, wK_t, wK_r, wK_s, diVal_ev, rK_i, diRng_ev, eK_sh, eK_fr, eK_bo, diEnum_ev, dgName_ev, dgNil_ev, dgCons_ev, dgTup_ev, dAsg_ev, dFor_ev, dWhile_ev, dLc_ev, dGen_ev, dCall_ev, mK_i, dMeth_ev, fK_i, dFld_ev, nK_i, dNeg_ev, dYes_ev, oK_some, List.length_map, rng_len, Int.toNat_natCast,
    List.map_cons, List.map_nil, List.length_cons, List.length_nil, List.length_set, List.replicate_succ, List.replicate_zero, List.nil_append, List.cons_append, List.set_cons_zero, List.set_cons_succ, Nat.reduceAdd, Nat.reduceSub, ne_eq, reduceCtorEq, not_false_eq_true, not_true_eq_false, true_and, and_true, Nat.reduceLT, Nat.reduceLeDiff, Nat.zero_le, Bool.false_eq_true])
theorem lk_r {a b c d : D} : (chN.zip [a, b, c, d]).lookup ("rights" : Str) = some a := by kernel_rfl
theorem lk_s {a b c d : D} : (chN.zip [a, b, c, d]).lookup ("sole" : Str) = some b := by kernel_rfl
theorem lk_f {a b c d : D} : (chN.zip [a, b, c, d]).lookup ("founders" : Str) = some c := by kernel_rfl
theorem lk_u {a b c d : D} : (chN.zip [a, b, c, d]).lookup ("rules" : Str) = some d := by kernel_rfl
theorem f_rights {c : Ch} {R : D → Prop} : fK "Charter" "rights" (dCi c) .sh R = R (.tup (c.rights.map .str)) := by
  unfold dCi
  rw [fK_i, lk_r, oK_some]
  exact propext ⟨fun h => h.2.2, fun h => ⟨rfl, rfl, h⟩⟩
theorem f_sole {c : Ch} {R : D → Prop} : fK "Charter" "sole" (dCi c) .sh R = R (.tup (c.sole.map .str)) := by
  unfold dCi
  rw [fK_i, lk_s, oK_some]
  exact propext ⟨fun h => h.2.2, fun h => ⟨rfl, rfl, h⟩⟩
theorem f_founders {c : Ch} {R : D → Prop} : fK "Charter" "founders" (dCi c) .sh R = R (.tup (c.founders.map dFo)) := by
  unfold dCi
  rw [fK_i, lk_f, oK_some]
  exact propext ⟨fun h => h.2.2, fun h => ⟨rfl, rfl, h⟩⟩
theorem f_rules {c : Ch} {R : D → Prop} : fK "Charter" "rules" (dCi c) .sh R = R (.tup (c.rules.map dRu)) := by
  unfold dCi
  rw [fK_i, lk_u, oK_some]
  exact propext ⟨fun h => h.2.2, fun h => ⟨rfl, rfl, h⟩⟩
theorem gRu {r : Ru} {R : D → Kd → Prop} {i : Int} : gIx (dRu r) (.int i) R = oK (atI (.str r.kind :: .str r.name :: (r.ls.map dSt ++ r.right.toList.map .str)) i) (kk fun z => R z .sh) := rfl
theorem _root_.DL.lcK.fn {α : Type} {g : α → D} {xs : List α} {i : Nat} {te : DE} {ρ : List Sl} (f : D → D) {Q : List D → Prop} (hz : xs.length ≤ sizeLine)
    (hs : ∀ x ∈ xs, te X0 (ρ.set i (.va (g x))) (kk fun z κ ρ3 => κ ≠ .bo ∧ ρ3 = ρ.set i (.va (g x)) ∧ z = f (g x))) (hq : Q (xs.map fun x => f (g x))) : lcK (xs.map g) i dYes te ρ Q := by
  refine ⟨by rw [List.length_map]; exact hz, fun d => some (f d), fun d hd => ?_, ?_⟩
  · obtain ⟨x, hx, rfl⟩ := List.mem_map.mp hd
    have h := hs x hx
    have e : (kk fun z κ ρ3 => κ ≠ Kd.bo ∧ ρ3 = ρ.set i (Sl.va (g x)) ∧ z = f (g x)) = fun z κ ρ3 => κ ≠ Kd.bo ∧ ρ3 = ρ.set i (Sl.va (g x)) ∧ some (f (g x)) = some z := by
      unfold kk
      funext z κ ρ3
      rw [Option.some.injEq, eq_comm (a := z)]
    rw [e] at h
    unfold dYes
    dsimp only
    rw [if_pos rfl]
    exact h
  · have e : (xs.map g).filterMap (fun d => some (f d)) = xs.map fun x => f (g x) := by
      rw [List.filterMap_map]
      exact List.filterMap_eq_map (f := fun x => f (g x)) ▸ rfl
    rw [e]
    exact hq
def snd : D → D
  | .tup (_ :: n :: _) => n
  | _ => .non
def fst : D → D
  | .tup (n :: _) => n
  | _ => .non
def em_UnknownName : Str → Option Bool := fun c => if c = ("UnknownName" : Str) then some true else if c = ("InvalidCharter" : Str) then none else none
def em_InvalidCharter : Str → Option Bool := fun c => if c = ("InvalidCharter" : Str) then some true else none
theorem em_ic : em_InvalidCharter "InvalidCharter" = some true := by unfold em_InvalidCharter; rw [if_pos rfl]
theorem inj_dstr (x y : Str) (h : D.str x = D.str y) : x = y := D.str.inj h
/-- put behind, or in the place of what has its key -/
def putBy {α : Type} (key : α → Str) (rows : List α) (new : α) : List α := if (rows.map key).contains (key new) = true then rows.map (fun r => if key r = key new then new else r) else rows ++ [new]
/-- a row and its key, at place 0 or 1 -/
def Key (i : Nat) (x : Str × D) : Prop := ∃ a b r, x.2 = .tup (a :: b :: r) ∧ (if i = 0 then a else b) = .str x.1
def keyD (i : Nat) : D → D
  | .tup (a :: b :: _) => if i = 0 then a else b
  | _ => .non
theorem Key.d {i : Nat} {x : Str × D} (h : Key i x) : keyD i x.2 = .str x.1 := by
  obtain ⟨a, b, r, e, k⟩ := h
  rw [e]
  exact k
theorem Key.ix {i : Nat} {x : Str × D} (h : Key i x) (hi : i = 0 ∨ i = 1) {R : D → Kd → Prop} : gIx x.2 (.int (i : Nat)) R = R (.str x.1) .sh := by
  obtain ⟨a, b, r, e, k⟩ := h
  rw [e]
  rcases hi with rfl | rfl
  · have k : a = .str x.1 := k
    show oK (atI (a :: b :: r) 0) _ = _
    rw [DL.at0, oK_some, k]
  · have k : b = .str x.1 := k
    show oK (atI (a :: b :: r) 1) _ = _
    rw [DL.at1, oK_some, k]
theorem Key.ln {i : Nat} {x : Str × D} (h : Key i x) : ∃ n : Nat, 2 ≤ n ∧ ∀ R : D → Kd → Prop, gLen [x.2] R = R (.int (n : Nat)) .sh := by
  obtain ⟨a, b, r, e, k⟩ := h
  rw [e]
  exact ⟨(a :: b :: r).length, by simp, fun R => rfl⟩
def selD (n : Str × D) (i : Nat) (d : D) : D := match keyD i d with
  | .str z => if z = n.1 then n.2 else d
  | _ => d
theorem selD_k {n x : Str × D} {i : Nat} (h : Key i x) : selD n i x.2 = if x.1 = n.1 then n.2 else x.2 := by
  unfold selD
  rw [h.d]
abbrev N_put : List Str := ["rows", "at", "new", "row"]
def r_put : DS :=
  (dSeq (dIfS (dOr (dTst (dBin gLe (dBlt gLen (dConsW (dVarB 2) dNil)) (dVarB 1))) (dTst (dBin gNin (dBin gIx (dVarB 2) (dVarB 1)) (dLc (diVal (dVarB 0)) 3 dYes (dBin gIx (dVarB 3) (dVarB 1)))))) (dRet (dLst (dStar (dVarB 0) (dCons (dVar 2) dNil)))) dNext)
  (dRet (dLc (diVal (dVarB 0)) 3 dYes (dIf (dTst (dBin gEq (dBin gIx (dVarB 3) (dVarB 1)) (dBin gIx (dVarB 2) (dVarB 1)))) (dVar 2) (dVar 3)))))
/- theorem M_put : MD r_put 3 4 ph_put := fun ds Qd Xd h hl => by -/
def ph__put : Ph := fun ds Qd _ => ∃ (rows : List (Str × D)) (new : Str × D) (i : Nat), ds = [.tup (rows.map (·.2)), .int (i : Nat), new.2] ∧ rows.length ≤ 4000 ∧ (i = 0 ∨ i = 1) ∧ Key i new ∧ (∀ x ∈ rows, Key i x) ∧ Qd (.lst ((putBy Prod.fst rows new).map (·.2)))
theorem M_put : MD r_put 3 4 ph__put := fun ds Qd Xd h hl => by
  obtain ⟨rows, new, i, rfl, lr, hi, kn, kr, q⟩ := h
  unfold r_put
  obtain ⟨nl, hnl, eln⟩ := kn.ln
  walk_at "ev"
  simp (dsimp := false) only [eln]
  walk_at "ev"
  refine iK_F (by omega) ?_
  walk_at "ev"
  simp (dsimp := false) only [kn.ix hi]
  walk_at "ev"
  refine lcK.fn (g := fun x : Str × D => x.2) (keyD i) (by unfold sizeLine; omega) (fun x hx => ?_) ?_
  · walk_at "ev"
    simp (dsimp := false) only [(kr x hx).ix hi]
    walk_at "ev"
    exact ((kr x hx).d).symm
  have ek : (rows.map fun x : Str × D => keyD i x.2) = (rows.map Prod.fst).map D.str := by
    rw [List.map_map]
    exact List.map_congr_left fun x hx => (kr x hx).d
  rw [ek]
  walk_at "ev"
  unfold putBy at q
  refine iK_b (fun c => ?_) fun c => ?_
  · rw [if_pos c] at q
    walk_at "ev"
    refine lcK.fn (g := fun x : Str × D => x.2) (selD new i) (by unfold sizeLine; omega) (fun x hx => ?_) ?_
    · walk_at "ev"
      simp (dsimp := false) only [(kr x hx).ix hi]
      walk_at "ev"
      simp (dsimp := false) only [kn.ix hi]
      walk_at "ev"
      rw [selD_k (kr x hx)]
      refine iK_d (fun e => ?_) fun e => ?_
      · walk_at "ev"
        rw [if_pos e]
      · walk_at "ev"
        rw [if_neg e]
    · walk_at "ev"
      have e2 : (rows.map fun x : Str × D => selD new i x.2) = (rows.map fun r => if r.1 = new.1 then new else r).map (·.2) := by
        rw [List.map_map]
        refine List.map_congr_left fun x hx => ?_
        rw [selD_k (kr x hx)]
        show _ = (if x.1 = new.1 then new else x).2
        split <;> rfl
      rw [e2]
      exact q
  · rw [if_neg (by rw [c]; decide), List.map_append] at q
    walk_at "ev"
    exact ⟨by rw [List.length_append, List.length_map]; show _ + 1 ≤ _; unfold sizeLine; omega, q⟩
abbrev NCharter_rule_names : List Str := ["self", "rule"]
def rCharter_rule_names : DS :=
  (dRet (dBlt gTuple (dConsW (dLc (diVal (dFld "Charter" "rules" (dVar 0))) 1 dYes (dBin gIx (dVarB 1) (dC (.int 1)))) dNil)))
/- theorem MCharter_rule_names : MD rCharter_rule_names 1 2 phCharter_rule_names := fun ds Qd Xd h hl => by -/
def ph_Charter_rule_names : Ph := fun ds Qd _ => ∃ c : Ch, ds = [dCi c] ∧ c.rules.length ≤ 4000 ∧ Qd (.tup ((c.rules.map (·.name)).map .str))
theorem MCharter_rule_names : MD rCharter_rule_names 1 2 ph_Charter_rule_names := fun ds Qd Xd h hl => by
  obtain ⟨c, rfl, l, q⟩ := h
  unfold rCharter_rule_names
  walk_at "ev"
  simp only [f_rules]
  walk_at "ev"
  refine lcK.fn (g := dRu) snd (by unfold sizeLine; omega) (fun r hr => ?_) ?_
  · walk_at "ev"
    simp only [gRu]
    walk_at "ev"
    rfl
  · walk_at "ev"
    rw [List.map_map] at q
    exact q
/-- parts of the right shape are made, or refused -/
structure Bz (pa : Pa) : Prop where
  r : pa.rights.length ≤ 40 ∧ ∀ x ∈ pa.rights, x.length ≤ 1000
  s : pa.sole.length ≤ 40
  f : pa.founders.length ≤ 40 ∧ ∀ f ∈ pa.founders, f.1.length ≤ 1000 ∧ f.2.length ≤ 40
  u : pa.rules.length ≤ 40 ∧ ∀ r ∈ pa.rules, r.name.length ≤ 1000 ∧ r.ls.length ≤ 6 ∧ RuOk pa.rights r
theorem Bz.shp {pa : Pa} (h : Bz pa) : K8.Shp pa.rights pa.sole pa.founders pa.rules :=
  ⟨⟨by have := h.r.1; omega, by have := h.s; omega, by have := h.f.1; omega, by have := h.u.1; omega⟩, fun x hx => by have := h.r.2 x hx; unfold sizeLine; omega, fun f hf => by have := h.f.2 f hf; unfold sizeLine; omega, fun r hr => by have := h.u.2 r hr; exact ⟨by unfold sizeLine; omega, this.2.2⟩⟩
theorem is_dL (l : List Str) : IsTx (dL l) l := .inl rfl
theorem is_dSt (l : List Str) : IsTx (dSt l) l := .inr rfl
theorem pr_map {α β : Type} {f : β → D} {g : β → α} {P : D → α → Prop} : ∀ (l : List β), (∀ x ∈ l, P (f x) (g x)) → PySem.Paired P (l.map f) (l.map g)
  | [], _ => .nil
  | x :: r, h => .cons (h x List.mem_cons_self) (pr_map r fun y hy => h y (List.mem_cons_of_mem _ hy))
theorem is_dFl (f : Str × List Str) : IsFd (dFl f) f := ⟨dL f.2, rfl, is_dL _⟩
theorem is_dFo (f : Str × List Str) : IsFd (dFo f) f := ⟨dSt f.2, rfl, is_dSt _⟩
theorem is_dRl (r : Ru) : IsRu (dRl r) r := ⟨r.ls.map dL, rfl, by have := pr_map (g := id) (P := IsTx) r.ls fun l _ => is_dL l; rw [List.map_id] at this; exact this⟩
theorem is_dRu (r : Ru) : IsRu (dRu r) r := ⟨r.ls.map dSt, rfl, by have := pr_map (g := id) (P := IsTx) r.ls fun l _ => is_dSt l; rw [List.map_id] at this; exact this⟩
theorem putBy_map {α β : Type} {f : α → β} {k : β → Str} (rows : List α) (new : α) (ka : α → Str) (e : ∀ x, k (f x) = ka x) : (putBy ka rows new).map f = putBy k (rows.map f) (f new) := by
  unfold putBy
  rw [List.map_map, show (k ∘ f) = ka from funext e, e]
  split
  · rw [List.map_map, List.map_map]
    refine List.map_congr_left fun x _ => ?_
    show f (if _ then _ else _) = if k (f x) = _ then f new else f x
    rw [e]
    split <;> rfl
  · rw [List.map_append]; rfl
def mkK (ds : List D) (S : Ch → Prop) (F : Prop) : Prop := ∃ d1 d2 d3 d4 fd ud rights sole fs rs, ds = [d1, d2, d3, d4] ∧ IsTx d1 rights ∧ IsTx d2 sole ∧ IsSq d3 fd ∧ PySem.Paired IsFd fd fs ∧ IsSq d4 ud ∧ PySem.Paired IsRu ud rs ∧ K8.Shp rights sole fs rs ∧
  (∀ c, mkCharter rights sole fs rs = some c → S c) ∧ (mkCharter rights sole fs rs = none → F)
theorem dMkC_ev {tk : DA} {Xf : XF} {ρ : List Sl} {Q : D → Kd → List Sl → Prop} : dMkC tk Xf ρ Q = tk Xf ρ (kk fun ds ρ1 => mkK ds (kk fun c => Q (dCi c) .sh ρ1) (Xf ⟨"InvalidCharter", none⟩ ρ1)) := rfl
theorem mkK.of {pa : Pa} {d1 d2 d3 d4 : D} {fd ud : List D} {S : Ch → Prop} {F : Prop} (h1 : IsTx d1 pa.rights) (h2 : IsTx d2 pa.sole) (h3 : IsSq d3 fd) (h4 : PySem.Paired IsFd fd pa.founders) (h5 : IsSq d4 ud) (h6 : PySem.Paired IsRu ud pa.rules) (hb : Bz pa)
    (q : match mkCharter pa.rights pa.sole pa.founders pa.rules with | some c => S c | none => F) : mkK [d1, d2, d3, d4] S F :=
  ⟨d1, d2, d3, d4, fd, ud, _, _, _, _, rfl, h1, h2, h3, h4, h5, h6, hb.shp, fun c e => by rw [e] at q; exact q, fun e => by rw [e] at q; exact q⟩
end K8

-- part KB
set_option Elab.async false
set_option linter.all false
set_option maxRecDepth 100000
set_option maxHeartbeats 2000000
namespace K8
open PySem PySem.Spec PyProof.Rows L2 GxR GS GA GD DL
local macro_rules | `(tactic| walk_at "ev") => `(tactic| simp (dsimp := false) only [k0, k1, k2, k3, iK_true, iK_false, iK_not, sl_0, sl_s, vK_va, vK_ow, bK_va, bK_ow, dVar_ev, dVarB_ev, dC_ev, dBin_ev, tK_bl, dTst_ev, dAnd_ev, dOr_ev, dNot_ev, dAndV_ev, dOrV_ev, dNotV_ev, dIf_ev, dNext_ev, dSeq_st, kS_e, dBreak_ev, dCont_ev, dRet_ev, dRetN_ev, dIfS_ev, dSet_ev, dDrop_ev, slOf_fr, slOf_sh, gAdd_i, gAdd_s, gAdd_l, gAdd_t, num_i, gEq_i, gEq_s, gEq_b, gEq_sn, gEq_ns, gEq_in, gEq_ni, gEq_nn, gEq_is, gEq_si, gNe_i, gNe_s, gNe_b, gNe_sn, gNe_ns, gNe_in, gNe_ni, gNe_nn, gEq_l, gEq_t, gNe_l, gNe_t,
    gIsN_n, gIsN_s, gIsN_i, gIsN_l, gIsN_t, gNotN_n, gNotN_s, gNotN_i, gNotN_l, gNotN_t, gIn_l, gIn_t, gNin_l, gNin_t, flD_s, flD_i, flD_n, flD_str, flD_int, has_strs, gIx_l, gIx_t, gIx_s, DL.at0, at1, at2, at3, at4, at5, dNoPart_ev, pK_i, dPart_ev, sK_l, sK_r, sK_t, sK_s, dSl_ev, dNil_ev, dCons_ev, dConsW_ev, itsD_l, itsD_t, dStar_ev, dLst_ev, dTup_ev, dBlt_ev, gLen_l, gLen_t, gLen_r, gLen_s, gInt_i, gInt_b, gAbs_i, gMax_i, gMin_i, gTuple_l, gTuple_t, gList_l, gList_t, oW_ow, owAt_ev, decide_true, decide_false, Bool.not_true, Bool.not_false, gRepr_1, dStarT_ev, dRepl_ev, f_rights, f_sole, f_founders, f_rules, dMkC_ev, dTryAs0_ev, dTryOn_ev, dIsx0_ev, xnK_x, dIdx_ev, liK_l, has_two, stK_l, gTimes_s, zK_s, dSplit_ev, dJoin_ev, dInTab_ev, dIxTab_ev, gInD_l, gInS_s, gNinS_s, chK_b, dChn_ev, is_tt, is_ll, is_tn, is_bn, dTryAs_ev, dXf_ev, dIsx_ev, xK_x, dRaise1_ev, dIsi_ev, is_ss, is_sl, is_st, is_bb, dProp_ev, prK_i, xc_c, xc_a, dApp_ev, dStI_ev, wK_sh, wK_fr, wK_bo, wK_t, wK_r, wK_s, diVal_ev, rK_i, diRng_ev, eK_sh, eK_fr, eK_bo, diEnum_ev, dgName_ev, dgNil_ev, dgCons_ev, dgTup_ev, dAsg_ev, dFor_ev, dWhile_ev, dLc_ev, dGen_ev, dCall_ev, mK_i, dMeth_ev, fK_i, dFld_ev, nK_i, dNeg_ev, dYes_ev, oK_some, List.length_map, rng_len, Int.toNat_natCast,
    List.map_cons, List.map_nil, List.length_cons, List.length_nil, List.length_set, List.replicate_succ, List.replicate_zero, List.nil_append, List.cons_append, List.set_cons_zero, List.set_cons_succ, Nat.reduceAdd, Nat.reduceSub, ne_eq, reduceCtorEq, not_false_eq_true, not_true_eq_false, true_and, and_true, Nat.reduceLT, Nat.reduceLeDiff, Nat.zero_le, Bool.false_eq_true])
local macro_rules | `(tactic| walk_at "st") => `(tactic| simp (dsimp := false) only [k0, k1, k2, k3, iK_true, iK_false, iK_not, sl_0, sl_s, vK_va, vK_ow, bK_va, bK_ow, dVar_ev, dVarB_ev, dC_ev, dBin_ev, tK_bl, dTst_ev, dAnd_ev, dOr_ev, dNot_ev, dAndV_ev, dOrV_ev, dNotV_ev, dIf_ev, dNext_ev, dSeq_st, kS_e, dBreak_ev, dCont_ev, dRet_ev, dRetN_ev, dSet_ev, dDrop_ev, slOf_fr, slOf_sh, gAdd_i, gAdd_s, gAdd_l, gAdd_t, num_i, gEq_i, gEq_s, gEq_b, gEq_sn, gEq_ns, gEq_in, gEq_ni, gEq_nn, gEq_is, gEq_si, gNe_i, gNe_s, gNe_b, gNe_sn, gNe_ns, gNe_in, gNe_ni, gNe_nn, gEq_l, gEq_t, gNe_l, gNe_t,
    gIsN_n, gIsN_s, gIsN_i, gIsN_l, gIsN_t, gNotN_n, gNotN_s, gNotN_i, gNotN_l, gNotN_t, gIn_l, gIn_t, gNin_l, gNin_t, flD_s, flD_i, flD_n, flD_str, flD_int, has_strs, gIx_l, gIx_t, gIx_s, DL.at0, at1, at2, at3, at4, at5, dNoPart_ev, pK_i, dPart_ev, sK_l, sK_r, sK_t, sK_s, dSl_ev, dNil_ev, dCons_ev, dConsW_ev, itsD_l, itsD_t, dStar_ev, dLst_ev, dTup_ev, dBlt_ev, gLen_l, gLen_t, gLen_r, gLen_s, gInt_i, gInt_b, gAbs_i, gMax_i, gMin_i, gTuple_l, gTuple_t, gList_l, gList_t, oW_ow, owAt_ev, decide_true, decide_false, Bool.not_true, Bool.not_false, gRepr_1, dStarT_ev, dRepl_ev, f_rights, f_sole, f_founders, f_rules, dMkC_ev, dTryAs0_ev, dTryOn_ev, dIsx0_ev, xnK_x, dIdx_ev, liK_l, has_two, stK_l, gTimes_s, zK_s, dSplit_ev, dJoin_ev, dInTab_ev, dIxTab_ev, gInD_l, gInS_s, gNinS_s, chK_b, dChn_ev, is_tt, is_ll, is_tn, is_bn, dTryAs_ev, dXf_ev, dIsx_ev, xK_x, dRaise1_ev, dIsi_ev, is_ss, is_sl, is_st, is_bb, dProp_ev, prK_i, xc_c, xc_a, dApp_ev, dStI_ev, wK_sh, wK_fr, wK_bo, wK_t, wK_r, wK_s, diVal_ev, rK_i, diRng_ev, eK_sh, eK_fr, eK_bo, diEnum_ev, dgName_ev, dgNil_ev, dgCons_ev, dgTup_ev, dAsg_ev, dFor_ev, dWhile_ev, dLc_ev, dGen_ev, dCall_ev, mK_i, dMeth_ev, fK_i, dFld_ev, nK_i, dNeg_ev, dYes_ev, oK_some, List.length_map, rng_len, Int.toNat_natCast,
    List.map_cons, List.map_nil, List.length_cons, List.length_nil, List.length_set, List.replicate_succ, List.replicate_zero, List.nil_append, List.cons_append, List.set_cons_zero, List.set_cons_succ, Nat.reduceAdd, Nat.reduceSub, ne_eq, reduceCtorEq, not_false_eq_true, not_true_eq_false, true_and, and_true, Nat.reduceLT, Nat.reduceLeDiff, Nat.zero_le, Bool.false_eq_true])
def Mk1 (o : Option Ch) (Qd : D → Prop) (Xd : Xc → Prop) : Prop := match o with
  | some c => Qd (dCi c)
  | none => Xd ⟨"InvalidCharter", none⟩
theorem put_pair {α : Type} {P : D → α → Prop} {key : α → Str} {f : α → D} {rs : List α} {n : α} {dn : D} (hf : ∀ x ∈ rs, P (f x) x) (hn : P dn n) : PySem.Paired P ((putBy Prod.fst (rs.map fun r => (key r, f r)) (key n, dn)).map (·.2)) (putBy key rs n) := by
  have ek : (rs.map fun r => (key r, f r)).map Prod.fst = rs.map key := by rw [List.map_map]; rfl
  unfold putBy
  rw [ek]
  dsimp only
  by_cases c : (rs.map key).contains (key n) = true
  · rw [if_pos c, if_pos c, List.map_map, List.map_map]
    refine pr_map rs fun x hx => ?_
    show P (if key x = key n then (key n, dn) else (key x, f x)).2 (if key x = key n then n else x)
    split
    · exact hn
    · exact hf x hx
  · rw [if_neg c, if_neg c, List.map_append, List.map_map]
    refine PySem.Paired.snoc ?_ hn
    have := pr_map (f := f) (g := id) (P := P) rs hf
    rw [List.map_id] at this
    exact this
abbrev paOf (c : Ch) : Pa := ⟨c.rights, c.sole, c.founders, c.rules⟩
/-- what is put is as small -/
theorem put_mem {α : Type} {key : α → Str} {rs : List α} {n x : α} (h : x ∈ putBy key rs n) : x ∈ rs ∨ x = n := by
  unfold putBy at h
  split at h
  · obtain ⟨y, hy, rfl⟩ := List.mem_map.mp h
    split
    · exact .inr rfl
    · exact .inl hy
  · rcases List.mem_append.mp h with h | h
    · exact .inl h
    · exact .inr (List.mem_singleton.mp h)
theorem put_len {α : Type} {key : α → Str} {rs : List α} {n : α} : (putBy key rs n).length ≤ rs.length + 1 := by
  unfold putBy
  split
  · rw [List.length_map]; omega
  · rw [List.length_append]; exact Nat.le_refl _
theorem fd_tup (l : List (Str × List Str)) : PySem.Paired IsFd (l.map dFo) l := by
  have := pr_map (f := dFo) (g := id) (P := IsFd) l fun f _ => is_dFo f
  rw [List.map_id] at this
  exact this
theorem ru_tup (l : List Ru) : PySem.Paired IsRu (l.map dRu) l := by
  have := pr_map (f := dRu) (g := id) (P := IsRu) l fun f _ => is_dRu f
  rw [List.map_id] at this
  exact this
def outP (ws : List Str) (d : D) : Bool := match snd d with
  | .str n => !ws.contains n
  | _ => false
theorem fil_ru {ws : List Str} (rs : List Ru) : (rs.map dRu).filter (outP ws) = (rs.filter fun r => !ws.contains r.name).map dRu := by
  rw [List.filter_map]
  rfl
def dAns : Option Ch → D
  | none => .str "invalid"
  | some c => .lst [dSt c.rights, dSt c.sole, .tup (c.founders.map dFo), .tup (c.rules.map dRu)]
abbrev NCharter_with_rule : List Str := ["self", "rule", "rules"]
def rCharter_with_rule : DS :=
  (dSeq (dSet 2 (dCall 3 ph__put (dCons (dFld "Charter" "rules" (dVar 0)) (dCons (dC (.int 1)) (dCons (dVar 1) dNil)))))
  (dRet (dMkC (dCons (dFld "Charter" "rights" (dVar 0)) (dCons (dFld "Charter" "sole" (dVar 0)) (dCons (dFld "Charter" "founders" (dVar 0)) (dCons (dVar 2) dNil)))))))
/- theorem MCharter_with_rule : MD rCharter_with_rule 2 3 phCharter_with_rule := fun ds Qd Xd h hl => by -/
def ph_Charter_with_rule : Ph := fun ds Qd Xd => ∃ (c : Ch) (r : Ru), ds = [dCi c, dRl r] ∧ Bz (paOf c) ∧ Bz ⟨c.rights, c.sole, c.founders, putBy (·.name) c.rules r⟩ ∧ Mk1 (mkCharter c.rights c.sole c.founders (putBy (·.name) c.rules r)) Qd Xd
theorem MCharter_with_rule : MD rCharter_with_rule 2 3 ph_Charter_with_rule := fun ds Qd Xd h hl => by
  obtain ⟨c, r, rfl, hb, hb2, q⟩ := h
  unfold rCharter_with_rule
  walk_at "ev"
  refine ⟨c.rules.map fun r => (r.name, dRu r), (r.name, dRl r), 1, by rw [List.map_map]; rfl, by rw [List.length_map]; have := hb.u.1; simp at this; omega, .inr rfl, ⟨_, _, _, rfl, rfl⟩, fun x hx => by obtain ⟨y, _, rfl⟩ := List.mem_map.mp hx; exact ⟨_, _, _, rfl, rfl⟩, ?_⟩
  walk_at "ev"
  refine mkK.of (pa := ⟨c.rights, c.sole, c.founders, putBy (·.name) c.rules r⟩) (is_dSt _) (is_dSt _) (.inr rfl) (fd_tup _) (.inl rfl) (put_pair (fun x _ => is_dRu x) (is_dRl r)) hb2 ?_
  unfold Mk1 at q
  show match mkCharter c.rights c.sole c.founders (putBy (·.name) c.rules r) with | some c => _ | none => _
  cases e : mkCharter c.rights c.sole c.founders (putBy (·.name) c.rules r) with
  | some c2 => rw [e] at q; exact And.intro (fun z => by cases z) q
  | none => rw [e] at q; exact q
abbrev NCharter_with_founder : List Str := ["self", "person", "held", "founders"]
def rCharter_with_founder : DS :=
  (dSeq (dSet 3 (dCall 3 ph__put (dCons (dFld "Charter" "founders" (dVar 0)) (dCons (dC (.int 0)) (dCons (dTup (dCons (dVar 1) (dCons (dVar 2) dNil))) dNil)))))
  (dRet (dMkC (dCons (dFld "Charter" "rights" (dVar 0)) (dCons (dFld "Charter" "sole" (dVar 0)) (dCons (dVar 3) (dCons (dFld "Charter" "rules" (dVar 0)) dNil)))))))
/- theorem MCharter_with_founder : MD rCharter_with_founder 3 4 phCharter_with_founder := fun ds Qd Xd h hl => by -/
def ph_Charter_with_founder : Ph := fun ds Qd Xd => ∃ (c : Ch) (n : Str) (l : List Str), ds = [dCi c, .str n, dL l] ∧ Bz (paOf c) ∧ Bz ⟨c.rights, c.sole, putBy (·.1) c.founders (n, l), c.rules⟩ ∧ Mk1 (mkCharter c.rights c.sole (putBy (·.1) c.founders (n, l)) c.rules) Qd Xd
theorem MCharter_with_founder : MD rCharter_with_founder 3 4 ph_Charter_with_founder := fun ds Qd Xd h hl => by
  obtain ⟨c, n, l, rfl, hb, hb2, q⟩ := h
  unfold rCharter_with_founder
  walk_at "ev"
  refine ⟨by decide, c.founders.map fun f => (f.1, dFo f), (n, .tup [.str n, dL l]), 0, by rw [List.map_map]; rfl, by rw [List.length_map]; have := hb.f.1; simp at this; omega, .inl rfl, ⟨_, _, _, rfl, rfl⟩, fun x hx => by obtain ⟨y, _, rfl⟩ := List.mem_map.mp hx; exact ⟨_, _, _, rfl, rfl⟩, ?_⟩
  walk_at "ev"
  refine mkK.of (pa := ⟨c.rights, c.sole, putBy (·.1) c.founders (n, l), c.rules⟩) (is_dSt _) (is_dSt _) (.inl rfl) (put_pair (key := fun f : Str × List Str => f.1) (n := (n, l)) (fun x _ => is_dFo x) ⟨_, rfl, is_dL _⟩) (.inr rfl) (ru_tup _) hb2 ?_
  unfold Mk1 at q
  show match mkCharter c.rights c.sole (putBy (·.1) c.founders (n, l)) c.rules with | some c => _ | none => _
  cases e : mkCharter c.rights c.sole (putBy (·.1) c.founders (n, l)) c.rules with
  | some c2 => rw [e] at q; exact And.intro (fun z => by cases z) q
  | none => rw [e] at q; exact q
abbrev NCharter_without_rules : List Str := ["self", "names", "name", "rules", "rule"]
def rCharter_without_rules : DS :=
  (dSeq (dFor (diVal (dVar 1)) (dgName 2) (dIfS (dTst (dBin gNin (dVarB 2) (dProp "Charter" ph_Charter_rule_names (dVar 0)))) (dRaise1 "UnknownName" "name" (dVar 2)) dNext))
  (dSeq (dSet 3 (dLc (diVal (dFld "Charter" "rules" (dVar 0))) 4 (dTst (dBin gNin (dBin gIx (dVarB 4) (dC (.int 1))) (dVarB 1))) (dVar 4)))
  (dRet (dMkC (dCons (dFld "Charter" "rights" (dVar 0)) (dCons (dFld "Charter" "sole" (dVar 0)) (dCons (dFld "Charter" "founders" (dVar 0)) (dCons (dVar 3) dNil))))))))
/- theorem MCharter_without_rules : MD rCharter_without_rules 2 5 phCharter_without_rules := fun ds Qd Xd h hl => by -/
def ph_Charter_without_rules : Ph := fun ds Qd Xd => ∃ (c : Ch) (ws : List Str), ds = [dCi c, dL ws] ∧ Bz (paOf c) ∧ (∀ w ∈ ws, w ∈ c.rules.map (·.name)) ∧ Mk1 (mkCharter c.rights c.sole c.founders (c.rules.filter fun r => !ws.contains r.name)) Qd Xd
theorem MCharter_without_rules : MD rCharter_without_rules 2 5 ph_Charter_without_rules := fun ds Qd Xd h hl => by
  obtain ⟨c, ws, rfl, hb, hw, q⟩ := h
  unfold rCharter_without_rules dL
  have lu : c.rules.length ≤ 40 := hb.u.1
  walk_at "ev"
  refine forK.map (fun k ρ => ∃ y, ρ = [.va (dCi c), .va (.lst (ws.map .str)), y, .no, .no]) ⟨_, rfl⟩ ?_ ?_
  · rintro k x ρ' hx kl ⟨y, rfl⟩
    walk_at "ev"
    unfold dCi
    walk_at "ev"
    refine ⟨c, rfl, by omega, ?_⟩
    walk_at "ev"
    rw [show (c.rules.map (·.name)).contains x = true from List.contains_iff_mem.mpr (hw x (List.mem_of_getElem? hx))]
    walk_at "ev"
    exact ⟨.va (.str x), rfl⟩
  · rintro ρ' ⟨y, rfl⟩
    walk_at "ev"
    rw [show c.rules.map dRu = (c.rules.map dRu).map id from (List.map_id _).symm]
    refine lcK.map (f := id) (xs := c.rules.map dRu) (fun _ _ h => h) (outP ws) id (by rw [List.length_map]; unfold sizeLine; omega) (fun d hd o ho => ?_) ?_
    · obtain ⟨r, hr, rfl⟩ := List.mem_map.mp hd
      rw [show outP ws (dRu r) = !ws.contains r.name from rfl] at ho
      walk_at "ev"
      simp (dsimp := false) only [id, gRu]
      walk_at "ev"
      refine iK_b (fun e => ?_) fun e => ?_
      · rw [e] at ho
        first | exact ho | (walk_at "ev"; exact ho)
      · rw [e] at ho
        walk_at "ev"
        first | exact ho | exact ⟨rfl, ho⟩
    · rw [List.map_id, fil_ru]
      walk_at "ev"
      have hb3 : Bz ⟨c.rights, c.sole, c.founders, c.rules.filter fun r => !ws.contains r.name⟩ := ⟨hb.r, hb.s, hb.f, Nat.le_trans (List.length_filter_le ..) lu, fun r hr => hb.u.2 r (List.mem_filter.mp hr).1⟩
      refine mkK.of (pa := ⟨c.rights, c.sole, c.founders, c.rules.filter fun r => !ws.contains r.name⟩) (is_dSt _) (is_dSt _) (.inr rfl) (fd_tup _) (.inl rfl) (ru_tup _) hb3 ?_
      unfold Mk1 at q
      show match mkCharter c.rights c.sole c.founders (c.rules.filter fun r => !ws.contains r.name) with | some c => _ | none => _
      cases e : mkCharter c.rights c.sole c.founders (c.rules.filter fun r => !ws.contains r.name) with
      | some c2 => rw [e] at q; exact And.intro (fun z => by cases z) q
      | none => rw [e] at q; exact q
end K8

-- part ND
set_option Elab.async false
set_option linter.all false
set_option maxRecDepth 100000
set_option maxHeartbeats 2000000
namespace K8
open PySem PySem.Spec PyProof.Rows L2 GxR GS GA GD DL
local macro_rules | `(tactic| walk_at "ev") => `(tactic| simp (dsimp := false) only [k0, k1, k2, k3, iK_true, iK_false, iK_not, sl_0, sl_s, vK_va, vK_ow, bK_va, bK_ow, dVar_ev, dVarB_ev, dC_ev, dBin_ev, tK_bl, dTst_ev, dAnd_ev, dOr_ev, dNot_ev, dAndV_ev, dOrV_ev, dNotV_ev, dIf_ev, dNext_ev, dSeq_st, kS_e, dBreak_ev, dCont_ev, dRet_ev, dRetN_ev, dIfS_ev, dSet_ev, dDrop_ev, slOf_fr, slOf_sh, gAdd_i, gAdd_s, gAdd_l, gAdd_t, num_i, gEq_i, gEq_s, gEq_b, gEq_sn, gEq_ns, gEq_in, gEq_ni, gEq_nn, gEq_is, gEq_si, gNe_i, gNe_s, gNe_b, gNe_sn, gNe_ns, gNe_in, gNe_ni, gNe_nn, gEq_l, gEq_t, gNe_l, gNe_t,
    gIsN_n, gIsN_s, gIsN_i, gIsN_l, gIsN_t, gNotN_n, gNotN_s, gNotN_i, gNotN_l, gNotN_t, gIn_l, gIn_t, gNin_l, gNin_t, flD_s, flD_i, flD_n, flD_str, flD_int, has_strs, gIx_l, gIx_t, gIx_s, DL.at0, at1, at2, at3, at4, at5, dNoPart_ev, pK_i, dPart_ev, sK_l, sK_r, sK_t, sK_s, dSl_ev, dNil_ev, dCons_ev, dConsW_ev, itsD_l, itsD_t, dStar_ev, dLst_ev, dTup_ev, dBlt_ev, gLen_l, gLen_t, gLen_r, gLen_s, gInt_i, gInt_b, gAbs_i, gMax_i, gMin_i, gTuple_l, gTuple_t, gList_l, gList_t, oW_ow, owAt_ev, decide_true, decide_false, Bool.not_true, Bool.not_false, gRepr_1, dStarT_ev, dRepl_ev, f_rights, f_sole, f_founders, f_rules, dMkC_ev, dTryAs0_ev, dTryOn_ev, dIsx0_ev, xnK_x, dIdx_ev, liK_l, has_two, stK_l, gTimes_s, zK_s, dSplit_ev, dJoin_ev, dInTab_ev, dIxTab_ev, gInD_l, gInS_s, gNinS_s, chK_b, dChn_ev, is_tt, is_ll, is_tn, is_bn, dTryAs_ev, dXf_ev, dIsx_ev, xK_x, dRaise1_ev, dIsi_ev, is_ss, is_sl, is_st, is_bb, dProp_ev, prK_i, xc_c, xc_a, dApp_ev, dStI_ev, wK_sh, wK_fr, wK_bo, wK_t, wK_r, wK_s, diVal_ev, rK_i, diRng_ev, eK_sh, eK_fr, eK_bo, diEnum_ev, dgName_ev, dgNil_ev, dgCons_ev, dgTup_ev, dAsg_ev, dFor_ev, dWhile_ev, dLc_ev, dGen_ev, dCall_ev, mK_i, dMeth_ev, fK_i, dFld_ev, nK_i, dNeg_ev, dYes_ev, oK_some, List.length_map, rng_len, Int.toNat_natCast,
    List.map_cons, List.map_nil, List.length_cons, List.length_nil, List.length_set, List.replicate_succ, List.replicate_zero, List.nil_append, List.cons_append, List.set_cons_zero, List.set_cons_succ, Nat.reduceAdd, Nat.reduceSub, ne_eq, reduceCtorEq, not_false_eq_true, not_true_eq_false, true_and, and_true, Nat.reduceLT, Nat.reduceLeDiff, Nat.zero_le, Bool.false_eq_true])
local macro_rules | `(tactic| walk_at "st") => `(tactic| simp (dsimp := false) only [k0, k1, k2, k3, iK_true, iK_false, iK_not, sl_0, sl_s, vK_va, vK_ow, bK_va, bK_ow, dVar_ev, dVarB_ev, dC_ev, dBin_ev, tK_bl, dTst_ev, dAnd_ev, dOr_ev, dNot_ev, dAndV_ev, dOrV_ev, dNotV_ev, dIf_ev, dNext_ev, dSeq_st, kS_e, dBreak_ev, dCont_ev, dRet_ev, dRetN_ev, dSet_ev, dDrop_ev, slOf_fr, slOf_sh, gAdd_i, gAdd_s, gAdd_l, gAdd_t, num_i, gEq_i, gEq_s, gEq_b, gEq_sn, gEq_ns, gEq_in, gEq_ni, gEq_nn, gEq_is, gEq_si, gNe_i, gNe_s, gNe_b, gNe_sn, gNe_ns, gNe_in, gNe_ni, gNe_nn, gEq_l, gEq_t, gNe_l, gNe_t,
    gIsN_n, gIsN_s, gIsN_i, gIsN_l, gIsN_t, gNotN_n, gNotN_s, gNotN_i, gNotN_l, gNotN_t, gIn_l, gIn_t, gNin_l, gNin_t, flD_s, flD_i, flD_n, flD_str, flD_int, has_strs, gIx_l, gIx_t, gIx_s, DL.at0, at1, at2, at3, at4, at5, dNoPart_ev, pK_i, dPart_ev, sK_l, sK_r, sK_t, sK_s, dSl_ev, dNil_ev, dCons_ev, dConsW_ev, itsD_l, itsD_t, dStar_ev, dLst_ev, dTup_ev, dBlt_ev, gLen_l, gLen_t, gLen_r, gLen_s, gInt_i, gInt_b, gAbs_i, gMax_i, gMin_i, gTuple_l, gTuple_t, gList_l, gList_t, oW_ow, owAt_ev, decide_true, decide_false, Bool.not_true, Bool.not_false, gRepr_1, dStarT_ev, dRepl_ev, f_rights, f_sole, f_founders, f_rules, dMkC_ev, dTryAs0_ev, dTryOn_ev, dIsx0_ev, xnK_x, dIdx_ev, liK_l, has_two, stK_l, gTimes_s, zK_s, dSplit_ev, dJoin_ev, dInTab_ev, dIxTab_ev, gInD_l, gInS_s, gNinS_s, chK_b, dChn_ev, is_tt, is_ll, is_tn, is_bn, dTryAs_ev, dXf_ev, dIsx_ev, xK_x, dRaise1_ev, dIsi_ev, is_ss, is_sl, is_st, is_bb, dProp_ev, prK_i, xc_c, xc_a, dApp_ev, dStI_ev, wK_sh, wK_fr, wK_bo, wK_t, wK_r, wK_s, diVal_ev, rK_i, diRng_ev, eK_sh, eK_fr, eK_bo, diEnum_ev, dgName_ev, dgNil_ev, dgCons_ev, dgTup_ev, dAsg_ev, dFor_ev, dWhile_ev, dLc_ev, dGen_ev, dCall_ev, mK_i, dMeth_ev, fK_i, dFld_ev, nK_i, dNeg_ev, dYes_ev, oK_some, List.length_map, rng_len, Int.toNat_natCast,
    List.map_cons, List.map_nil, List.length_cons, List.length_nil, List.length_set, List.replicate_succ, List.replicate_zero, List.nil_append, List.cons_append, List.set_cons_zero, List.set_cons_succ, Nat.reduceAdd, Nat.reduceSub, ne_eq, reduceCtorEq, not_false_eq_true, not_true_eq_false, true_and, and_true, Nat.reduceLT, Nat.reduceLeDiff, Nat.zero_le, Bool.false_eq_true])
def sq (b : Bool) (l : List Str) : D := if b then .tup (l.map .str) else .lst (l.map .str)
theorem kept_hp {R sl : List Str} {r k : Ru} (h : keptRule R sl r = some k) : hasParts r.kind r.n = true := by
  unfold keptRule at h
  split at h
  · cases h
  · rename_i z
    simpa using z
theorem hp_len {r : Ru} (e : hasParts r.kind r.n = true) : r.ls.length ≤ 6 := by
  revert e
  unfold hasParts
  cases lk : kinds.lookup r.kind with
  | none => intro e; cases e
  | some m =>
    intro e
    have q := of_decide_eq_true e
    have hm := lookup_some lk
    simp only [List.mem_cons, Prod.mk.injEq, List.mem_nil_iff, or_false] at hm
    have m3 : m ≤ 3 := by rcases hm with ⟨k, hm⟩ | ⟨k, hm⟩ | ⟨k, hm⟩ | ⟨k, hm⟩ | ⟨k, hm⟩ | ⟨k, hm⟩ <;> omega
    unfold Ru.n at q
    split at q <;> omega
theorem cut_t2 {a b : D} {r : List D} : DL.cutD (a :: b :: r) none (some 2) = [a, b] := cutD_take _ 2
theorem cut_d2 {a b : D} {r : List D} : DL.cutD (a :: b :: r) (some 2) none = r := cutD_drop _ 2
abbrev N_law_ordered : List Str := ["rights", "words", "right"]
def r_law_ordered : DS :=
  (dRet (dBlt gTuple (dConsW (dLc (diVal (dVarB 0)) 2 (dTst (dBin gIn (dVarB 2) (dVarB 1))) (dVar 2)) dNil)))
/- theorem M_law_ordered : MD r_law_ordered 2 3 ph_law_ordered := fun ds Qd Xd h hl => by -/
def ph__law_ordered : Ph := fun ds Qd _ => ∃ (b : Bool) (R ws : List Str), ds = [sq b R, .lst (ws.map .str)] ∧ R.length ≤ 4000 ∧ Qd (dSt (ord R ws))
theorem M_law_ordered : MD r_law_ordered 2 3 ph__law_ordered := fun ds Qd Xd h hl => by
  obtain ⟨b, R, ws, rfl, lR, q⟩ := h
  clear hl
  unfold r_law_ordered sq
  cases b
  all_goals
    simp only [if_true, Bool.false_eq_true, if_false]
    walk_at "ev"
    refine lcK.map inj_str (fun r => ws.contains r) .str (by unfold sizeLine; omega) (fun r hr o ho => ?_) ?_
    · walk_at "ev"
      rw [ho]
      refine iK_b (fun e => ?_) fun e => ?_
      · rw [e]
        walk_at "ev"
        rfl
      · rw [e]; rfl
    · walk_at "ev"
      exact q
abbrev N_law_frozen : List Str := ["parts", "rights", "founders", "rules", "rule", "row", "part", "one"]
def r_law_frozen : DS :=
  (dSeq (dSet 1 (dBin gIx (dVarB 0) (dC (.int 0))))
  (dSeq (dSet 2 (dLc (diVal (dBin gIx (dVarB 0) (dC (.int 2)))) 7 dYes (dTup (dCons (dBin gIx (dVarB 7) (dC (.int 0))) (dCons (dCall 2 ph__law_ordered (dCons (dVar 1) (dCons (dBin gIx (dVarB 7) (dC (.int 1))) dNil))) dNil)))))
  (dSeq (dSet 3 (dLst dNil))
  (dSeq (dFor (diVal (dBin gIx (dVarB 0) (dC (.int 3)))) (dgName 4) (dSeq (dSet 5 (dSl (dVarB 4) dNoPart (dPart (dC (.int 2)))))
  (dSeq (dFor (diVal (dSl (dVarB 4) (dPart (dC (.int 2))) dNoPart)) (dgName 6) (dIfS (dTst (dIsi "str" (dVarB 6))) (dSet 5 (dBin gAdd (dVarB 5) (dTup (dCons (dVar 6) dNil)))) (dSet 5 (dBin gAdd (dVarB 5) (dTup (dCons (dCall 2 ph__law_ordered (dCons (dVar 1) (dCons (dVar 6) dNil))) dNil))))))
  (dApp 3 (dVar 5)))))
  (dRet (dTup (dCons (dBlt gTuple (dConsW (dVarB 1) dNil)) (dCons (dCall 2 ph__law_ordered (dCons (dVar 1) (dCons (dBin gIx (dVarB 0) (dC (.int 1))) dNil))) (dCons (dBlt gTuple (dConsW (dVarB 2) dNil)) (dCons (dBlt gTuple (dConsW (dVarB 3) dNil)) dNil))))))))))
/- theorem M_law_frozen : MD r_law_frozen 1 8 ph_law_frozen := fun ds Qd Xd h hl => by -/
def frF' (R : List Str) (f : Str × List Str) : D := .tup [.str f.1, dSt (ord R f.2)]
def frz (R : List Str) : D → D
  | .lst l => .tup ((ord R (l.filterMap fun d => match d with | .str s => some s | _ => none)).map .str)
  | d => d
theorem frz_l (R l : List Str) : frz R (dL l) = dSt (ord R l) := by
  unfold frz dL dSt
  dsimp only
  congr 3
  rw [List.filterMap_map]
  exact List.filterMap_some
def dPz (c : Ch) : D := .tup [dSt c.rights, dSt c.sole, .tup (c.founders.map dFo), .tup (c.rules.map dRu)]
def ph__law_frozen : Ph := fun ds Qd _ => ∃ pa : Pa, ds = [dPa pa] ∧ Bz pa ∧ Qd (dPz (fzn pa))
theorem M_law_frozen : MD r_law_frozen 1 8 ph__law_frozen := fun ds Qd Xd h hl => by
  obtain ⟨pa, rfl, ok, q⟩ := h
  unfold r_law_frozen
  have gPa : ∀ {R : D → Kd → Prop} {i : Int}, gIx (dPa pa) (.int i) R = oK (atI [dL pa.rights, dL pa.sole, .lst (pa.founders.map dFl), .lst (pa.rules.map dRl)] i) (kk fun z => R z .sh) := rfl
  have gFl : ∀ {f : Str × List Str} {R : D → Kd → Prop} {i : Int}, gIx (dFl f) (.int i) R = oK (atI [.str f.1, dL f.2] i) (kk fun z => R z .sh) := rfl
  have lr := ok.r.1
  have lf := ok.f.1
  have lu := ok.u.1
  walk_at "st"
  simp (dsimp := false) only [gPa]
  walk_at "st"
  simp (dsimp := false) only [gPa]
  walk_at "st"
  refine lcK.fn (g := dFl) (fun d => .tup [fst d, frz pa.rights (snd d)]) (by unfold sizeLine; omega) (fun f hf => ?_) ?_
  · walk_at "ev"
    simp (dsimp := false) only [gFl]
    walk_at "ev"
    simp (dsimp := false) only [gFl]
    walk_at "ev"
    refine ⟨false, pa.rights, f.2, rfl, by omega, ?_⟩
    walk_at "ev"
    refine ⟨by decide, ?_⟩
    show _ = D.tup [.str f.1, frz pa.rights (dL f.2)]
    rw [frz_l]
  have e1 : (pa.founders.map fun x => D.tup [fst (dFl x), frz pa.rights (snd (dFl x))]) = (pa.founders.map (frF pa.rights)).map dFo := by
    rw [List.map_map]
    refine List.map_congr_left fun f _ => ?_
    show D.tup [.str f.1, frz pa.rights (dL f.2)] = _
    rw [frz_l]
    rfl
  rw [e1]
  walk_at "st"
  simp (dsimp := false) only [gPa]
  walk_at "st"
  refine forK.map (fun k ρ => ∃ x4 x5 x6, ρ = [.va (dPa pa), .va (dL pa.rights), .ow ((pa.founders.map (frF pa.rights)).map dFo), .ow ((pa.rules.take k).map fun r => dRu (frR pa.rights r)), x4, x5, x6, .no]) ⟨_, _, _, rfl⟩ ?_ ?_
  · rintro k r ρ' hr lt ⟨x4, x5, x6, rfl⟩
    have ll := (ok.u.2 r (List.mem_of_getElem? hr)).2.1
    have lrt : r.right.toList.length ≤ 1 := by cases r.right <;> simp
    have sRl : ∀ {lo hi : Option Int} {f : D → Kd → Prop}, sK (dRl r) lo hi f = f (.tup (DL.cutD (.str r.kind :: .str r.name :: (r.ls.map dL ++ r.right.toList.map .str)) lo hi)) .sh := rfl
    walk_at "st"
    simp (dsimp := false) only [sRl, cut_t2, cut_d2]
    walk_at "st"
    simp (dsimp := false) only [sRl, cut_t2, cut_d2]
    walk_at "st"
    have em : (r.ls.map dL ++ r.right.toList.map D.str).map (frz pa.rights) = (r.ls.map (ord pa.rights)).map dSt ++ r.right.toList.map D.str := by
      rw [List.map_append, List.map_map, List.map_map, List.map_map]
      congr 1
      exact List.map_congr_left fun l _ => frz_l _ _
    have lit : (r.ls.map dL ++ r.right.toList.map D.str).length ≤ 7 := by rw [List.length_append, List.length_map, List.length_map]; omega
    have hit : ∀ d ∈ r.ls.map dL ++ r.right.toList.map D.str, (∃ l, d = dL l) ∨ ∃ s, d = .str s := fun d hd => by
      rcases List.mem_append.mp hd with h | h
      · obtain ⟨l, _, rfl⟩ := List.mem_map.mp h
        exact .inl ⟨l, rfl⟩
      · obtain ⟨l, _, rfl⟩ := List.mem_map.mp h
        exact .inr ⟨l, rfl⟩
    generalize r.ls.map dL ++ r.right.toList.map D.str = its at em lit hit
    refine forK.mk (fun j ρ => ∃ y6, ρ = [.va (dPa pa), .va (dL pa.rights), .ow ((pa.founders.map (frF pa.rights)).map dFo), .ow ((pa.rules.take k).map fun r => dRu (frR pa.rights r)), .va (dRl r), .va (.tup (.str r.kind :: .str r.name :: (its.take j).map (frz pa.rights))), y6, .no]) ⟨_, rfl⟩ ?_ ?_
    · rintro j d ρ' hd ⟨y6, rfl⟩
      have tk : its.take (j + 1) = its.take j ++ [d] := by rw [List.take_add_one, hd]; rfl
      have lj : (its.take j).length ≤ 7 := by rw [List.length_take]; omega
      rcases hit d (List.mem_of_getElem? hd) with ⟨l, rfl⟩ | ⟨z, rfl⟩
      · have e2 : isD "str" (dL l) = some false := is_sl
        walk_at "ev"
        rw [e2]
        walk_at "ev"
        refine ⟨false, pa.rights, l, rfl, by omega, ?_⟩
        walk_at "ev"
        refine ⟨by decide, by unfold sizeLine; omega, .va (dL l), ?_⟩
        rw [tk, List.map_append, List.map_cons, frz_l]
        rfl
      · walk_at "ev"
        refine ⟨by decide, by unfold sizeLine; omega, .va (.str z), ?_⟩
        rw [tk, List.map_append]
        rfl
    · rintro ρ' ⟨y6, rfl⟩
      rw [List.take_length, em]
      walk_at "ev"
      refine ⟨by rw [List.length_take]; unfold sizeLine; omega, .va (dRl r), .va (dRu (frR pa.rights r)), y6, ?_⟩
      have tk : pa.rules.take (k + 1) = pa.rules.take k ++ [r] := by rw [List.take_add_one, hr]; rfl
      rw [tk, List.map_append]
      rfl
  rintro ρ' ⟨x4, x5, x6, rfl⟩
  rw [List.take_length]
  unfold dL
  walk_at "st"
  simp (dsimp := false) only [gPa]
  walk_at "st"
  refine ⟨false, pa.rights, pa.sole, rfl, by omega, ?_⟩
  walk_at "st"
  refine ⟨by decide, ?_⟩
  have e2 : (pa.rules.map fun r => dRu (frR pa.rights r)) = (fzn pa).rules.map dRu := by
    show _ = (pa.rules.map (frR pa.rights)).map dRu
    rw [List.map_map]
    rfl
  rw [e2]
  exact q
end K8

-- part KC
set_option Elab.async false
set_option linter.all false
set_option maxRecDepth 100000
set_option maxHeartbeats 2000000
namespace K8
open PySem PySem.Spec PyProof.Rows L2 GxR GS GA GD DL
local macro_rules | `(tactic| walk_at "ev") => `(tactic| simp (dsimp := false) only [k0, k1, k2, k3, iK_true, iK_false, iK_not, sl_0, sl_s, vK_va, vK_ow, bK_va, bK_ow, dVar_ev, dVarB_ev, dC_ev, dBin_ev, tK_bl, dTst_ev, dAnd_ev, dOr_ev, dNot_ev, dAndV_ev, dOrV_ev, dNotV_ev, dIf_ev, dNext_ev, dSeq_st, kS_e, dBreak_ev, dCont_ev, dRet_ev, dRetN_ev, dIfS_ev, dSet_ev, dDrop_ev, slOf_fr, slOf_sh, gAdd_i, gAdd_s, gAdd_l, gAdd_t, num_i, gEq_i, gEq_s, gEq_b, gEq_sn, gEq_ns, gEq_in, gEq_ni, gEq_nn, gEq_is, gEq_si, gNe_i, gNe_s, gNe_b, gNe_sn, gNe_ns, gNe_in, gNe_ni, gNe_nn, gEq_l, gEq_t, gNe_l, gNe_t,
    gIsN_n, gIsN_s, gIsN_i, gIsN_l, gIsN_t, gNotN_n, gNotN_s, gNotN_i, gNotN_l, gNotN_t, gIn_l, gIn_t, gNin_l, gNin_t, flD_s, flD_i, flD_n, flD_str, flD_int, has_strs, gIx_l, gIx_t, gIx_s, DL.at0, at1, at2, at3, at4, at5, dNoPart_ev, pK_i, dPart_ev, sK_l, sK_r, sK_t, sK_s, dSl_ev, dNil_ev, dCons_ev, dConsW_ev, itsD_l, itsD_t, dStar_ev, dLst_ev, dTup_ev, dBlt_ev, gLen_l, gLen_t, gLen_r, gLen_s, gInt_i, gInt_b, gAbs_i, gMax_i, gMin_i, gTuple_l, gTuple_t, gList_l, gList_t, oW_ow, owAt_ev, decide_true, decide_false, Bool.not_true, Bool.not_false, gRepr_1, dStarT_ev, dRepl_ev, f_rights, f_sole, f_founders, f_rules, dMkC_ev, dTryAs0_ev, dTryOn_ev, dIsx0_ev, xnK_x, dIdx_ev, liK_l, has_two, stK_l, gTimes_s, zK_s, dSplit_ev, dJoin_ev, dInTab_ev, dIxTab_ev, gInD_l, gInS_s, gNinS_s, chK_b, dChn_ev, is_tt, is_ll, is_tn, is_bn, dTryAs_ev, dXf_ev, dIsx_ev, xK_x, dRaise1_ev, dIsi_ev, is_ss, is_sl, is_st, is_bb, dProp_ev, prK_i, xc_c, xc_a, dApp_ev, dStI_ev, wK_sh, wK_fr, wK_bo, wK_t, wK_r, wK_s, diVal_ev, rK_i, diRng_ev, eK_sh, eK_fr, eK_bo, diEnum_ev, dgName_ev, dgNil_ev, dgCons_ev, dgTup_ev, dAsg_ev, dFor_ev, dWhile_ev, dLc_ev, dGen_ev, dCall_ev, mK_i, dMeth_ev, fK_i, dFld_ev, nK_i, dNeg_ev, dYes_ev, oK_some, List.length_map, rng_len, Int.toNat_natCast,
    List.map_cons, List.map_nil, List.length_cons, List.length_nil, List.length_set, List.replicate_succ, List.replicate_zero, List.nil_append, List.cons_append, List.set_cons_zero, List.set_cons_succ, Nat.reduceAdd, Nat.reduceSub, ne_eq, reduceCtorEq, not_false_eq_true, not_true_eq_false, true_and, and_true, Nat.reduceLT, Nat.reduceLeDiff, Nat.zero_le, Bool.false_eq_true])
local macro_rules | `(tactic| walk_at "st") => `(tactic| simp (dsimp := false) only [k0, k1, k2, k3, iK_true, iK_false, iK_not, sl_0, sl_s, vK_va, vK_ow, bK_va, bK_ow, dVar_ev, dVarB_ev, dC_ev, dBin_ev, tK_bl, dTst_ev, dAnd_ev, dOr_ev, dNot_ev, dAndV_ev, dOrV_ev, dNotV_ev, dIf_ev, dNext_ev, dSeq_st, kS_e, dBreak_ev, dCont_ev, dRet_ev, dRetN_ev, dSet_ev, dDrop_ev, slOf_fr, slOf_sh, gAdd_i, gAdd_s, gAdd_l, gAdd_t, num_i, gEq_i, gEq_s, gEq_b, gEq_sn, gEq_ns, gEq_in, gEq_ni, gEq_nn, gEq_is, gEq_si, gNe_i, gNe_s, gNe_b, gNe_sn, gNe_ns, gNe_in, gNe_ni, gNe_nn, gEq_l, gEq_t, gNe_l, gNe_t,
    gIsN_n, gIsN_s, gIsN_i, gIsN_l, gIsN_t, gNotN_n, gNotN_s, gNotN_i, gNotN_l, gNotN_t, gIn_l, gIn_t, gNin_l, gNin_t, flD_s, flD_i, flD_n, flD_str, flD_int, has_strs, gIx_l, gIx_t, gIx_s, DL.at0, at1, at2, at3, at4, at5, dNoPart_ev, pK_i, dPart_ev, sK_l, sK_r, sK_t, sK_s, dSl_ev, dNil_ev, dCons_ev, dConsW_ev, itsD_l, itsD_t, dStar_ev, dLst_ev, dTup_ev, dBlt_ev, gLen_l, gLen_t, gLen_r, gLen_s, gInt_i, gInt_b, gAbs_i, gMax_i, gMin_i, gTuple_l, gTuple_t, gList_l, gList_t, oW_ow, owAt_ev, decide_true, decide_false, Bool.not_true, Bool.not_false, gRepr_1, dStarT_ev, dRepl_ev, f_rights, f_sole, f_founders, f_rules, dMkC_ev, dTryAs0_ev, dTryOn_ev, dIsx0_ev, xnK_x, dIdx_ev, liK_l, has_two, stK_l, gTimes_s, zK_s, dSplit_ev, dJoin_ev, dInTab_ev, dIxTab_ev, gInD_l, gInS_s, gNinS_s, chK_b, dChn_ev, is_tt, is_ll, is_tn, is_bn, dTryAs_ev, dXf_ev, dIsx_ev, xK_x, dRaise1_ev, dIsi_ev, is_ss, is_sl, is_st, is_bb, dProp_ev, prK_i, xc_c, xc_a, dApp_ev, dStI_ev, wK_sh, wK_fr, wK_bo, wK_t, wK_r, wK_s, diVal_ev, rK_i, diRng_ev, eK_sh, eK_fr, eK_bo, diEnum_ev, dgName_ev, dgNil_ev, dgCons_ev, dgTup_ev, dAsg_ev, dFor_ev, dWhile_ev, dLc_ev, dGen_ev, dCall_ev, mK_i, dMeth_ev, fK_i, dFld_ev, nK_i, dNeg_ev, dYes_ev, oK_some, List.length_map, rng_len, Int.toNat_natCast,
    List.map_cons, List.map_nil, List.length_cons, List.length_nil, List.length_set, List.replicate_succ, List.replicate_zero, List.nil_append, List.cons_append, List.set_cons_zero, List.set_cons_succ, Nat.reduceAdd, Nat.reduceSub, ne_eq, reduceCtorEq, not_false_eq_true, not_true_eq_false, true_and, and_true, Nat.reduceLT, Nat.reduceLeDiff, Nat.zero_le, Bool.false_eq_true])
theorem gPa {pa : Pa} {R : D → Kd → Prop} {i : Int} : gIx (dPa pa) (.int i) R = oK (atI [dL pa.rights, dL pa.sole, .lst (pa.founders.map dFl), .lst (pa.rules.map dRl)] i) (kk fun z => R z .sh) := rfl
theorem gLdL {l : List Str} {R : D → Kd → Prop} : gList [dL l] R = R (dL l) .fr := rfl
theorem fd_lst (l : List (Str × List Str)) : PySem.Paired IsFd (l.map dFl) l := by
  have := pr_map (f := dFl) (g := id) (P := IsFd) l fun f _ => is_dFl f
  rw [List.map_id] at this
  exact this
theorem ru_lst (l : List Ru) : PySem.Paired IsRu (l.map dRl) l := by
  have := pr_map (f := dRl) (g := id) (P := IsRu) l fun f _ => is_dRl f
  rw [List.map_id] at this
  exact this
/-- what is made is the parts, frozen -/
theorem listed_is {R l h : List Str} (e : listed R l = some h) : h = ord R l := by
  unfold listed at e
  split at e
  · exact (Option.some.inj e).symm
  · cases e
theorem listAll_is {R : List Str} : ∀ {ls hs : List (List Str)}, listAll R ls = some hs → hs = ls.map (ord R)
  | [], hs, h => by cases h; rfl
  | l :: r, hs, h => by
    have h : (listed R l).bind (fun h => (listAll R r).map fun t => h :: t) = some hs := h
    cases e : listed R l with
    | none => rw [e] at h; cases h
    | some x =>
      cases e2 : listAll R r with
      | none => rw [e, e2] at h; cases h
      | some t =>
        rw [e, e2] at h
        cases h
        rw [listed_is e, listAll_is e2]
        rfl
theorem keptRule_is {R S : List Str} {r k : Ru} (j : hasParts r.kind r.n = true → (r.kind = "join" ↔ r.right = none)) (h : keptRule R S r = some k) : k = frR R r := by
  obtain ⟨kind, name, ls, right⟩ := r
  unfold keptRule at h
  split at h
  · cases h
  rename_i hp
  have hp : hasParts kind (Ru.n ⟨kind, name, ls, right⟩) = true := by simpa using hp
  cases right with
  | none =>
    have hk : kind = "join" := (j hp).mpr rfl
    have l1 : ls.length = 1 := by
      have q := hp
      unfold hasParts Ru.n at q
      rw [hk] at q
      have q2 : decide (((1 + ls.length + 0 : Nat) : Int) + 1 = 1 + 2) = true := q
      have := of_decide_eq_true q2
      omega
    obtain ⟨l0, rfl⟩ := List.length_eq_one_iff.mp l1
    have h : ((listed R l0).bind fun h => if (h.any fun x => S.contains x) = true then none else some (⟨kind, name, [h], none⟩ : Ru)) = some k := h
    cases e : listed R l0 with
    | none => rw [e] at h; cases h
    | some x =>
      rw [e] at h
      have h : (if (x.any fun x => S.contains x) = true then none else some (⟨kind, name, [x], none⟩ : Ru)) = some k := h
      split at h
      · cases h
      · cases h
        rw [listed_is e]
        rfl
  | some right =>
    have h : (if R.contains right = false then none else (listAll R ls).bind fun ls => if checkRight kind ls right S = true then some (⟨kind, name, ls, some right⟩ : Ru) else none) = some k := h
    split at h
    · cases h
    · cases e : listAll R ls with
      | none => rw [e] at h; cases h
      | some hs =>
        rw [e] at h
        have h : (if checkRight kind hs right S = true then some (⟨kind, name, hs, some right⟩ : Ru) else none) = some k := h
        split at h
        · cases h
          rw [listAll_is e]
          rfl
        · cases h
theorem heldAll_is {R : List Str} : ∀ {fs ks : List (Str × List Str)}, heldAll R fs = some ks → ks = fs.map (frF R)
  | [], ks, h => by cases h; rfl
  | f :: r, ks, h => by
    rw [heldAll_cons] at h
    cases e : listed R f.2 with
    | none => rw [e] at h; cases h
    | some x =>
      cases e2 : heldAll R r with
      | none => rw [e, e2] at h; cases h
      | some t =>
        rw [e, e2] at h
        cases h
        rw [listed_is e, heldAll_is e2]
        rfl
theorem keptRules_is {R S : List Str} : ∀ {rs ks : List Ru}, (∀ r ∈ rs, hasParts r.kind r.n = true → (r.kind = "join" ↔ r.right = none)) → keptRules R S rs = some ks → ks = rs.map (frR R)
  | [], ks, _, h => by cases h; rfl
  | r :: t, ks, j, h => by
    have h : (keptRule R S r).bind (fun k => (keptRules R S t).map fun l => k :: l) = some ks := h
    cases e : keptRule R S r with
    | none => rw [e] at h; cases h
    | some x =>
      cases e2 : keptRules R S t with
      | none => rw [e, e2] at h; cases h
      | some y =>
        rw [e, e2] at h
        cases h
        rw [keptRule_is (j r List.mem_cons_self) e, keptRules_is (fun r hr => j r (List.mem_cons_of_mem _ hr)) e2]
        rfl
theorem mk_fzn {pa : Pa} (hb : Bz pa) {c : Ch} (h : mkCharter pa.rights pa.sole pa.founders pa.rules = some c) : c = fzn pa := by
  unfold mkCharter at h
  split at h
  · cases h
  cases e1 : listed pa.rights pa.sole with
  | none => rw [e1] at h; cases h
  | some s =>
    rw [e1] at h
    have h : ((keptFounders pa.rights s pa.founders).bind fun f => (keptRules pa.rights s pa.rules).bind fun u => if checkNames (u.map (·.name)) 12 = true then some (⟨pa.rights, s, f, u⟩ : Ch) else none) = some c := h
    cases e2 : keptFounders pa.rights s pa.founders with
    | none => rw [e2] at h; cases h
    | some f =>
      rw [e2] at h
      have h : ((keptRules pa.rights s pa.rules).bind fun u => if checkNames (u.map (·.name)) 12 = true then some (⟨pa.rights, s, f, u⟩ : Ch) else none) = some c := h
      cases e3 : keptRules pa.rights s pa.rules with
      | none => rw [e3] at h; cases h
      | some u =>
        rw [e3] at h
        have h : (if checkNames (u.map (·.name)) 12 = true then some (⟨pa.rights, s, f, u⟩ : Ch) else none) = some c := h
        split at h
        · cases h
          have ef : f = pa.founders.map (frF pa.rights) := by
            unfold keptFounders at e2
            cases e4 : heldAll pa.rights pa.founders with
            | none => rw [e4] at e2; cases e2
            | some ks =>
              rw [e4] at e2
              have e2 : (if (checkNames (ks.map (·.1)) 5 && s.all fun r => decide ((ks.filter fun f => f.2.contains r).length ≤ 1)) = true then some ks else none) = some f := e2
              split at e2
              · cases e2
                exact heldAll_is e4
              · cases e2
          rw [listed_is e1, ef, keptRules_is (fun r hr => (hb.u.2 r hr).2.2.join) e3]
          rfl
        · cases h
abbrev N_law_made : List Str := ["parts"]
def r_law_made : DS :=
  (dRet (dMkC (dCons (dBlt gList (dConsW (dBin gIx (dVarB 0) (dC (.int 0))) dNil)) (dCons (dBlt gList (dConsW (dBin gIx (dVarB 0) (dC (.int 1))) dNil)) (dCons (dBlt gList (dConsW (dBin gIx (dVarB 0) (dC (.int 2))) dNil)) (dCons (dBlt gList (dConsW (dBin gIx (dVarB 0) (dC (.int 3))) dNil)) dNil))))))
/- theorem M_law_made : MD r_law_made 1 1 ph_law_made := fun ds Qd Xd h hl => by -/
def ph__law_made : Ph := fun ds Qd Xd => ∃ pa : Pa, ds = [dPa pa] ∧ Bz pa ∧ Mk1 (mkCharter pa.rights pa.sole pa.founders pa.rules) Qd Xd
theorem M_law_made : MD r_law_made 1 1 ph__law_made := fun ds Qd Xd h hl => by
  obtain ⟨pa, rfl, hb, q⟩ := h
  unfold r_law_made
  walk_at "ev"
  simp (dsimp := false) only [gPa]
  walk_at "ev"
  simp (dsimp := false) only [gLdL]
  walk_at "ev"
  simp (dsimp := false) only [gPa]
  walk_at "ev"
  simp (dsimp := false) only [gLdL]
  walk_at "ev"
  simp (dsimp := false) only [gPa]
  walk_at "ev"
  simp (dsimp := false) only [gPa]
  walk_at "ev"
  refine mkK.of (pa := pa) (is_dL _) (is_dL _) (.inl rfl) (fd_lst _) (.inl rfl) (ru_lst _) hb ?_
  unfold Mk1 at q
  cases e : mkCharter pa.rights pa.sole pa.founders pa.rules with
  | some c2 => rw [e] at q; exact And.intro (fun z => by cases z) q
  | none => rw [e] at q; exact q
abbrev N_law_due : List Str := ["parts", "due"]
def r_law_due : DS :=
  (dSeq (dTryOn em_InvalidCharter (dDrop (dCall 1 ph__law_made (dCons (dVar 0) dNil)))
  (dRet (dC (.str "invalid"))))
  (dSeq (dSet 1 (dCall 1 ph__law_frozen (dCons (dVar 0) dNil)))
  (dRet (dLst (dCons (dBin gIx (dVarB 1) (dC (.int 0))) (dCons (dBin gIx (dVarB 1) (dC (.int 1))) (dCons (dBin gIx (dVarB 1) (dC (.int 2))) (dCons (dBin gIx (dVarB 1) (dC (.int 3))) dNil))))))))
/- theorem M_law_due : MD r_law_due 1 2 ph_law_due := fun ds Qd Xd h hl => by -/
def ph__law_due : Ph := fun ds Qd Xd => ∃ pa : Pa, ds = [dPa pa] ∧ Bz pa ∧ Qd (dAns (mkCharter pa.rights pa.sole pa.founders pa.rules))
theorem M_law_due : MD r_law_due 1 2 ph__law_due := fun ds Qd Xd h hl => by
  obtain ⟨pa, rfl, hb, q⟩ := h
  unfold r_law_due
  walk_at "ev"
  refine ⟨pa, rfl, hb, ?_⟩
  unfold Mk1
  cases e : mkCharter pa.rights pa.sole pa.founders pa.rules with
  | none =>
    rw [e] at q
    walk_at "ev"
    rw [em_ic]
    walk_at "ev"
    exact q
  | some c =>
    rw [e] at q
    have ec := mk_fzn hb e
    subst ec
    walk_at "ev"
    refine ⟨pa, rfl, hb, ?_⟩
    unfold dPz
    walk_at "ev"
    exact ⟨by decide, q⟩
abbrev N_law_answer : List Str := ["charter", "deed", "given", "held", "e", "made"]
def r_law_answer : DS :=
  (dSeq (dTryAs0 em_InvalidCharter "InvalidCharter" 4 (dIfS (dTst (dBin gEq (dVarB 1) (dC (.int 0)))) (dSet 5 (dMeth "Charter" "with_rule" 1 ph_Charter_with_rule (dVar 0) (dCons (dVar 2) dNil))) (dIfS (dTst (dBin gEq (dVarB 1) (dC (.int 1)))) (dSet 5 (dMeth "Charter" "without_rules" 1 ph_Charter_without_rules (dVar 0) (dCons (dVar 2) dNil))) (dSet 5 (dMeth "Charter" "with_founder" 2 ph_Charter_with_founder (dVar 0) (dCons (dVar 2) (dCons (dVar 3) dNil))))))
  (fun a => (dRet (dBin gIx (dLst (dCons (dC (.str "odd")) (dCons (dC (.str "invalid")) dNil))) (dBlt gInt (dConsW (dAndV (dIsx0 a 4 true) (dNotV (dIsx0 a 4 false))) dNil))))))
  (dRet (dLst (dCons (dFld "Charter" "rights" (dVar 5)) (dCons (dFld "Charter" "sole" (dVar 5)) (dCons (dFld "Charter" "founders" (dVar 5)) (dCons (dFld "Charter" "rules" (dVar 5)) dNil)))))))
/- theorem M_law_answer : MD r_law_answer 4 6 ph_law_answer := fun ds Qd Xd h hl => by -/
theorem m_ch {c : Ch} {m : Str} {P : Prop} (h : m ∉ chN) : mK "Charter" m (dCi c) .sh P = P := by
  unfold dCi
  rw [mK_i]
  exact propext ⟨fun h => h.2.2, fun q => ⟨rfl, h, q⟩⟩
theorem m_wr {c : Ch} {P : Prop} : mK "Charter" "with_rule" (dCi c) .sh P = P := m_ch (by decide +kernel)
theorem m_wo {c : Ch} {P : Prop} : mK "Charter" "without_rules" (dCi c) .sh P = P := m_ch (by decide +kernel)
theorem m_wf {c : Ch} {P : Prop} : mK "Charter" "with_founder" (dCi c) .sh P = P := m_ch (by decide +kernel)
/-- the three deeds -/
def Deed (c : Ch) (dd g h : D) (Qd : D → Prop) : Prop :=
  (∃ r, dd = .int 0 ∧ g = dRl r ∧ Bz ⟨c.rights, c.sole, c.founders, putBy (·.name) c.rules r⟩ ∧ Qd (dAns (mkCharter c.rights c.sole c.founders (putBy (·.name) c.rules r)))) ∨
  (∃ ws, dd = .int 1 ∧ g = dL ws ∧ (∀ w ∈ ws, w ∈ c.rules.map (·.name)) ∧ Qd (dAns (mkCharter c.rights c.sole c.founders (c.rules.filter fun r => !ws.contains r.name)))) ∨
  ∃ n l, dd = .int 2 ∧ g = .str n ∧ h = dL l ∧ Bz ⟨c.rights, c.sole, putBy (·.1) c.founders (n, l), c.rules⟩ ∧ Qd (dAns (mkCharter c.rights c.sole (putBy (·.1) c.founders (n, l)) c.rules))
def ph__law_answer : Ph := fun ds Qd Xd => ∃ (c : Ch) (dd g h : D), ds = [dCi c, dd, g, h] ∧ Bz (paOf c) ∧ Deed c dd g h Qd
theorem M_law_answer : MD r_law_answer 4 6 ph__law_answer := fun ds Qd Xd h hl => by
  obtain ⟨c, dd, g, h, rfl, hb, q⟩ := h
  unfold r_law_answer
  have no : ∀ {F : D → Prop}, F (.str "invalid") → ∀ {P : D → Prop}, (P = F) → oK (atI [D.str "odd", D.str "invalid"] (if True then 1 else 0)) P := fun f P e => by
    rw [if_pos trivial, e]
    exact oK.mk (x := D.str "invalid") DL.at1 f
  rcases q with ⟨r, rfl, rfl, hb2, q⟩ | ⟨ws, rfl, rfl, hw, q⟩ | ⟨n, l, rfl, rfl, rfl, hb2, q⟩
  · walk_at "ev"
    simp (dsimp := false) only [m_wr]
    refine ⟨c, r, rfl, hb, hb2, ?_⟩
    unfold Mk1
    cases e : mkCharter c.rights c.sole c.founders (putBy (·.name) c.rules r) with
    | none =>
      rw [e] at q
      walk_at "ev"
      rw [em_ic]
      walk_at "ev"
      intro a
      refine ⟨by decide, ?_⟩
      rw [if_pos trivial]
      refine oK.mk (x := D.str "invalid") DL.at1 ?_
      walk_at "ev"
      exact q
    | some c2 =>
      rw [e] at q
      walk_at "ev"
      exact ⟨by decide, q⟩
  · walk_at "ev"
    rw [decide_eq_false (show ¬ (1 : Int) = 0 by decide)]
    walk_at "ev"
    simp (dsimp := false) only [m_wo]
    refine ⟨c, ws, rfl, hb, hw, ?_⟩
    unfold Mk1
    cases e : mkCharter c.rights c.sole c.founders (c.rules.filter fun r => !ws.contains r.name) with
    | none =>
      rw [e] at q
      walk_at "ev"
      rw [em_ic]
      walk_at "ev"
      intro a
      refine ⟨by decide, ?_⟩
      rw [if_pos trivial]
      refine oK.mk (x := D.str "invalid") DL.at1 ?_
      walk_at "ev"
      exact q
    | some c2 =>
      rw [e] at q
      walk_at "ev"
      exact ⟨by decide, q⟩
  · walk_at "ev"
    rw [decide_eq_false (show ¬ (2 : Int) = 0 by decide)]
    walk_at "ev"
    rw [decide_eq_false (show ¬ (2 : Int) = 1 by decide)]
    walk_at "ev"
    simp (dsimp := false) only [m_wf]
    refine ⟨c, n, l, rfl, hb, hb2, ?_⟩
    unfold Mk1
    cases e : mkCharter c.rights c.sole (putBy (·.1) c.founders (n, l)) c.rules with
    | none =>
      rw [e] at q
      walk_at "ev"
      rw [em_ic]
      walk_at "ev"
      intro a
      refine ⟨by decide, ?_⟩
      rw [if_pos trivial]
      refine oK.mk (x := D.str "invalid") DL.at1 ?_
      walk_at "ev"
      exact q
    | some c2 =>
      rw [e] at q
      walk_at "ev"
      exact ⟨by decide, q⟩
abbrev N_law_in : List Str := ["row", "name", "item", "place", "k"]
def r_law_in : DS :=
  (dSeq (dFor (diRng (dConsW (dBlt gLen (dConsW (dVarB 0) dNil)) dNil)) (dgName 4) (dIfS (dTst (dBin gEq (dBin gIx (dBin gIx (dVarB 0) (dVarB 4)) (dVarB 3)) (dVarB 1))) (dRet (dBin gAdd (dBin gAdd (dSl (dVarB 0) dNoPart (dPart (dVarB 4))) (dLst (dCons (dVar 2) dNil))) (dSl (dVarB 0) (dPart (dBin gAdd (dVarB 4) (dC (.int 1)))) dNoPart))) dNext))
  (dRet (dBin gAdd (dVarB 0) (dLst (dCons (dVar 2) dNil)))))
/- theorem M_law_in : MD r_law_in 4 5 ph_law_in := fun ds Qd Xd h hl => by -/
theorem put_at {α : Type} {key : α → Str} {rows : List α} {new x : α} {k : Nat} (nd : (rows.map key).Nodup) (hx : rows[k]? = some x) (e : key x = key new) : putBy key rows new = rows.take k ++ [new] ++ rows.drop (k + 1) := by
  have lt := (List.getElem?_eq_some_iff.mp hx).1
  have hc : (rows.map key).contains (key new) = true := List.contains_iff_mem.mpr (by rw [← e]; exact List.mem_map_of_mem (List.mem_of_getElem? hx))
  unfold putBy
  rw [if_pos hc]
  have sp : rows = rows.take k ++ x :: rows.drop (k + 1) := by
    have h1 : rows.drop k = x :: rows.drop (k + 1) := by
      rw [List.drop_eq_getElem_cons lt]
      congr 1
      exact (List.getElem?_eq_some_iff.mp hx).2
    rw [← h1, List.take_append_drop]
  rw [sp, List.map_append, List.map_cons] at nd
  have nd2 := List.nodup_append.mp nd
  have n1 : ∀ y ∈ rows.take k, ¬ key y = key new := fun y hy z => by
    have := nd2.2.2 (key y) (List.mem_map_of_mem hy) (key x) List.mem_cons_self
    exact this (z.trans e.symm)
  have n2 : ∀ y ∈ rows.drop (k + 1), ¬ key y = key new := fun y hy z => by
    have := (List.nodup_cons.mp nd2.2.1).1
    exact this (by rw [e, ← z]; exact List.mem_map_of_mem hy)
  have m1 : (rows.take k).map (fun r => if key r = key new then new else r) = rows.take k := by
    have : (rows.take k).map (fun r => if key r = key new then new else r) = (rows.take k).map id := List.map_congr_left fun y hy => if_neg (n1 y hy)
    rw [this, List.map_id]
  have m2 : (rows.drop (k + 1)).map (fun r => if key r = key new then new else r) = rows.drop (k + 1) := by
    have : (rows.drop (k + 1)).map (fun r => if key r = key new then new else r) = (rows.drop (k + 1)).map id := List.map_congr_left fun y hy => if_neg (n2 y hy)
    rw [this, List.map_id]
  have key2 : ∀ (a b : List α), (a ++ x :: b).map (fun r => if key r = key new then new else r) = a.map (fun r => if key r = key new then new else r) ++ [new] ++ b.map (fun r => if key r = key new then new else r) := fun a b => by
    rw [List.map_append, List.map_cons, if_pos e, List.append_assoc]
    rfl
  have h := key2 (rows.take k) (rows.drop (k + 1))
  rw [← sp, m1, m2] at h
  exact h
def ph__law_in : Ph := fun ds Qd Xd => ∃ (rows : List (Str × D)) (new : Str × D) (i : Nat), ds = [.lst (rows.map (·.2)), .str new.1, new.2, .int (i : Nat)] ∧ rows.length ≤ 4000 ∧ (i = 0 ∨ i = 1) ∧ (∀ x ∈ rows, Key i x) ∧ (rows.map (·.1)).Nodup ∧ Qd (.lst ((putBy Prod.fst rows new).map (·.2)))
theorem M_law_in : MD r_law_in 4 5 ph__law_in := fun ds Qd Xd h hl => by
  obtain ⟨rows, new, i, rfl, lr, hi, kr, nd, q⟩ := h
  unfold r_law_in
  walk_at "ev"
  refine ⟨by omega, by omega, ?_⟩
  refine forK.rng (fun k ρ => ∃ y, ρ = [.va (.lst (rows.map (·.2))), .va (.str new.1), .va new.2, .va (.int (i : Nat)), y] ∧ (rows.take k).all (fun x => !decide (x.1 = new.1)) = true) ⟨_, rfl, rfl⟩ ?_ ?_
  · rintro k ρ' lt ⟨y, rfl, al⟩
    have hx : rows[k]? = some rows[k] := List.getElem?_eq_getElem lt
    have hk := kr _ (List.getElem_mem lt)
    have hd : atI (rows.map (·.2)) (k : Int) = some rows[k].2 := atI_nat (by rw [List.getElem?_map, hx]; rfl)
    generalize rows[k] = x at hx hk hd
    walk_at "ev"
    refine oK.mk hd ?_
    walk_at "ev"
    simp (dsimp := false) only [hk.ix hi]
    walk_at "ev"
    refine iK_d (fun e => ?_) fun e => ?_
    · rw [put_at (key := Prod.fst) nd hx e, List.map_append, List.map_append, List.map_take, List.map_drop] at q
      walk_at "ev"
      rw [cutD_take, show ((k : Int) + 1) = ((k + 1 : Nat) : Int) from rfl, cutD_drop]
      have l1 : (List.take k (rows.map (·.2))).length ≤ 4000 := by rw [List.length_take, List.length_map]; omega
      have l2 : (List.drop (k + 1) (rows.map (·.2))).length ≤ 4000 := by rw [List.length_drop, List.length_map]; omega
      refine ⟨by decide, by unfold sizeLine; omega, ?_, q⟩
      rw [List.length_append]
      show _ + 1 + _ ≤ _
      unfold sizeLine
      omega
    · walk_at "ev"
      refine ⟨_, rfl, ?_⟩
      rw [List.take_add_one, hx, List.all_append, al]
      show (true && ((!decide (x.1 = new.1)) && true)) = true
      rw [decide_eq_false e]
      rfl
  · rintro ρ' ⟨y, rfl, al⟩
    rw [List.take_length] at al
    walk_at "ev"
    have hc : ¬ (rows.map Prod.fst).contains new.1 = true := fun z => by
      obtain ⟨x, hx, e⟩ := List.mem_map.mp (List.contains_iff_mem.mp z)
      have := List.all_eq_true.mp al x hx
      rw [decide_eq_true e] at this
      cases this
    unfold putBy at q
    rw [if_neg hc, List.map_append] at q
    exact ⟨by decide, by unfold sizeLine; omega, q⟩
end K8

-- part KP
set_option Elab.async false
set_option linter.all false
set_option maxRecDepth 100000
set_option maxHeartbeats 2000000
namespace K8
open PySem PySem.Spec PyProof.Rows L2 GxR GS GA GD DL
local macro_rules | `(tactic| walk_at "ev") => `(tactic| simp (dsimp := false) only [k0, k1, k2, k3, iK_true, iK_false, iK_not, sl_0, sl_s, vK_va, vK_ow, bK_va, bK_ow, dVar_ev, dVarB_ev, dC_ev, dBin_ev, tK_bl, dTst_ev, dAnd_ev, dOr_ev, dNot_ev, dAndV_ev, dOrV_ev, dNotV_ev, dIf_ev, dNext_ev, dSeq_st, kS_e, dBreak_ev, dCont_ev, dRet_ev, dRetN_ev, dIfS_ev, dSet_ev, dDrop_ev, slOf_fr, slOf_sh, gAdd_i, gAdd_s, gAdd_l, gAdd_t, num_i, gEq_i, gEq_s, gEq_b, gEq_sn, gEq_ns, gEq_in, gEq_ni, gEq_nn, gEq_is, gEq_si, gNe_i, gNe_s, gNe_b, gNe_sn, gNe_ns, gNe_in, gNe_ni, gNe_nn, gEq_l, gEq_t, gNe_l, gNe_t,
    gIsN_n, gIsN_s, gIsN_i, gIsN_l, gIsN_t, gNotN_n, gNotN_s, gNotN_i, gNotN_l, gNotN_t, gIn_l, gIn_t, gNin_l, gNin_t, flD_s, flD_i, flD_n, flD_str, flD_int, has_strs, gIx_l, gIx_t, gIx_s, DL.at0, at1, at2, at3, at4, at5, dNoPart_ev, pK_i, dPart_ev, sK_l, sK_r, sK_t, sK_s, dSl_ev, dNil_ev, dCons_ev, dConsW_ev, itsD_l, itsD_t, dStar_ev, dLst_ev, dTup_ev, dBlt_ev, gLen_l, gLen_t, gLen_r, gLen_s, gInt_i, gInt_b, gAbs_i, gMax_i, gMin_i, gTuple_l, gTuple_t, gList_l, gList_t, oW_ow, owAt_ev, decide_true, decide_false, Bool.not_true, Bool.not_false, gRepr_1, dStarT_ev, dRepl_ev, f_rights, f_sole, f_founders, f_rules, dMkC_ev, dTryAs0_ev, dTryOn_ev, dIsx0_ev, xnK_x, dIdx_ev, liK_l, has_two, stK_l, gTimes_s, zK_s, dSplit_ev, dJoin_ev, dInTab_ev, dIxTab_ev, gInD_l, gInS_s, gNinS_s, chK_b, dChn_ev, is_tt, is_ll, is_tn, is_bn, dTryAs_ev, dXf_ev, dIsx_ev, xK_x, dRaise1_ev, dIsi_ev, is_ss, is_sl, is_st, is_bb, dProp_ev, prK_i, xc_c, xc_a, dApp_ev, dStI_ev, wK_sh, wK_fr, wK_bo, wK_t, wK_r, wK_s, diVal_ev, rK_i, diRng_ev, eK_sh, eK_fr, eK_bo, diEnum_ev, dgName_ev, dgNil_ev, dgCons_ev, dgTup_ev, dAsg_ev, dFor_ev, dWhile_ev, dLc_ev, dGen_ev, dCall_ev, mK_i, dMeth_ev, fK_i, dFld_ev, nK_i, dNeg_ev, dYes_ev, oK_some, List.length_map, rng_len, Int.toNat_natCast,
    List.map_cons, List.map_nil, List.length_cons, List.length_nil, List.length_set, List.replicate_succ, List.replicate_zero, List.nil_append, List.cons_append, List.set_cons_zero, List.set_cons_succ, Nat.reduceAdd, Nat.reduceSub, ne_eq, reduceCtorEq, not_false_eq_true, not_true_eq_false, true_and, and_true, Nat.reduceLT, Nat.reduceLeDiff, Nat.zero_le, Bool.false_eq_true])
local macro_rules | `(tactic| walk_at "st") => `(tactic| simp (dsimp := false) only [k0, k1, k2, k3, iK_true, iK_false, iK_not, sl_0, sl_s, vK_va, vK_ow, bK_va, bK_ow, dVar_ev, dVarB_ev, dC_ev, dBin_ev, tK_bl, dTst_ev, dAnd_ev, dOr_ev, dNot_ev, dAndV_ev, dOrV_ev, dNotV_ev, dIf_ev, dNext_ev, dSeq_st, kS_e, dBreak_ev, dCont_ev, dRet_ev, dRetN_ev, dSet_ev, dDrop_ev, slOf_fr, slOf_sh, gAdd_i, gAdd_s, gAdd_l, gAdd_t, num_i, gEq_i, gEq_s, gEq_b, gEq_sn, gEq_ns, gEq_in, gEq_ni, gEq_nn, gEq_is, gEq_si, gNe_i, gNe_s, gNe_b, gNe_sn, gNe_ns, gNe_in, gNe_ni, gNe_nn, gEq_l, gEq_t, gNe_l, gNe_t,
    gIsN_n, gIsN_s, gIsN_i, gIsN_l, gIsN_t, gNotN_n, gNotN_s, gNotN_i, gNotN_l, gNotN_t, gIn_l, gIn_t, gNin_l, gNin_t, flD_s, flD_i, flD_n, flD_str, flD_int, has_strs, gIx_l, gIx_t, gIx_s, DL.at0, at1, at2, at3, at4, at5, dNoPart_ev, pK_i, dPart_ev, sK_l, sK_r, sK_t, sK_s, dSl_ev, dNil_ev, dCons_ev, dConsW_ev, itsD_l, itsD_t, dStar_ev, dLst_ev, dTup_ev, dBlt_ev, gLen_l, gLen_t, gLen_r, gLen_s, gInt_i, gInt_b, gAbs_i, gMax_i, gMin_i, gTuple_l, gTuple_t, gList_l, gList_t, oW_ow, owAt_ev, decide_true, decide_false, Bool.not_true, Bool.not_false, gRepr_1, dStarT_ev, dRepl_ev, f_rights, f_sole, f_founders, f_rules, dMkC_ev, dTryAs0_ev, dTryOn_ev, dIsx0_ev, xnK_x, dIdx_ev, liK_l, has_two, stK_l, gTimes_s, zK_s, dSplit_ev, dJoin_ev, dInTab_ev, dIxTab_ev, gInD_l, gInS_s, gNinS_s, chK_b, dChn_ev, is_tt, is_ll, is_tn, is_bn, dTryAs_ev, dXf_ev, dIsx_ev, xK_x, dRaise1_ev, dIsi_ev, is_ss, is_sl, is_st, is_bb, dProp_ev, prK_i, xc_c, xc_a, dApp_ev, dStI_ev, wK_sh, wK_fr, wK_bo, wK_t, wK_r, wK_s, diVal_ev, rK_i, diRng_ev, eK_sh, eK_fr, eK_bo, diEnum_ev, dgName_ev, dgNil_ev, dgCons_ev, dgTup_ev, dAsg_ev, dFor_ev, dWhile_ev, dLc_ev, dGen_ev, dCall_ev, mK_i, dMeth_ev, fK_i, dFld_ev, nK_i, dNeg_ev, dYes_ev, oK_some, List.length_map, rng_len, Int.toNat_natCast,
    List.map_cons, List.map_nil, List.length_cons, List.length_nil, List.length_set, List.replicate_succ, List.replicate_zero, List.nil_append, List.cons_append, List.set_cons_zero, List.set_cons_succ, Nat.reduceAdd, Nat.reduceSub, ne_eq, reduceCtorEq, not_false_eq_true, not_true_eq_false, true_and, and_true, Nat.reduceLT, Nat.reduceLeDiff, Nat.zero_le, Bool.false_eq_true])
theorem ord_ord (R l : List Str) : ord R (ord R l) = ord R l := by
  unfold ord
  refine List.filter_congr fun x hx => ?_
  rw [Bool.eq_iff_iff, List.contains_iff_mem, List.contains_iff_mem, List.mem_filter]
  exact ⟨fun z => List.contains_iff_mem.mp z.2, fun z => ⟨hx, List.contains_iff_mem.mpr z⟩⟩
theorem listed_again {R l : List Str} (hR : R.Nodup) : listed R (ord R l) = some (ord R l) := by
  have h := listed_ord (rights := R) (l := ord R l) (List.Pairwise.filter _ hR) fun x hx => (mem_ord.mp hx).1
  rw [h, ord_ord]
theorem listAll_again {R : List Str} (hR : R.Nodup) (ls : List (List Str)) : listAll R (ls.map (ord R)) = some (ls.map (ord R)) :=
  listAll_of (by
    rw [List.map_map, List.map_map]
    exact List.map_congr_left fun l _ => listed_again hR)
theorem frR_frR (R : List Str) (r : Ru) : frR R (frR R r) = frR R r := by
  unfold frR
  dsimp only
  rw [List.map_map]
  congr 1
  exact List.map_congr_left fun l _ => ord_ord R l
theorem kept_again {R s : List Str} (hR : R.Nodup) {r : Ru} (j : RuOk R r) (h : keptRule R s r = some (frR R r)) : keptRule R s (frR R r) = some (frR R r) := by
  obtain ⟨kind, name, ls, right⟩ := r
  have hn : Ru.n (frR R ⟨kind, name, ls, right⟩) = Ru.n ⟨kind, name, ls, right⟩ := by
    unfold Ru.n frR
    dsimp only
    rw [List.length_map]
  unfold keptRule at h ⊢
  split at h
  · cases h
  rename_i hp
  rw [if_neg (by rw [hn]; exact hp)]
  have hp : hasParts kind (Ru.n ⟨kind, name, ls, right⟩) = true := by simpa using hp
  cases right with
  | none =>
    have hk : kind = "join" := (j.join hp).mpr rfl
    have l1 : ls.length = 1 := by
      have q := hp
      unfold hasParts Ru.n at q
      rw [hk] at q
      have q2 : decide (((1 + ls.length + 0 : Nat) : Int) + 1 = 1 + 2) = true := q
      have := of_decide_eq_true q2
      omega
    obtain ⟨l0, rfl⟩ := List.length_eq_one_iff.mp l1
    have h : ((listed R l0).bind fun h => if (h.any fun x => s.contains x) = true then none else some (⟨kind, name, [h], none⟩ : Ru)) = some (frR R ⟨kind, name, [l0], none⟩) := h
    show ((listed R (ord R l0)).bind fun h => if (h.any fun x => s.contains x) = true then none else some (⟨kind, name, [h], none⟩ : Ru)) = _
    rw [listed_again hR]
    cases e : listed R l0 with
    | none => rw [e] at h; cases h
    | some x =>
      rw [e] at h
      have ex := listed_is e
      subst ex
      exact h
  | some right =>
    have h : (if R.contains right = false then none else (listAll R ls).bind fun ls => if checkRight kind ls right s = true then some (⟨kind, name, ls, some right⟩ : Ru) else none) = some (frR R ⟨kind, name, ls, some right⟩) := h
    show (if R.contains right = false then none else (listAll R (ls.map (ord R))).bind fun ls => if checkRight kind ls right s = true then some (⟨kind, name, ls, some right⟩ : Ru) else none) = _
    rw [listAll_again hR]
    split at h
    · cases h
    · rename_i hc
      rw [if_neg hc]
      cases e : listAll R ls with
      | none => rw [e] at h; cases h
      | some hs =>
        rw [e] at h
        have ex := listAll_is e
        subst ex
        exact h
theorem heldAll_congr {R : List Str} : ∀ {fs gs : List (Str × List Str)}, (fs.map fun f => (f.1, listed R f.2)) = (gs.map fun f => (f.1, listed R f.2)) → heldAll R fs = heldAll R gs
  | [], [], _ => rfl
  | [], _ :: _, h => by cases h
  | _ :: _, [], h => by cases h
  | f :: r, g :: t, h => by
    rw [List.map_cons, List.map_cons] at h
    injection h with h1 h2
    have e1 : f.1 = g.1 := (Prod.mk.inj h1).1
    have e2 : listed R f.2 = listed R g.2 := (Prod.mk.inj h1).2
    rw [heldAll_cons, heldAll_cons, heldAll_congr h2, e1, e2]
theorem keptRules_congr {R s : List Str} : ∀ {rs us : List Ru}, rs.map (keptRule R s) = us.map (keptRule R s) → keptRules R s rs = keptRules R s us
  | [], [], _ => rfl
  | [], _ :: _, h => by cases h
  | _ :: _, [], h => by cases h
  | r :: t, u :: v, h => by
    rw [List.map_cons, List.map_cons] at h
    injection h with h1 h2
    show (keptRule R s r).bind (fun k => (keptRules R s t).map fun l => k :: l) = (keptRule R s u).bind fun k => (keptRules R s v).map fun l => k :: l
    rw [h1, keptRules_congr h2]
theorem mk_same {pa : Pa} (h : PaOk pa) {F G : List (Str × List Str)} {U V : List Ru} (hF : (F.map fun f => (f.1, listed pa.rights f.2)) = (G.map fun f => (f.1, listed pa.rights f.2)))
    (hU : U.map (keptRule pa.rights (ord pa.rights pa.sole)) = V.map (keptRule pa.rights (ord pa.rights pa.sole))) : mkCharter pa.rights (ord pa.rights pa.sole) F U = mkCharter pa.rights pa.sole G V := by
  unfold mkCharter
  rw [listed_again h.rn, listed_ord h.sn h.sm]
  show (if _ then none else ((keptFounders pa.rights (ord pa.rights pa.sole) F).bind fun f => (keptRules pa.rights (ord pa.rights pa.sole) U).bind fun u => _)) = (if _ then none else ((keptFounders pa.rights (ord pa.rights pa.sole) G).bind fun f => (keptRules pa.rights (ord pa.rights pa.sole) V).bind fun u => _))
  have e1 : keptFounders pa.rights (ord pa.rights pa.sole) F = keptFounders pa.rights (ord pa.rights pa.sole) G := by
    unfold keptFounders
    rw [heldAll_congr hF]
  rw [e1, keptRules_congr hU]
theorem old_fd {pa : Pa} (h : PaOk pa) : ((pa.founders.map (frF pa.rights)).map fun f => (f.1, listed pa.rights f.2)) = pa.founders.map fun f => (f.1, listed pa.rights f.2) := by
  rw [List.map_map]
  refine List.map_congr_left fun f hf => ?_
  have hh := h.fok f hf
  show (f.1, listed pa.rights (ord pa.rights f.2)) = (f.1, listed pa.rights f.2)
  rw [listed_again h.rn, listed_ord hh.2.1 hh.2.2.1]
theorem old_ru {pa : Pa} (h : PaOk pa) {r : Ru} (hr : r ∈ pa.rules) : keptRule pa.rights (ord pa.rights pa.sole) (frR pa.rights r) = keptRule pa.rights (ord pa.rights pa.sole) r := by
  have hh := h.rul r hr
  rw [kept_again h.rn hh.2 hh.1, hh.1]
/-- a rule put -/
theorem edit_rule {pa : Pa} (h : PaOk pa) (r : Ru) : mkCharter (fzn pa).rights (fzn pa).sole (fzn pa).founders (putBy (·.name) (fzn pa).rules r) = mkCharter pa.rights pa.sole pa.founders (putBy (·.name) pa.rules r) := by
  refine mk_same h (old_fd h) ?_
  have key : ∀ us : List Ru, (putBy (·.name) us r).map (fun r => (r.name, keptRule pa.rights (ord pa.rights pa.sole) r)) = putBy Prod.fst (us.map fun r => (r.name, keptRule pa.rights (ord pa.rights pa.sole) r)) (r.name, keptRule pa.rights (ord pa.rights pa.sole) r) := fun us =>
    putBy_map (f := fun r : Ru => (r.name, keptRule pa.rights (ord pa.rights pa.sole) r)) (k := Prod.fst) us r (·.name) fun _ => rfl
  have e : (pa.rules.map (frR pa.rights)).map (fun r => (r.name, keptRule pa.rights (ord pa.rights pa.sole) r)) = pa.rules.map fun r => (r.name, keptRule pa.rights (ord pa.rights pa.sole) r) := by
    rw [List.map_map]
    refine List.map_congr_left fun x hx => ?_
    show (x.name, keptRule pa.rights (ord pa.rights pa.sole) (frR pa.rights x)) = _
    rw [old_ru h hx]
  have e2 := (key (pa.rules.map (frR pa.rights))).trans ((congrArg (fun l => putBy Prod.fst l (r.name, keptRule pa.rights (ord pa.rights pa.sole) r)) e).trans (key pa.rules).symm)
  have e3 := congrArg (List.map Prod.snd) e2
  rw [List.map_map, List.map_map] at e3
  exact e3
/-- rules taken away -/
theorem edit_out {pa : Pa} (h : PaOk pa) (p : Str → Bool) : mkCharter (fzn pa).rights (fzn pa).sole (fzn pa).founders ((fzn pa).rules.filter fun r => p r.name) = mkCharter pa.rights pa.sole pa.founders (pa.rules.filter fun r => p r.name) := by
  refine mk_same h (old_fd h) ?_
  have e : (pa.rules.map (frR pa.rights)).filter (fun r => p r.name) = (pa.rules.filter fun r => p r.name).map (frR pa.rights) := by
    rw [List.filter_map]
    rfl
  show ((pa.rules.map (frR pa.rights)).filter fun r => p r.name).map _ = _
  rw [e, List.map_map]
  exact List.map_congr_left fun x hx => old_ru h (List.mem_filter.mp hx).1
/-- a founder put -/
theorem edit_fd {pa : Pa} (h : PaOk pa) (f : Str × List Str) : mkCharter (fzn pa).rights (fzn pa).sole (putBy (·.1) (fzn pa).founders f) (fzn pa).rules = mkCharter pa.rights pa.sole (putBy (·.1) pa.founders f) pa.rules := by
  refine mk_same h ?_ ?_
  · have key : ∀ us : List (Str × List Str), (putBy (·.1) us f).map (fun f => (f.1, listed pa.rights f.2)) = putBy Prod.fst (us.map fun f => (f.1, listed pa.rights f.2)) (f.1, listed pa.rights f.2) := fun us =>
      putBy_map (f := fun f : Str × List Str => (f.1, listed pa.rights f.2)) (k := Prod.fst) us f (·.1) fun _ => rfl
    show (putBy (·.1) (pa.founders.map (frF pa.rights)) f).map _ = _
    rw [key, key, old_fd h]
  · show (pa.rules.map (frR pa.rights)).map _ = _
    rw [List.map_map]
    exact List.map_congr_left fun x hx => old_ru h hx
end K8

-- part KS
set_option Elab.async false
set_option linter.all false
set_option maxRecDepth 100000
set_option maxHeartbeats 2000000
namespace K8
open PySem PySem.Spec PyProof.Rows L2 GxR GS GA GD DL
local macro_rules | `(tactic| walk_at "ev") => `(tactic| simp (dsimp := false) only [k0, k1, k2, k3, iK_true, iK_false, iK_not, sl_0, sl_s, vK_va, vK_ow, bK_va, bK_ow, dVar_ev, dVarB_ev, dC_ev, dBin_ev, tK_bl, dTst_ev, dAnd_ev, dOr_ev, dNot_ev, dAndV_ev, dOrV_ev, dNotV_ev, dIf_ev, dNext_ev, dSeq_st, kS_e, dBreak_ev, dCont_ev, dRet_ev, dRetN_ev, dIfS_ev, dSet_ev, dDrop_ev, slOf_fr, slOf_sh, gAdd_i, gAdd_s, gAdd_l, gAdd_t, num_i, gEq_i, gEq_s, gEq_b, gEq_sn, gEq_ns, gEq_in, gEq_ni, gEq_nn, gEq_is, gEq_si, gNe_i, gNe_s, gNe_b, gNe_sn, gNe_ns, gNe_in, gNe_ni, gNe_nn, gEq_l, gEq_t, gNe_l, gNe_t,
    gIsN_n, gIsN_s, gIsN_i, gIsN_l, gIsN_t, gNotN_n, gNotN_s, gNotN_i, gNotN_l, gNotN_t, gIn_l, gIn_t, gNin_l, gNin_t, flD_s, flD_i, flD_n, flD_str, flD_int, has_strs, gIx_l, gIx_t, gIx_s, DL.at0, at1, at2, at3, at4, at5, dNoPart_ev, pK_i, dPart_ev, sK_l, sK_r, sK_t, sK_s, dSl_ev, dNil_ev, dCons_ev, dConsW_ev, itsD_l, itsD_t, dStar_ev, dLst_ev, dTup_ev, dBlt_ev, gLen_l, gLen_t, gLen_r, gLen_s, gInt_i, gInt_b, gAbs_i, gMax_i, gMin_i, gTuple_l, gTuple_t, gList_l, gList_t, oW_ow, owAt_ev, decide_true, decide_false, Bool.not_true, Bool.not_false, gRepr_1, dStarT_ev, dRepl_ev, f_rights, f_sole, f_founders, f_rules, dMkC_ev, dTryAs0_ev, dTryOn_ev, dIsx0_ev, xnK_x, dIdx_ev, liK_l, has_two, stK_l, gTimes_s, zK_s, dSplit_ev, dJoin_ev, dInTab_ev, dIxTab_ev, gInD_l, gInS_s, gNinS_s, chK_b, dChn_ev, is_tt, is_ll, is_tn, is_bn, dTryAs_ev, dXf_ev, dIsx_ev, xK_x, dRaise1_ev, dIsi_ev, is_ss, is_sl, is_st, is_bb, dProp_ev, prK_i, xc_c, xc_a, dApp_ev, dStI_ev, wK_sh, wK_fr, wK_bo, wK_t, wK_r, wK_s, diVal_ev, rK_i, diRng_ev, eK_sh, eK_fr, eK_bo, diEnum_ev, dgName_ev, dgNil_ev, dgCons_ev, dgTup_ev, dAsg_ev, dFor_ev, dWhile_ev, dLc_ev, dGen_ev, dCall_ev, mK_i, dMeth_ev, fK_i, dFld_ev, nK_i, dNeg_ev, dYes_ev, oK_some, List.length_map, rng_len, Int.toNat_natCast,
    List.map_cons, List.map_nil, List.length_cons, List.length_nil, List.length_set, List.replicate_succ, List.replicate_zero, List.nil_append, List.cons_append, List.set_cons_zero, List.set_cons_succ, Nat.reduceAdd, Nat.reduceSub, ne_eq, reduceCtorEq, not_false_eq_true, not_true_eq_false, true_and, and_true, Nat.reduceLT, Nat.reduceLeDiff, Nat.zero_le, Bool.false_eq_true])
local macro_rules | `(tactic| walk_at "st") => `(tactic| simp (dsimp := false) only [k0, k1, k2, k3, iK_true, iK_false, iK_not, sl_0, sl_s, vK_va, vK_ow, bK_va, bK_ow, dVar_ev, dVarB_ev, dC_ev, dBin_ev, tK_bl, dTst_ev, dAnd_ev, dOr_ev, dNot_ev, dAndV_ev, dOrV_ev, dNotV_ev, dIf_ev, dNext_ev, dSeq_st, kS_e, dBreak_ev, dCont_ev, dRet_ev, dRetN_ev, dSet_ev, dDrop_ev, slOf_fr, slOf_sh, gAdd_i, gAdd_s, gAdd_l, gAdd_t, num_i, gEq_i, gEq_s, gEq_b, gEq_sn, gEq_ns, gEq_in, gEq_ni, gEq_nn, gEq_is, gEq_si, gNe_i, gNe_s, gNe_b, gNe_sn, gNe_ns, gNe_in, gNe_ni, gNe_nn, gEq_l, gEq_t, gNe_l, gNe_t,
    gIsN_n, gIsN_s, gIsN_i, gIsN_l, gIsN_t, gNotN_n, gNotN_s, gNotN_i, gNotN_l, gNotN_t, gIn_l, gIn_t, gNin_l, gNin_t, flD_s, flD_i, flD_n, flD_str, flD_int, has_strs, gIx_l, gIx_t, gIx_s, DL.at0, at1, at2, at3, at4, at5, dNoPart_ev, pK_i, dPart_ev, sK_l, sK_r, sK_t, sK_s, dSl_ev, dNil_ev, dCons_ev, dConsW_ev, itsD_l, itsD_t, dStar_ev, dLst_ev, dTup_ev, dBlt_ev, gLen_l, gLen_t, gLen_r, gLen_s, gInt_i, gInt_b, gAbs_i, gMax_i, gMin_i, gTuple_l, gTuple_t, gList_l, gList_t, oW_ow, owAt_ev, decide_true, decide_false, Bool.not_true, Bool.not_false, gRepr_1, dStarT_ev, dRepl_ev, f_rights, f_sole, f_founders, f_rules, dMkC_ev, dTryAs0_ev, dTryOn_ev, dIsx0_ev, xnK_x, dIdx_ev, liK_l, has_two, stK_l, gTimes_s, zK_s, dSplit_ev, dJoin_ev, dInTab_ev, dIxTab_ev, gInD_l, gInS_s, gNinS_s, chK_b, dChn_ev, is_tt, is_ll, is_tn, is_bn, dTryAs_ev, dXf_ev, dIsx_ev, xK_x, dRaise1_ev, dIsi_ev, is_ss, is_sl, is_st, is_bb, dProp_ev, prK_i, xc_c, xc_a, dApp_ev, dStI_ev, wK_sh, wK_fr, wK_bo, wK_t, wK_r, wK_s, diVal_ev, rK_i, diRng_ev, eK_sh, eK_fr, eK_bo, diEnum_ev, dgName_ev, dgNil_ev, dgCons_ev, dgTup_ev, dAsg_ev, dFor_ev, dWhile_ev, dLc_ev, dGen_ev, dCall_ev, mK_i, dMeth_ev, fK_i, dFld_ev, nK_i, dNeg_ev, dYes_ev, oK_some, List.length_map, rng_len, Int.toNat_natCast,
    List.map_cons, List.map_nil, List.length_cons, List.length_nil, List.length_set, List.replicate_succ, List.replicate_zero, List.nil_append, List.cons_append, List.set_cons_zero, List.set_cons_succ, Nat.reduceAdd, Nat.reduceSub, ne_eq, reduceCtorEq, not_false_eq_true, not_true_eq_false, true_and, and_true, Nat.reduceLT, Nat.reduceLeDiff, Nat.zero_le, Bool.false_eq_true])
/-- all texts of a charter are well laid -/
structure ChOk (c : Ch) : Prop where
  r : ∀ x ∈ c.rights, PyData.strOk x = true
  s : ∀ x ∈ c.sole, PyData.strOk x = true
  f : ∀ f ∈ c.founders, PyData.strOk f.1 = true ∧ ∀ x ∈ f.2, PyData.strOk x = true
  u : ∀ r ∈ c.rules, PyData.strOk r.kind = true ∧ PyData.strOk r.name = true ∧ (∀ l ∈ r.ls, ∀ x ∈ l, PyData.strOk x = true) ∧ ∀ x ∈ r.right.toList, PyData.strOk x = true
theorem kind_ok {kind : Str} {n : Nat} (h : hasParts kind n = true) : PyData.strOk kind = true := by
  unfold hasParts at h
  cases lk : kinds.lookup kind with
  | none => rw [lk] at h; cases h
  | some m =>
    have := List.mem_map_of_mem (f := Prod.fst) (lookup_some lk)
    have q : ∀ k ∈ kinds.map Prod.fst, PyData.strOk k = true := by decide +kernel
    exact q kind this
theorem right_in {R S : List Str} {r k : Ru} (h : keptRule R S r = some k) : ∀ x ∈ r.right.toList, x ∈ R := fun x hx => by
  have hx : r.right = some x := by
    cases e : r.right with
    | none => rw [e] at hx; cases hx
    | some y => rw [e] at hx; rw [List.mem_singleton.mp hx]
  unfold keptRule at h
  rw [hx] at h
  split at h
  · cases h
  · dsimp only at h
    split at h
    · cases h
    · rename_i z
      have : R.contains x = true := by simpa using z
      exact List.contains_iff_mem.mp this
theorem kept_each {R S : List Str} {r : Ru} : ∀ {rs ks : List Ru}, keptRules R S rs = some ks → r ∈ rs → ∃ k, keptRule R S r = some k
  | a :: t, ks, h, hm => by
    have h : (keptRule R S a).bind (fun k => (keptRules R S t).map fun l => k :: l) = some ks := h
    cases e : keptRule R S a with
    | none => rw [e] at h; cases h
    | some x =>
      cases e2 : keptRules R S t with
      | none => rw [e, e2] at h; cases h
      | some y =>
        rcases List.mem_cons.mp hm with rfl | hm
        · exact ⟨x, e⟩
        · exact kept_each e2 hm
theorem hp_of {R S : List Str} {r k : Ru} (h : keptRule R S r = some k) : hasParts r.kind r.n = true := by
  unfold keptRule at h
  split at h
  · cases h
  · rename_i z
    simpa using z
theorem ok_made {pa : Pa} (hb : Bz pa) {c : Ch} (h : mkCharter pa.rights pa.sole pa.founders pa.rules = some c) : ChOk c := by
  obtain ⟨e1, e2, e3, e4, e5, e6⟩ := mkCharter_some h
  have nm : ∀ {xs : List Str} {m : Int}, checkNames xs m = true → ∀ x ∈ xs, PyData.strOk x = true := fun {xs m} hc x hx => by
    unfold checkNames at hc
    simp only [Bool.and_eq_true] at hc
    exact isName_ok (List.all_eq_true.mp hc.2.1 x hx)
  have hr : ∀ x ∈ pa.rights, PyData.strOk x = true := fun x hx => nm e2 x hx
  have ec := mk_fzn hb h
  subst ec
  refine ⟨hr, fun x hx => hr x (mem_ord.mp hx).1, fun f hf => ?_, fun r hr' => ?_⟩
  · have hn : PyData.strOk f.1 = true := by
      unfold keptFounders at e4
      cases e7 : heldAll pa.rights pa.founders with
      | none => rw [e7] at e4; cases e4
      | some ks =>
        rw [e7] at e4
        have e4 : (if (checkNames (ks.map (·.1)) 5 && (fzn pa).sole.all fun r => decide ((ks.filter fun f => f.2.contains r).length ≤ 1)) = true then some ks else none) = some (fzn pa).founders := e4
        split at e4
        · rename_i hc
          have e8 := Option.some.inj e4
          rw [← e8] at hf
          exact nm (He.ba hc).1 f.1 (List.mem_map_of_mem hf)
        · cases e4
    obtain ⟨f, hm, rfl⟩ := List.mem_map.mp hf
    exact ⟨hn, fun x hx => hr x (mem_ord.mp hx).1⟩
  · have hn : PyData.strOk r.name = true := nm e6 r.name (List.mem_map_of_mem hr')
    obtain ⟨r, hm, rfl⟩ := List.mem_map.mp hr'
    obtain ⟨k, hk⟩ := kept_each e5 hm
    refine ⟨kind_ok (n := r.n) (hp_of hk), hn, fun l hl x hx => ?_, fun x hx => hr x (right_in hk x hx)⟩
    obtain ⟨l, _, rfl⟩ := List.mem_map.mp hl
    exact hr x (mem_ord.mp hx).1
theorem okL_of : ∀ {xs : List D}, (∀ x ∈ xs, okD x = true) → okL xs = true
  | [], _ => by simp [okL]
  | x :: r, h => by
    simp only [okL, Bool.and_eq_true]
    exact ⟨h x (List.mem_cons_self ..), okL_of fun y hy => h y (List.mem_cons_of_mem _ hy)⟩
theorem dptL_le {n : Nat} : ∀ {xs : List D}, (∀ x ∈ xs, dpt x ≤ n) → dptL xs ≤ n
  | [], _ => by simp [dptL]
  | x :: r, h => by
    simp only [dptL]
    exact Nat.max_le.mpr ⟨h x (List.mem_cons_self ..), dptL_le fun y hy => h y (List.mem_cons_of_mem _ hy)⟩
theorem eqD_refl {d : D} (h : shp d = true) : eqD d d = true := by
  unfold eqD
  unfold shp at h
  exact SeqAt.eqv_refl _ (lay_of d (He.ba h).1)
structure Ok (n : Nat) (d : D) : Prop where
  ok : okD d = true
  dp : dpt d ≤ n
theorem Ok.shp {n : Nat} {d : D} (h : Ok n d) (hn : n ≤ 60) : shp d = true := by
  unfold DL.shp
  rw [h.ok, decide_eq_true (Nat.le_trans h.dp hn)]
  rfl
theorem Ok.mono {n m : Nat} {d : D} (h : Ok n d) (hn : n ≤ m) : Ok m d := ⟨h.ok, Nat.le_trans h.dp hn⟩
theorem ok_str {s : Str} (h : PyData.strOk s = true) : Ok 0 (.str s) := ⟨by unfold okD; exact h, by unfold dpt; exact Nat.le_refl _⟩
theorem ok_tup {n : Nat} {xs : List D} (h : ∀ x ∈ xs, Ok n x) : Ok (n + 1) (.tup xs) := ⟨by unfold okD; exact okL_of fun x hx => (h x hx).ok, by unfold dpt; exact Nat.succ_le_succ (dptL_le fun x hx => (h x hx).dp)⟩
theorem ok_lst {n : Nat} {xs : List D} (h : ∀ x ∈ xs, Ok n x) : Ok (n + 1) (.lst xs) := ⟨by unfold okD; exact okL_of fun x hx => (h x hx).ok, by unfold dpt; exact Nat.succ_le_succ (dptL_le fun x hx => (h x hx).dp)⟩
theorem ok_st {l : List Str} (h : ∀ x ∈ l, PyData.strOk x = true) : Ok 1 (dSt l) := ok_tup fun d hd => by
  obtain ⟨x, hx, rfl⟩ := List.mem_map.mp hd
  exact ok_str (h x hx)
theorem ok_fo {f : Str × List Str} (h : PyData.strOk f.1 = true ∧ ∀ x ∈ f.2, PyData.strOk x = true) : Ok 2 (dFo f) := ok_tup fun d hd => by
  rcases List.mem_cons.mp hd with rfl | hd
  · exact (ok_str h.1).mono (by decide)
  · rw [List.mem_singleton.mp hd]; exact ok_st h.2
theorem ok_ru {r : Ru} (h : PyData.strOk r.kind = true ∧ PyData.strOk r.name = true ∧ (∀ l ∈ r.ls, ∀ x ∈ l, PyData.strOk x = true) ∧ ∀ x ∈ r.right.toList, PyData.strOk x = true) : Ok 2 (dRu r) := ok_tup fun d hd => by
  rcases List.mem_cons.mp hd with rfl | hd
  · exact (ok_str h.1).mono (by decide)
  rcases List.mem_cons.mp hd with rfl | hd
  · exact (ok_str h.2.1).mono (by decide)
  rcases List.mem_append.mp hd with hd | hd
  · obtain ⟨l, hl, rfl⟩ := List.mem_map.mp hd
    exact ok_st (h.2.2.1 l hl)
  · obtain ⟨x, hx, rfl⟩ := List.mem_map.mp hd
    exact (ok_str (h.2.2.2 x hx)).mono (by decide)
theorem ok_fs {c : Ch} (h : ChOk c) : Ok 3 (.tup (c.founders.map dFo)) := ok_tup fun d hd => by
  obtain ⟨f, hf, rfl⟩ := List.mem_map.mp hd
  exact ok_fo (h.f f hf)
theorem ok_rs {c : Ch} (h : ChOk c) : Ok 3 (.tup (c.rules.map dRu)) := ok_tup fun d hd => by
  obtain ⟨f, hf, rfl⟩ := List.mem_map.mp hd
  exact ok_ru (h.u f hf)
theorem gEq_same {d : D} {xs : List D} {R : D → Kd → Prop} (e : d = .tup xs) (h : shp d = true) : gEq d d R = R (.bl true) .sh := by
  subst e
  rw [gEq_t, h, eqD_refl h]
  simp
theorem gNe_same {d : D} {xs : List D} {R : D → Kd → Prop} (e : d = .tup xs) (h : shp d = true) : gNe d d R = R (.bl false) .sh := by
  subst e
  rw [gNe_t, h, eqD_refl h]
  simp
theorem gPz {c : Ch} {R : D → Kd → Prop} {i : Int} : gIx (dPz c) (.int i) R = oK (atI [.tup (c.rights.map .str), .tup (c.sole.map .str), .tup (c.founders.map dFo), .tup (c.rules.map dRu)] i) (kk fun z => R z .sh) := rfl
theorem gNe_ans {o : Option Ch} (h : ∀ c, o = some c → ChOk c) {R : D → Kd → Prop} : gNe (dAns o) (dAns o) R = R (.bl false) .sh := by
  cases o with
  | none =>
    unfold dAns
    rw [gNe_s]
    simp
  | some c =>
    have co := h c rfl
    have s : shp (dAns (some c)) = true := (ok_lst (n := 3) (xs := [dSt c.rights, dSt c.sole, .tup (c.founders.map dFo), .tup (c.rules.map dRu)]) fun d hd => by
      simp only [List.mem_cons, List.not_mem_nil, or_false] at hd
      rcases hd with rfl | rfl | rfl | rfl
      · exact (ok_st co.r).mono (by decide)
      · exact (ok_st co.s).mono (by decide)
      · exact ok_fs co
      · exact ok_rs co).shp (by decide)
    have e := eqD_refl s
    unfold dAns at s e ⊢
    rw [gNe_l, s, e]
    simp
abbrev N_law_same : List Str := ["charter", "due"]
def r_law_same : DS :=
  (dSeq (dIfS (dOr (dTst (dBin gNe (dFld "Charter" "rights" (dVar 0)) (dBin gIx (dVarB 1) (dC (.int 0))))) (dTst (dBin gNe (dFld "Charter" "sole" (dVar 0)) (dBin gIx (dVarB 1) (dC (.int 1)))))) (dRet (dC (.bl false))) dNext)
  (dRet (dAndV (dBin gEq (dFld "Charter" "founders" (dVar 0)) (dBin gIx (dVarB 1) (dC (.int 2)))) (dBin gEq (dFld "Charter" "rules" (dVar 0)) (dBin gIx (dVarB 1) (dC (.int 3)))))))
/- theorem M_law_same : MD r_law_same 2 2 ph_law_same := fun ds Qd Xd h hl => by -/
def ph__law_same : Ph := fun ds Qd _ => ∃ c : Ch, ds = [dCi c, dPz c] ∧ ChOk c ∧ Qd (.bl true)
theorem M_law_same : MD r_law_same 2 2 ph__law_same := fun ds Qd Xd h hl => by
  obtain ⟨c, rfl, ok, q⟩ := h
  unfold r_law_same
  have s1 := (ok_st ok.r).shp (by decide)
  have s2 := (ok_st ok.s).shp (by decide)
  have s3 := (ok_fs ok).shp (by decide)
  have s4 := (ok_rs ok).shp (by decide)
  have d1 := eqD_refl s1
  have d2 := eqD_refl s2
  have d3 := eqD_refl s3
  have d4 := eqD_refl s4
  unfold dSt at s1 s2 d1 d2
  walk_at "ev"
  simp (dsimp := false) only [gPz]
  walk_at "ev"
  refine ⟨s1, s1, ?_⟩
  rw [d1]
  walk_at "ev"
  simp (dsimp := false) only [gPz]
  walk_at "ev"
  refine ⟨s2, s2, ?_⟩
  rw [d2]
  walk_at "ev"
  simp (dsimp := false) only [gPz]
  walk_at "ev"
  refine ⟨s3, s3, ?_⟩
  rw [d3]
  walk_at "ev"
  simp (dsimp := false) only [gPz]
  walk_at "ev"
  refine ⟨s4, s4, ?_⟩
  rw [d4]
  exact q
end K8

-- part XH
set_option Elab.async false
set_option linter.all false
set_option maxRecDepth 100000
set_option maxHeartbeats 2000000
namespace K8
open PySem PySem.Spec PyProof.Rows L2 GxR GS GA GD DL
theorem hem_InvalidCharter {w : World} {K : PySem.W.Frag} {mg : Str → Option Value} {base : Heap} (T : Tx w K mg base) (c : Str) (b : Bool) (h : em_InvalidCharter c = some b) : PySem.W.exmOne K (.ref (He.ga K c)) (.ref (He.ga K "InvalidCharter")) = some b := by
  unfold em_InvalidCharter at h
  split at h
  · rename_i e
    subst e
    cases h
    exact T.exm_InvalidCharter_InvalidCharter
  · cases h
end K8

-- part DA
set_option Elab.async false
set_option linter.all false
set_option maxRecDepth 100000
set_option maxHeartbeats 2000000
namespace K8
open PySem PySem.Spec PyProof.Rows L2 GxR GS GA GD DL
section
variable {w : World} {K : PySem.W.Frag} {mg : Str → Option Value} {base : Heap}
theorem sc_law_row : FnScope N_law_row ["cell", "many"] (defScope s_law_row) := ⟨rfl, rfl, rfl, by decide +kernel, rfl, by decide +kernel, by decide +kernel⟩
theorem D_law_row (T : Tx w K mg base) : ∃ fd, FnOk R.prog w K mg base (L2.CX R.prog w) 1 (He.ga K "_law_row") fd ["cell", "many"] (spD K (Tz K) 2 ph__law_row) ∧ Binds K fd ["cell", "many"] [] ∧ PySem.W.keepIn K (.ref (He.ga K "_law_row")) = true := by
  obtain ⟨fd, F⟩ := T.F__law_row
  have nd := sc_law_row.nd
  refine ⟨fd, fn_data (k := 0) F (codeOf_at (p := ("_law_row", none)) F) sc_law_row rfl (fun A outer s H E hr => ⟨r_law_row, ?_, M_law_row⟩), F.bindsN (ps := ["cell", "many"]) fun _ _ _ _ _ _ us hl => match us, hl with | [_, _], _ => rfl, F.kp⟩
  exact (ds_cons (ds_set (i := 2) nd rfl (by first | exact Or.inl rfl | exact Or.inr rfl) (de_lst da_nil))
      (ds_cons (ds_set (i := 3) nd rfl (by first | exact Or.inl rfl | exact Or.inr rfl) (de_callB dcl_abs (by rfl) T.free_abs (by decide +kernel) (da_consW (vB 0) dw_nil)))
      (ds_cons (ds_set (i := 4) nd rfl (by first | exact Or.inl rfl | exact Or.inr rfl) (de_bin dop_mod (de_callTy dcl_int (by rfl) T.free_int (by decide +kernel) (da_consW (de_bin dop_add (de_bin dop_mul (vB 3) de_int) de_int) dw_nil)) de_int))
      (ds_cons (ds_for (passes_of rfl) rfl (di_rng rfl T.free_range (da_consW (vB 1) dw_nil)) (dg_name (i := 5) nd rfl (by first | exact Or.inl rfl | exact Or.inr rfl)) (ds_cons (ds_set (i := 4) nd rfl (by first | exact Or.inl rfl | exact Or.inr rfl) (de_bin dop_mod (de_callTy dcl_int (by rfl) T.free_int (by decide +kernel) (da_consW (de_bin dop_add (de_bin dop_mul (vB 4) de_int) (de_bin dop_mul de_int (de_bin dop_add (vB 5) de_int))) dw_nil)) de_int))
      (ds_one (ds_if (dt_cmp dop_ge (de_callB dcl_abs (by rfl) T.free_abs (by decide +kernel) (da_consW (vB 0) dw_nil)) (de_bin dop_pow de_int de_int) (nomark _)) (ds_cons (ds_append (i := 2) rfl (by first | exact Or.inl rfl | exact Or.inr (Or.inl rfl) | exact Or.inr (Or.inr rfl)) (de_bin dop_mod (de_callTy dcl_int (by rfl) T.free_int (by decide +kernel) (da_consW (vB 3) dw_nil)) de_int))
      (ds_one (ds_set (i := 3) nd rfl (by first | exact Or.inl rfl | exact Or.inr rfl) (de_bin dop_div (vB 3) de_int)))) (ds_one (ds_append (i := 2) rfl (by first | exact Or.inl rfl | exact Or.inr (Or.inl rfl) | exact Or.inr (Or.inr rfl)) (de_bin dop_mod (de_callTy dcl_int (by rfl) T.free_int (by decide +kernel) (da_consW (de_bin dop_div (vB 4) de_int) dw_nil)) de_int)))))))
      (ds_one (ds_ret (vV 2)))))))
theorem sc_law_numbers : FnScope N_law_numbers ["script", "many"] (defScope s_law_numbers) := ⟨rfl, rfl, rfl, by decide +kernel, rfl, by decide +kernel, by decide +kernel⟩
theorem D_law_numbers (T : Tx w K mg base) : ∃ fd, FnOk R.prog w K mg base (L2.CX R.prog w) 2 (He.ga K "_law_numbers") fd ["script", "many"] (spD K (Tz K) 2 ph__law_numbers) ∧ Binds K fd ["script", "many"] [] ∧ PySem.W.keepIn K (.ref (He.ga K "_law_numbers")) = true := by
  obtain ⟨fd, F⟩ := T.F__law_numbers
  obtain ⟨fd__law_row, G__law_row, b__law_row, k__law_row⟩ := D_law_row T
  have nd := sc_law_numbers.nd
  refine ⟨fd, fn_data (k := 1) F (codeOf_at (p := ("_law_numbers", none)) F) sc_law_numbers rfl (fun A outer s H E hr => ⟨r_law_numbers, ?_, M_law_numbers⟩), F.bindsN (ps := ["script", "many"]) fun _ _ _ _ _ _ us hl => match us, hl with | [_, _], _ => rfl, F.kp⟩
  exact (ds_cons (ds_set (i := 2) nd rfl (by first | exact Or.inl rfl | exact Or.inr rfl) (de_slice (vB 0) do_none (do_some de_int)))
      (ds_cons (ds_set (i := 3) nd rfl (by first | exact Or.inl rfl | exact Or.inr rfl) (de_bin dop_add de_int (de_bin dop_div (vB 1) (de_callB (dcl_max rfl) (by rfl) T.free_max (by decide +kernel) (da_consW de_int (da_consW (de_callB dcl_len (by rfl) T.free_len PySem.boot_len (da_consW (vB 2) dw_nil)) dw_nil))))))
      (ds_cons (ds_set (i := 4) nd rfl (by first | exact Or.inl rfl | exact Or.inr rfl) (de_lst da_nil))
      (ds_cons (ds_for (passes_of rfl) rfl (di_val (vV 2)) (dg_name (i := 5) nd rfl (by first | exact Or.inl rfl | exact Or.inr rfl)) (ds_one (ds_for (passes_of rfl) rfl (di_val (de_call G__law_row (hr.mono (by decide)) rfl T.glo__law_row k__law_row b__law_row (Ps.of (takes_of rfl rfl rfl rfl)) (da_cons (vV 5) (da_cons (vV 3) da_nil)))) (dg_name (i := 6) nd rfl (by first | exact Or.inl rfl | exact Or.inr rfl)) (ds_one (ds_append (i := 4) rfl (by first | exact Or.inl rfl | exact Or.inr (Or.inl rfl) | exact Or.inr (Or.inr rfl)) (vV 6))))))
      (ds_cons (ds_while (passes_of rfl) (dt_cmp dop_lt (de_callB dcl_len (by rfl) T.free_len PySem.boot_len (da_consW (vB 4) dw_nil)) (vB 1) (nomark _)) (ds_one (ds_append (i := 4) rfl (by first | exact Or.inl rfl | exact Or.inr (Or.inl rfl) | exact Or.inr (Or.inr rfl)) de_int)))
      (ds_one (ds_ret (de_slice (vB 4) do_none (do_some (vB 1))))))))))
theorem sc_law_names : FnScope N_law_names ["numbers", "at", "many"] (defScope s_law_names) := ⟨rfl, rfl, rfl, by decide +kernel, rfl, by decide +kernel, by decide +kernel⟩
theorem D_law_names (T : Tx w K mg base) : ∃ fd, FnOk R.prog w K mg base (L2.CX R.prog w) 1 (He.ga K "_law_names") fd ["numbers", "at", "many"] (spD K (Tz K) 3 ph__law_names) ∧ Binds K fd ["numbers", "at", "many"] [] ∧ PySem.W.keepIn K (.ref (He.ga K "_law_names")) = true := by
  obtain ⟨fd, F⟩ := T.F__law_names
  have nd := sc_law_names.nd
  refine ⟨fd, fn_data (k := 0) F (codeOf_at (p := ("_law_names", none)) F) sc_law_names rfl (fun A outer s H E hr => ⟨r_law_names, ?_, M_law_names⟩), F.bindsN (ps := ["numbers", "at", "many"]) fun _ _ _ _ _ _ us hl => match us, hl with | [_, _, _], _ => rfl, F.kp⟩
  exact (ds_cons (ds_if (dt_cmp (dop_eq hr.units) (de_bin dop_mod (de_callTy dcl_int (by rfl) T.free_int (by decide +kernel) (da_consW (de_ix (vB 0) de_int (fun _ _ => rfl)) dw_nil)) de_int) de_int (nomark _)) (ds_one (ds_set (i := 1) nd rfl (by first | exact Or.inl rfl | exact Or.inr rfl) de_int)) ds_nil)
      (ds_cons (ds_set (i := 3) nd rfl (by first | exact Or.inl rfl | exact Or.inr rfl) de_str)
      (ds_cons (ds_set (i := 4) nd rfl (by first | exact Or.inl rfl | exact Or.inr rfl) (de_ix (vB 3) (de_bin dop_mod (de_callTy dcl_int (by rfl) T.free_int (by decide +kernel) (da_consW (de_ix (vB 0) (vB 1) (fun _ _ => rfl)) dw_nil)) de_int) (fun _ _ => rfl)))
      (ds_cons (ds_for (passes_of rfl) rfl (di_rng rfl T.free_range (da_consW (de_bin dop_mod (de_callTy dcl_int (by rfl) T.free_int (by decide +kernel) (da_consW (de_ix (vB 0) (de_bin dop_add (vB 1) de_int) (fun _ _ => rfl)) dw_nil)) de_int) dw_nil)) (dg_name (i := 5) nd rfl (by first | exact Or.inl rfl | exact Or.inr rfl)) (ds_one (ds_set (i := 4) nd rfl (by first | exact Or.inl rfl | exact Or.inr rfl) (de_bin dop_add (vB 4) (de_ix (vB 3) (de_bin dop_mod (de_callTy dcl_int (by rfl) T.free_int (by decide +kernel) (da_consW (de_bin dop_add (de_ix (vB 0) (de_bin dop_add (vB 1) de_int) (fun _ _ => rfl)) (de_bin dop_mul (vB 5) (de_ix (vB 0) (de_bin dop_add (vB 1) de_int) (fun _ _ => rfl)))) dw_nil)) de_int) (fun _ _ => rfl))))))
      (ds_cons (ds_set (i := 6) nd rfl (by first | exact Or.inl rfl | exact Or.inr rfl) (de_bin dop_add de_int (de_bin dop_mod (de_callTy dcl_int (by rfl) T.free_int (by decide +kernel) (da_consW (de_ix (vB 0) (de_bin dop_add (vB 1) de_int) (fun _ _ => rfl)) dw_nil)) (de_callB dcl_len (by rfl) T.free_len PySem.boot_len (da_consW (vB 4) dw_nil)))))
      (ds_cons (ds_set (i := 7) nd rfl (by first | exact Or.inl rfl | exact Or.inr rfl) (de_callTy dcl_int (by rfl) T.free_int (by decide +kernel) (da_consW (de_ix (vB 0) (de_bin dop_add (vB 1) de_int) (fun _ _ => rfl)) dw_nil)))
      (ds_one (ds_ret (de_lc (own := [("k", 5)]) (tt := dYes) (te := (dBin gAdd (dBin gAdd (dSl (dVarB 4) dNoPart (dPart (dVarB 6))) (dBin gIx (dVarB 3) (dBin gMod (dBlt gInt (dConsW (dBin gAdd (dVarB 7) (dBin gMul (dC (.int 5)) (dVarB 5))) dNil)) (dC (.int 36))))) (dSl (dVarB 4) (dPart (dVarB 6)) dNoPart))) rfl nd (di_rng rfl T.free_range (da_consW (vB 2) dw_nil)) (blkOk_by (own := [("k", 5)]) (N := N_law_names) (sc := defScope s_law_names) (by decide +kernel)) rfl (fun _ _ _ _ _ => pg_name (i := 5) nd rfl (by first | exact Or.inl rfl | exact Or.inr rfl)) (fun _ _ _ _ _ => dts_nil) (fun _ _ _ _ _ => (de_bin dop_add (de_bin dop_add (de_slice (vB 4) do_none (do_some (vB 6))) (de_ix (vB 3) (de_bin dop_mod (de_callTy dcl_int (by rfl) T.free_int (by decide +kernel) (da_consW (de_bin dop_add (vB 7) (de_bin dop_mul de_int (vB 5))) dw_nil)) de_int) (fun _ _ => rfl))) (de_slice (vB 4) (do_some (vB 6)) do_none))))))))))))
theorem sc_law_some : FnScope N_law_some ["rights", "number", "without"] (defScope s_law_some) := ⟨rfl, rfl, rfl, by decide +kernel, rfl, by decide +kernel, by decide +kernel⟩
theorem D_law_some (T : Tx w K mg base) : ∃ fd, FnOk R.prog w K mg base (L2.CX R.prog w) 1 (He.ga K "_law_some") fd ["rights", "number", "without"] (spD K (Tz K) 3 ph__law_some) ∧ Binds K fd ["rights", "number", "without"] [] ∧ PySem.W.keepIn K (.ref (He.ga K "_law_some")) = true := by
  obtain ⟨fd, F⟩ := T.F__law_some
  have nd := sc_law_some.nd
  refine ⟨fd, fn_data (k := 0) F (codeOf_at (p := ("_law_some", none)) F) sc_law_some rfl (fun A outer s H E hr => ⟨r_law_some, ?_, M_law_some⟩), F.bindsN (ps := ["rights", "number", "without"]) fun _ _ _ _ _ _ us hl => match us, hl with | [_, _, _], _ => rfl, F.kp⟩
  exact (ds_cons (ds_set (i := 3) nd rfl (by first | exact Or.inl rfl | exact Or.inr rfl) (de_lst da_nil))
      (ds_cons (ds_for (passes_of rfl) rfl (di_rng rfl T.free_range (da_consW (de_callB dcl_len (by rfl) T.free_len PySem.boot_len (da_consW (vB 0) dw_nil)) dw_nil)) (dg_name (i := 4) nd rfl (by first | exact Or.inl rfl | exact Or.inr rfl)) (ds_one (ds_if (PW.pt (dw_and (dt_cmp (dop_eq hr.units) (de_bin dop_mod (de_bin dop_div (de_callTy dcl_int (by rfl) T.free_int (by decide +kernel) (da_consW (vB 1) dw_nil)) (de_ix (de_lst (da_cons de_int (da_cons de_int (da_cons de_int (da_cons de_int (da_cons de_int (da_cons de_int da_nil))))))) (vB 4) (fun _ _ => rfl))) de_int) de_int (nomark _)) (dw_and1 (dt_cmp dop_nin (de_ix (vB 0) (vB 4) (fun _ _ => rfl)) (vB 2) (by rfl))))) (ds_one (ds_append (i := 3) rfl (by first | exact Or.inl rfl | exact Or.inr (Or.inl rfl) | exact Or.inr (Or.inr rfl)) (de_ix (vB 0) (vB 4) (fun _ _ => rfl)))) ds_nil)))
      (ds_cons (ds_set (i := 5) nd rfl (by first | exact Or.inl rfl | exact Or.inr rfl) (de_bin dop_mod (de_bin dop_div (de_callTy dcl_int (by rfl) T.free_int (by decide +kernel) (da_consW (vB 1) dw_nil)) de_int) (de_callB (dcl_max rfl) (by rfl) T.free_max (by decide +kernel) (da_consW de_int (da_consW (de_callB dcl_len (by rfl) T.free_len PySem.boot_len (da_consW (vB 3) dw_nil)) dw_nil)))))
      (ds_one (ds_ret (de_bin dop_add (de_slice (vB 3) (do_some (vB 5)) do_none) (de_slice (vB 3) do_none (do_some (vB 5)))))))))
theorem sc_law_count : FnScope N_law_count ["number", "least", "most"] (defScope s_law_count) := ⟨rfl, rfl, rfl, by decide +kernel, rfl, by decide +kernel, by decide +kernel⟩
theorem D_law_count (T : Tx w K mg base) : ∃ fd, FnOk R.prog w K mg base (L2.CX R.prog w) 1 (He.ga K "_law_count") fd ["number", "least", "most"] (spD K (Tz K) 3 ph__law_count) ∧ Binds K fd ["number", "least", "most"] [] ∧ PySem.W.keepIn K (.ref (He.ga K "_law_count")) = true := by
  obtain ⟨fd, F⟩ := T.F__law_count
  have nd := sc_law_count.nd
  refine ⟨fd, fn_data (k := 0) F (codeOf_at (p := ("_law_count", none)) F) sc_law_count rfl (fun A outer s H E hr => ⟨r_law_count, ?_, M_law_count⟩), F.bindsN (ps := ["number", "least", "most"]) fun _ _ _ _ _ _ us hl => match us, hl with | [_, _, _], _ => rfl, F.kp⟩
  exact (ds_cons (ds_if (dt_cmp (dop_eq hr.units) (de_bin dop_mod (de_callTy dcl_int (by rfl) T.free_int (by decide +kernel) (da_consW (vB 0) dw_nil)) de_int) de_int (nomark _)) (ds_one (ds_ret (vV 1))) ds_nil)
      (ds_cons (ds_if (dt_cmp (dop_eq hr.units) (de_bin dop_mod (de_callTy dcl_int (by rfl) T.free_int (by decide +kernel) (da_consW (vB 0) dw_nil)) de_int) de_int (nomark _)) (ds_one (ds_ret (vV 2))) ds_nil)
      (ds_one (ds_ret (de_bin dop_add (vB 1) (de_bin dop_mod (de_bin dop_div (de_callTy dcl_int (by rfl) T.free_int (by decide +kernel) (da_consW (vB 0) dw_nil)) de_int) (de_bin dop_add (de_bin dop_sub (vB 2) (vB 1)) de_int)))))))
theorem sc_law_rule : FnScope N_law_rule ["numbers", "at", "name", "rights", "sole"] (defScope s_law_rule) := ⟨rfl, rfl, rfl, by decide +kernel, rfl, by decide +kernel, by decide +kernel⟩
theorem D_law_rule (T : Tx w K mg base) : ∃ fd, FnOk R.prog w K mg base (L2.CX R.prog w) 2 (He.ga K "_law_rule") fd ["numbers", "at", "name", "rights", "sole"] (spD K (Tz K) 5 ph__law_rule) ∧ Binds K fd ["numbers", "at", "name", "rights", "sole"] [] ∧ PySem.W.keepIn K (.ref (He.ga K "_law_rule")) = true := by
  obtain ⟨fd, F⟩ := T.F__law_rule
  obtain ⟨fd__law_some, G__law_some, b__law_some, k__law_some⟩ := D_law_some T
  have nd := sc_law_rule.nd
  refine ⟨fd, fn_data (k := 1) F (codeOf_at (p := ("_law_rule", none)) F) sc_law_rule rfl (fun A outer s H E hr => ⟨r_law_rule, ?_, M_law_rule⟩), F.bindsN (ps := ["numbers", "at", "name", "rights", "sole"]) fun _ _ _ _ _ _ us hl => match us, hl with | [_, _, _, _, _], _ => rfl, F.kp⟩
  exact (ds_cons (ds_set (i := 5) nd rfl (by first | exact Or.inl rfl | exact Or.inr rfl) (de_ix (de_lst (da_cons de_str (da_cons de_str (da_cons de_str (da_cons de_str (da_cons de_str (da_cons de_str da_nil))))))) (de_bin dop_mod (de_callTy dcl_int (by rfl) T.free_int (by decide +kernel) (da_consW (de_ix (vB 0) (vB 1) (fun _ _ => rfl)) dw_nil)) de_int) (fun _ _ => rfl)))
      (ds_cons (ds_setLc (j := 6) (own := [("right", 8)]) (tt := (dTst (dBin gNin (dVarB 8) (dVarB 4)))) (te := (dVar 8)) rfl nd rfl rfl (sw_true rfl rfl rfl (by decide +kernel)) (di_val (vB 3)) (blkOk_by (own := [("right", 8)]) (N := N_law_rule) (sc := defScope s_law_rule) (by decide +kernel)) rfl (fun _ _ _ _ _ => pg_name (i := 8) nd rfl (by first | exact Or.inl rfl | exact Or.inr rfl)) (fun _ _ _ _ _ => dts_one (dt_cmp dop_nin (vB 8) (vB 4) (by rfl))) (fun _ _ _ _ _ => (vV 8)))
      (ds_cons (ds_if (dt_cmp (dop_eq hr.units) (vB 5) de_str (nomark _)) (ds_one (ds_ret (de_tup (da_cons (vV 5) (da_cons (vV 2) (da_cons (de_call G__law_some (hr.mono (by decide)) rfl T.glo__law_some k__law_some b__law_some (Ps.of (takes_of rfl rfl rfl rfl)) (da_cons (vV 6) (da_cons (de_ix (vB 0) (de_bin dop_add (vB 1) de_int) (fun _ _ => rfl)) (da_cons (de_lst da_nil) da_nil)))) da_nil)))))) ds_nil)
      (ds_cons (ds_set (i := 7) nd rfl (by first | exact Or.inl rfl | exact Or.inr rfl) (vV 3))
      (ds_cons (ds_if (dt_cmp (dop_eq hr.units) (vB 5) de_str (nomark _)) (ds_one (ds_set (i := 7) nd rfl (by first | exact Or.inl rfl | exact Or.inr rfl) (vV 4))) ds_nil)
      (ds_cons (ds_if (PW.pt (dw_or (dt_cmp (dop_eq hr.units) (vB 5) de_str (nomark _)) (dw_or1 (dt_cmp (dop_eq hr.units) (vB 5) de_str (nomark _))))) (ds_one (ds_set (i := 7) nd rfl (by first | exact Or.inl rfl | exact Or.inr rfl) (vV 6))) ds_nil)
      (ds_cons (ds_if (dt_cmp (dop_eq hr.units) (de_callB dcl_len (by rfl) T.free_len PySem.boot_len (da_consW (vB 7) dw_nil)) de_int (nomark _)) (ds_cons (ds_set (i := 5) nd rfl (by first | exact Or.inl rfl | exact Or.inr rfl) (de_ix (de_lst (da_cons de_str (da_cons de_str da_nil))) (de_bin dop_mod (de_callTy dcl_int (by rfl) T.free_int (by decide +kernel) (da_consW (de_ix (vB 0) (de_bin dop_add (vB 1) de_int) (fun _ _ => rfl)) dw_nil)) de_int) (fun _ _ => rfl)))
      (ds_one (ds_set (i := 7) nd rfl (by first | exact Or.inl rfl | exact Or.inr rfl) (vV 3)))) ds_nil)
      (ds_cons (ds_set (i := 8) nd rfl (by first | exact Or.inl rfl | exact Or.inr rfl) (de_ix (vB 7) (de_bin dop_mod (de_callTy dcl_int (by rfl) T.free_int (by decide +kernel) (da_consW (de_ix (vB 0) (de_bin dop_add (vB 1) de_int) (fun _ _ => rfl)) dw_nil)) (de_callB dcl_len (by rfl) T.free_len PySem.boot_len (da_consW (vB 7) dw_nil))) (fun _ _ => rfl)))
      (ds_cons (ds_set (i := 9) nd rfl (by first | exact Or.inl rfl | exact Or.inr rfl) (de_call G__law_some (hr.mono (by decide)) rfl T.glo__law_some k__law_some b__law_some (Ps.of (takes_of rfl rfl rfl rfl)) (da_cons (vV 3) (da_cons (de_ix (vB 0) (de_bin dop_add (vB 1) de_int) (fun _ _ => rfl)) (da_cons (de_lst (da_cons (vV 8) da_nil)) da_nil)))))
      (ds_cons (ds_set (i := 10) nd rfl (by first | exact Or.inl rfl | exact Or.inr rfl) (de_call G__law_some (hr.mono (by decide)) rfl T.glo__law_some k__law_some b__law_some (Ps.of (takes_of rfl rfl rfl rfl)) (da_cons (vV 3) (da_cons (de_ix (vB 0) (de_bin dop_add (vB 1) de_int) (fun _ _ => rfl)) (da_cons (de_lst (da_cons (vV 8) da_nil)) da_nil)))))
      (ds_cons (ds_set (i := 11) nd rfl (by first | exact Or.inl rfl | exact Or.inr rfl) (de_call G__law_some (hr.mono (by decide)) rfl T.glo__law_some k__law_some b__law_some (Ps.of (takes_of rfl rfl rfl rfl)) (da_cons (vV 3) (da_cons (de_ix (vB 0) (de_bin dop_add (vB 1) de_int) (fun _ _ => rfl)) (da_cons (de_bin dop_add (de_lst (da_cons (vV 8) da_nil)) (vB 10)) da_nil)))))
      (ds_cons (ds_if (PW.pt (dw_or (dt_cmp (dop_eq hr.units) (vB 5) de_str (nomark _)) (dw_or1 (dt_cmp (dop_eq hr.units) (vB 5) de_str (nomark _))))) (ds_one (ds_ret (de_tup (da_cons (vV 5) (da_cons (vV 2) (da_cons (vV 10) (da_cons (vV 11) (da_cons (vV 8) da_nil)))))))) ds_nil)
      (ds_cons (ds_if (PW.pt (dw_and (dt_cmp (dop_ne hr.units) (vB 5) de_str (nomark _)) (dw_and1 (dt_cmp (dop_eq hr.units) (de_bin dop_mod (de_callTy dcl_int (by rfl) T.free_int (by decide +kernel) (da_consW (de_ix (vB 0) (de_bin dop_add (vB 1) de_int) (fun _ _ => rfl)) dw_nil)) de_int) de_int (nomark _))))) (ds_one (ds_set (i := 9) nd rfl (by first | exact Or.inl rfl | exact Or.inr rfl) (de_bin dop_add (vB 9) (de_lst (da_cons (vV 8) da_nil))))) ds_nil)
      (ds_one (ds_ret (de_tup (da_cons (vV 5) (da_cons (vV 2) (da_cons (vV 9) (da_cons (vV 10) (da_cons (vV 11) (da_cons (vV 8) da_nil))))))))))))))))))))))
theorem sc_law_parts : FnScope N_law_parts ["numbers"] (defScope s_law_parts) := ⟨rfl, rfl, rfl, by decide +kernel, rfl, by decide +kernel, by decide +kernel⟩
theorem D_law_parts (T : Tx w K mg base) : ∃ fd, FnOk R.prog w K mg base (L2.CX R.prog w) 3 (He.ga K "_law_parts") fd ["numbers"] (spD K (Tz K) 1 ph__law_parts) ∧ Binds K fd ["numbers"] [] ∧ PySem.W.keepIn K (.ref (He.ga K "_law_parts")) = true := by
  obtain ⟨fd, F⟩ := T.F__law_parts
  obtain ⟨fd__law_names, G__law_names, b__law_names, k__law_names⟩ := D_law_names T
  obtain ⟨fd__law_count, G__law_count, b__law_count, k__law_count⟩ := D_law_count T
  obtain ⟨fd__law_some, G__law_some, b__law_some, k__law_some⟩ := D_law_some T
  obtain ⟨fd__law_rule, G__law_rule, b__law_rule, k__law_rule⟩ := D_law_rule T
  have nd := sc_law_parts.nd
  refine ⟨fd, fn_data (k := 2) F (codeOf_at (p := ("_law_parts", none)) F) sc_law_parts rfl (fun A outer s H E hr => ⟨r_law_parts, ?_, M_law_parts⟩), F.bindsN (ps := ["numbers"]) fun _ _ _ _ _ _ us hl => match us, hl with | [_], _ => rfl, F.kp⟩
  exact (ds_cons (ds_set (i := 1) nd rfl (by first | exact Or.inl rfl | exact Or.inr rfl) (de_call G__law_names (hr.mono (by decide)) rfl T.glo__law_names k__law_names b__law_names (Ps.of (takes_of rfl rfl rfl rfl)) (da_cons (vV 0) (da_cons de_int (da_cons (de_call G__law_count (hr.mono (by decide)) rfl T.glo__law_count k__law_count b__law_count (Ps.of (takes_of rfl rfl rfl rfl)) (da_cons (de_ix (vB 0) de_int (fun _ _ => rfl)) (da_cons de_int (da_cons de_int da_nil)))) da_nil)))))
      (ds_cons (ds_set (i := 2) nd rfl (by first | exact Or.inl rfl | exact Or.inr rfl) (de_call G__law_some (hr.mono (by decide)) rfl T.glo__law_some k__law_some b__law_some (Ps.of (takes_of rfl rfl rfl rfl)) (da_cons (vV 1) (da_cons (de_ix (vB 0) de_int (fun _ _ => rfl)) (da_cons (de_lst da_nil) da_nil)))))
      (ds_cons (ds_set (i := 3) nd rfl (by first | exact Or.inl rfl | exact Or.inr rfl) (de_call G__law_names (hr.mono (by decide)) rfl T.glo__law_names k__law_names b__law_names (Ps.of (takes_of rfl rfl rfl rfl)) (da_cons (vV 0) (da_cons de_int (da_cons (de_call G__law_count (hr.mono (by decide)) rfl T.glo__law_count k__law_count b__law_count (Ps.of (takes_of rfl rfl rfl rfl)) (da_cons (de_ix (vB 0) de_int (fun _ _ => rfl)) (da_cons de_int (da_cons de_int da_nil)))) da_nil)))))
      (ds_cons (ds_set (i := 4) nd rfl (by first | exact Or.inl rfl | exact Or.inr rfl) (de_lst da_nil))
      (ds_cons (ds_set (i := 5) nd rfl (by first | exact Or.inl rfl | exact Or.inr rfl) (de_lst da_nil))
      (ds_cons (ds_for (passes_of rfl) rfl (di_rng rfl T.free_range (da_consW (de_callB dcl_len (by rfl) T.free_len PySem.boot_len (da_consW (vB 3) dw_nil)) dw_nil)) (dg_name (i := 6) nd rfl (by first | exact Or.inl rfl | exact Or.inr rfl)) (ds_cons (ds_set (i := 9) nd rfl (by first | exact Or.inl rfl | exact Or.inr rfl) (de_call G__law_some (hr.mono (by decide)) rfl T.glo__law_some k__law_some b__law_some (Ps.of (takes_of rfl rfl rfl rfl)) (da_cons (vV 1) (da_cons (de_ix (vB 0) (de_bin dop_add de_int (vB 6)) (fun _ _ => rfl)) (da_cons (vV 5) da_nil)))))
      (ds_cons (ds_set (i := 5) nd rfl (by first | exact Or.inl rfl | exact Or.inr rfl) (de_bin dop_add (vB 5) (de_lc (own := [("right", 10)]) (tt := (dTst (dBin gIn (dVarB 10) (dVarB 2)))) (te := (dVar 10)) rfl nd (di_val (vB 9)) (blkOk_by (own := [("right", 10)]) (N := N_law_parts) (sc := defScope s_law_parts) (by decide +kernel)) rfl (fun _ _ _ _ _ => pg_name (i := 10) nd rfl (by first | exact Or.inl rfl | exact Or.inr rfl)) (fun _ _ _ _ _ => dts_one (dt_cmp dop_in (vB 10) (vB 2) (by rfl))) (fun _ _ _ _ _ => (vV 10)))))
      (ds_one (ds_append (i := 4) rfl (by first | exact Or.inl rfl | exact Or.inr (Or.inl rfl) | exact Or.inr (Or.inr rfl)) (de_tup (da_cons (de_ix (vB 3) (vB 6) (fun _ _ => rfl)) (da_cons (vV 9) da_nil))))))))
      (ds_cons (ds_set (i := 7) nd rfl (by first | exact Or.inl rfl | exact Or.inr rfl) (de_call G__law_names (hr.mono (by decide)) rfl T.glo__law_names k__law_names b__law_names (Ps.of (takes_of rfl rfl rfl rfl)) (da_cons (vV 0) (da_cons de_int (da_cons (de_call G__law_count (hr.mono (by decide)) rfl T.glo__law_count k__law_count b__law_count (Ps.of (takes_of rfl rfl rfl rfl)) (da_cons (de_ix (vB 0) de_int (fun _ _ => rfl)) (da_cons de_int (da_cons de_int da_nil)))) da_nil)))))
      (ds_cons (ds_setLc (j := 8) (own := [("k", 6)]) (tt := dYes) (te := (dCall 5 ph__law_rule (dCons (dVar 0) (dCons (dBin gAdd (dC (.int 27)) (dBin gMul (dC (.int 6)) (dVarB 6))) (dCons (dBin gIx (dVarB 7) (dVarB 6)) (dCons (dVar 1) (dCons (dVar 2) dNil))))))) rfl nd rfl rfl (sw_true rfl rfl rfl (by decide +kernel)) (di_rng rfl T.free_range (da_consW (de_callB dcl_len (by rfl) T.free_len PySem.boot_len (da_consW (vB 7) dw_nil)) dw_nil)) (blkOk_by (own := [("k", 6)]) (N := N_law_parts) (sc := defScope s_law_parts) (by decide +kernel)) rfl (fun _ _ _ _ _ => pg_name (i := 6) nd rfl (by first | exact Or.inl rfl | exact Or.inr rfl)) (fun _ _ _ _ _ => dts_nil) (fun _ _ _ _ _ => (de_call G__law_rule (hr.mono (by decide)) rfl T.glo__law_rule k__law_rule b__law_rule Ps.no (da_cons (vV 0) (da_cons (de_bin dop_add de_int (de_bin dop_mul de_int (vB 6))) (da_cons (de_ix (vB 7) (vB 6) (fun _ _ => rfl)) (da_cons (vV 1) (da_cons (vV 2) da_nil))))))))
      (ds_one (ds_ret (de_tup (da_cons (vV 1) (da_cons (vV 2) (da_cons (vV 4) (da_cons (vV 8) da_nil)))))))))))))))
theorem sc_law_ordered : FnScope N_law_ordered ["rights", "words"] (defScope s_law_ordered) := ⟨rfl, rfl, rfl, by decide +kernel, rfl, by decide +kernel, by decide +kernel⟩
theorem D_law_ordered (T : Tx w K mg base) : ∃ fd, FnOk R.prog w K mg base (L2.CX R.prog w) 1 (He.ga K "_law_ordered") fd ["rights", "words"] (spD K (Tz K) 2 ph__law_ordered) ∧ Binds K fd ["rights", "words"] [] ∧ PySem.W.keepIn K (.ref (He.ga K "_law_ordered")) = true := by
  obtain ⟨fd, F⟩ := T.F__law_ordered
  have nd := sc_law_ordered.nd
  refine ⟨fd, fn_data (k := 0) F (codeOf_at (p := ("_law_ordered", none)) F) sc_law_ordered rfl (fun A outer s H E hr => ⟨r_law_ordered, ?_, M_law_ordered⟩), F.bindsN (ps := ["rights", "words"]) fun _ _ _ _ _ _ us hl => match us, hl with | [_, _], _ => rfl, F.kp⟩
  exact (ds_one (ds_ret (de_callTy dcl_tuple (by rfl) T.free_tuple (by decide +kernel) (da_consW (de_lc (own := [("right", 2)]) (tt := (dTst (dBin gIn (dVarB 2) (dVarB 1)))) (te := (dVar 2)) rfl nd (di_val (vB 0)) (blkOk_by (own := [("right", 2)]) (N := N_law_ordered) (sc := defScope s_law_ordered) (by decide +kernel)) rfl (fun _ _ _ _ _ => pg_name (i := 2) nd rfl (by first | exact Or.inl rfl | exact Or.inr rfl)) (fun _ _ _ _ _ => dts_one (dt_cmp dop_in (vB 2) (vB 1) (by rfl))) (fun _ _ _ _ _ => (vV 2))) dw_nil))))
theorem sc_law_frozen : FnScope N_law_frozen ["parts"] (defScope s_law_frozen) := ⟨rfl, rfl, rfl, by decide +kernel, rfl, by decide +kernel, by decide +kernel⟩
theorem D_law_frozen (T : Tx w K mg base) : ∃ fd, FnOk R.prog w K mg base (L2.CX R.prog w) 2 (He.ga K "_law_frozen") fd ["parts"] (spD K (Tz K) 1 ph__law_frozen) ∧ Binds K fd ["parts"] [] ∧ PySem.W.keepIn K (.ref (He.ga K "_law_frozen")) = true := by
  obtain ⟨fd, F⟩ := T.F__law_frozen
  obtain ⟨fd__law_ordered, G__law_ordered, b__law_ordered, k__law_ordered⟩ := D_law_ordered T
  have nd := sc_law_frozen.nd
  refine ⟨fd, fn_data (k := 1) F (codeOf_at (p := ("_law_frozen", none)) F) sc_law_frozen rfl (fun A outer s H E hr => ⟨r_law_frozen, ?_, M_law_frozen⟩), F.bindsN (ps := ["parts"]) fun _ _ _ _ _ _ us hl => match us, hl with | [_], _ => rfl, F.kp⟩
  exact (ds_cons (ds_set (i := 1) nd rfl (by first | exact Or.inl rfl | exact Or.inr rfl) (de_ix (vB 0) de_int (fun _ _ => rfl)))
      (ds_cons (ds_setLc (j := 2) (own := [("one", 7)]) (tt := dYes) (te := (dTup (dCons (dBin gIx (dVarB 7) (dC (.int 0))) (dCons (dCall 2 ph__law_ordered (dCons (dVar 1) (dCons (dBin gIx (dVarB 7) (dC (.int 1))) dNil))) dNil)))) rfl nd rfl rfl (sw_true rfl rfl rfl (by decide +kernel)) (di_val (de_ix (vB 0) de_int (fun _ _ => rfl))) (blkOk_by (own := [("one", 7)]) (N := N_law_frozen) (sc := defScope s_law_frozen) (by decide +kernel)) rfl (fun _ _ _ _ _ => pg_name (i := 7) nd rfl (by first | exact Or.inl rfl | exact Or.inr rfl)) (fun _ _ _ _ _ => dts_nil) (fun _ _ _ _ _ => (de_tup (da_cons (de_ix (vB 7) de_int (fun _ _ => rfl)) (da_cons (de_call G__law_ordered (hr.mono (by decide)) rfl T.glo__law_ordered k__law_ordered b__law_ordered Ps.no (da_cons (vV 1) (da_cons (de_ix (vB 7) de_int (fun _ _ => rfl)) da_nil))) da_nil)))))
      (ds_cons (ds_set (i := 3) nd rfl (by first | exact Or.inl rfl | exact Or.inr rfl) (de_lst da_nil))
      (ds_cons (ds_for (passes_of rfl) rfl (di_val (de_ix (vB 0) de_int (fun _ _ => rfl))) (dg_name (i := 4) nd rfl (by first | exact Or.inl rfl | exact Or.inr rfl)) (ds_cons (ds_set (i := 5) nd rfl (by first | exact Or.inl rfl | exact Or.inr rfl) (de_slice (vB 4) do_none (do_some de_int)))
      (ds_cons (ds_for (passes_of rfl) rfl (di_val (de_slice (vB 4) (do_some de_int) do_none)) (dg_name (i := 6) nd rfl (by first | exact Or.inl rfl | exact Or.inr rfl)) (ds_one (ds_if (dt_val (de_isi (T := "str") rfl T.free_isinstance (by decide +kernel) rfl T.free_str rfl (vB 6))) (ds_one (ds_set (i := 5) nd rfl (by first | exact Or.inl rfl | exact Or.inr rfl) (de_bin dop_add (vB 5) (de_tup (da_cons (vV 6) da_nil))))) (ds_one (ds_set (i := 5) nd rfl (by first | exact Or.inl rfl | exact Or.inr rfl) (de_bin dop_add (vB 5) (de_tup (da_cons (de_call G__law_ordered (hr.mono (by decide)) rfl T.glo__law_ordered k__law_ordered b__law_ordered (Ps.of (takes_of rfl rfl rfl rfl)) (da_cons (vV 1) (da_cons (vV 6) da_nil))) da_nil))))))))
      (ds_one (ds_append (i := 3) rfl (by first | exact Or.inl rfl | exact Or.inr (Or.inl rfl) | exact Or.inr (Or.inr rfl)) (vV 5))))))
      (ds_one (ds_ret (de_tup (da_cons (de_callTy dcl_tuple (by rfl) T.free_tuple (by decide +kernel) (da_consW (vB 1) dw_nil)) (da_cons (de_call G__law_ordered (hr.mono (by decide)) rfl T.glo__law_ordered k__law_ordered b__law_ordered (Ps.of (takes_of rfl rfl rfl rfl)) (da_cons (vV 1) (da_cons (de_ix (vB 0) de_int (fun _ _ => rfl)) da_nil))) (da_cons (de_callTy dcl_tuple (by rfl) T.free_tuple (by decide +kernel) (da_consW (vB 2) dw_nil)) (da_cons (de_callTy dcl_tuple (by rfl) T.free_tuple (by decide +kernel) (da_consW (vB 3) dw_nil)) da_nil)))))))))))
theorem sc_law_same : FnScope N_law_same ["charter", "due"] (defScope s_law_same) := ⟨rfl, rfl, rfl, by decide +kernel, rfl, by decide +kernel, by decide +kernel⟩
theorem D_law_same (T : Tx w K mg base) : ∃ fd, FnOk R.prog w K mg base (L2.CX R.prog w) 1 (He.ga K "_law_same") fd ["charter", "due"] (spD K (Tz K) 2 ph__law_same) ∧ Binds K fd ["charter", "due"] [] ∧ PySem.W.keepIn K (.ref (He.ga K "_law_same")) = true := by
  obtain ⟨fd, F⟩ := T.F__law_same
  have nd := sc_law_same.nd
  refine ⟨fd, fn_data (k := 0) F (codeOf_at (p := ("_law_same", none)) F) sc_law_same rfl (fun A outer s H E hr => ⟨r_law_same, ?_, M_law_same⟩), F.bindsN (ps := ["charter", "due"]) fun _ _ _ _ _ _ us hl => match us, hl with | [_, _], _ => rfl, F.kp⟩
  exact (ds_cons (ds_if (PW.pt (dw_or (dt_cmp (dop_ne hr.units) (de_fld (C := "Charter") (vV 0) T.cls_Charter T.noat_Charter_rights) (de_ix (vB 1) de_int (fun _ _ => rfl)) (nomark _)) (dw_or1 (dt_cmp (dop_ne hr.units) (de_fld (C := "Charter") (vV 0) T.cls_Charter T.noat_Charter_sole) (de_ix (vB 1) de_int (fun _ _ => rfl)) (nomark _))))) (ds_one (ds_ret de_bl)) ds_nil)
      (ds_one (ds_ret (de_and (de_cmp (dop_eq hr.units) (de_fld (C := "Charter") (vV 0) T.cls_Charter T.noat_Charter_founders) (de_ix (vB 1) de_int (fun _ _ => rfl)) (nomark _)) (de_one (de_cmp (dop_eq hr.units) (de_fld (C := "Charter") (vV 0) T.cls_Charter T.noat_Charter_rules) (de_ix (vB 1) de_int (fun _ _ => rfl)) (nomark _)))))))
theorem sc_law_in : FnScope N_law_in ["row", "name", "item", "place"] (defScope s_law_in) := ⟨rfl, rfl, rfl, by decide +kernel, rfl, by decide +kernel, by decide +kernel⟩
theorem D_law_in (T : Tx w K mg base) : ∃ fd, FnOk R.prog w K mg base (L2.CX R.prog w) 1 (He.ga K "_law_in") fd ["row", "name", "item", "place"] (spD K (Tz K) 4 ph__law_in) ∧ Binds K fd ["row", "name", "item", "place"] [] ∧ PySem.W.keepIn K (.ref (He.ga K "_law_in")) = true := by
  obtain ⟨fd, F⟩ := T.F__law_in
  have nd := sc_law_in.nd
  refine ⟨fd, fn_data (k := 0) F (codeOf_at (p := ("_law_in", none)) F) sc_law_in rfl (fun A outer s H E hr => ⟨r_law_in, ?_, M_law_in⟩), F.bindsN (ps := ["row", "name", "item", "place"]) fun _ _ _ _ _ _ us hl => match us, hl with | [_, _, _, _], _ => rfl, F.kp⟩
  exact (ds_cons (ds_for (passes_of rfl) rfl (di_rng rfl T.free_range (da_consW (de_callB dcl_len (by rfl) T.free_len PySem.boot_len (da_consW (vB 0) dw_nil)) dw_nil)) (dg_name (i := 4) nd rfl (by first | exact Or.inl rfl | exact Or.inr rfl)) (ds_one (ds_if (dt_cmp (dop_eq hr.units) (de_ix (de_ix (vB 0) (vB 4) (fun _ _ => rfl)) (vB 3) (fun _ _ => rfl)) (vB 1) (nomark _)) (ds_one (ds_ret (de_bin dop_add (de_bin dop_add (de_slice (vB 0) do_none (do_some (vB 4))) (de_lst (da_cons (vV 2) da_nil))) (de_slice (vB 0) (do_some (de_bin dop_add (vB 4) de_int)) do_none)))) ds_nil)))
      (ds_one (ds_ret (de_bin dop_add (vB 0) (de_lst (da_cons (vV 2) da_nil))))))
theorem sc_put : FnScope N_put ["rows", "at", "new"] (defScope s_put) := ⟨rfl, rfl, rfl, by decide +kernel, rfl, by decide +kernel, by decide +kernel⟩
theorem D_put (T : Tx w K mg base) : ∃ fd, FnOk R.prog w K mg base (L2.CX R.prog w) 1 (He.ga K "_put") fd ["rows", "at", "new"] (spD K (Tz K) 3 ph__put) ∧ Binds K fd ["rows", "at", "new"] [] ∧ PySem.W.keepIn K (.ref (He.ga K "_put")) = true := by
  obtain ⟨fd, F⟩ := T.F__put
  have nd := sc_put.nd
  refine ⟨fd, fn_data (k := 0) F (codeOf_at (p := ("_put", none)) F) sc_put rfl (fun A outer s H E hr => ⟨r_put, ?_, M_put⟩), F.bindsN (ps := ["rows", "at", "new"]) fun _ _ _ _ _ _ us hl => match us, hl with | [_, _, _], _ => rfl, F.kp⟩
  exact (ds_cons (ds_if (PW.pt (dw_or (dt_cmp dop_le (de_callB dcl_len (by rfl) T.free_len PySem.boot_len (da_consW (vB 2) dw_nil)) (vB 1) (nomark _)) (dw_or1 (dt_cmp dop_nin (de_ix (vB 2) (vB 1) (fun _ _ => rfl)) (de_lc (own := [("row", 3)]) (tt := dYes) (te := (dBin gIx (dVarB 3) (dVarB 1))) rfl nd (di_val (vB 0)) (blkOk_by (own := [("row", 3)]) (N := N_put) (sc := defScope s_put) (by decide +kernel)) rfl (fun _ _ _ _ _ => pg_name (i := 3) nd rfl (by first | exact Or.inl rfl | exact Or.inr rfl)) (fun _ _ _ _ _ => dts_nil) (fun _ _ _ _ _ => (de_ix (vB 3) (vB 1) (fun _ _ => rfl)))) (by rfl))))) (ds_one (ds_ret (de_lst (da_star (vB 0) (da_cons (vV 2) da_nil))))) ds_nil)
      (ds_one (ds_ret (de_lc (own := [("row", 3)]) (tt := dYes) (te := (dIf (dTst (dBin gEq (dBin gIx (dVarB 3) (dVarB 1)) (dBin gIx (dVarB 2) (dVarB 1)))) (dVar 2) (dVar 3))) rfl nd (di_val (vB 0)) (blkOk_by (own := [("row", 3)]) (N := N_put) (sc := defScope s_put) (by decide +kernel)) rfl (fun _ _ _ _ _ => pg_name (i := 3) nd rfl (by first | exact Or.inl rfl | exact Or.inr rfl)) (fun _ _ _ _ _ => dts_nil) (fun _ _ _ _ _ => (de_if (dt_cmp (dop_eq hr.units) (de_ix (vB 3) (vB 1) (fun _ _ => rfl)) (de_ix (vB 2) (vB 1) (fun _ _ => rfl)) (nomark _)) (vV 2) (vV 3)))))))
theorem scCharter_rule_names : FnScope NCharter_rule_names ["self"] (defScope sCharter_rule_names) := ⟨rfl, rfl, rfl, by decide +kernel, rfl, by decide +kernel, by decide +kernel⟩
theorem DCharter_rule_names (T : Tx w K mg base) : ∃ fd, FnOk R.prog w K mg base (L2.CX R.prog w) 1 (Hd.gtrA K "Charter" "rule_names") fd ["self"] (spD K (Tz K) 1 ph_Charter_rule_names) ∧ Binds K fd ["self"] [] := by
  obtain ⟨_, fd, F⟩ := T.P_Charter_rule_names
  obtain ⟨cc, hcc⟩ := code_ref F
  have nd := scCharter_rule_names.nd
  refine ⟨fd, fn_data (k := 0) F hcc scCharter_rule_names rfl (fun A outer s H E hr => ⟨rCharter_rule_names, ?_, MCharter_rule_names⟩), F.bindsN (ps := ["self"]) fun _ _ _ _ _ _ us hl => match us, hl with | [_], _ => rfl⟩
  exact (ds_one (ds_ret (de_callTy dcl_tuple (by rfl) T.free_tuple (by decide +kernel) (da_consW (de_lc (own := [("rule", 1)]) (tt := dYes) (te := (dBin gIx (dVarB 1) (dC (.int 1)))) rfl nd (di_val (de_fld (C := "Charter") (vV 0) T.cls_Charter T.noat_Charter_rules)) (blkOk_by (own := [("rule", 1)]) (N := NCharter_rule_names) (sc := defScope sCharter_rule_names) (by decide +kernel)) rfl (fun _ _ _ _ _ => pg_name (i := 1) nd rfl (by first | exact Or.inl rfl | exact Or.inr rfl)) (fun _ _ _ _ _ => dts_nil) (fun _ _ _ _ _ => (de_ix (vB 1) de_int (fun _ _ => rfl)))) dw_nil))))
theorem scCharter_with_rule : FnScope NCharter_with_rule ["self", "rule"] (defScope sCharter_with_rule) := ⟨rfl, rfl, rfl, by decide +kernel, rfl, by decide +kernel, by decide +kernel⟩
theorem DCharter_with_rule (T : Tx w K mg base) : ∃ fd, FnOk R.prog w K mg base (L2.CX R.prog w) 8 (He.fAd K ("Charter", some "with_rule")) fd ["self", "rule"] (spD K (Tz K) 2 ph_Charter_with_rule) ∧ Binds K fd ["self", "rule"] [] ∧ PySem.W.keepIn K (.ref (He.fAd K ("Charter", some "with_rule"))) = true := by
  obtain ⟨fd, F⟩ := T.F_Charter_with_rule
  obtain ⟨fd__put, G__put, b__put, k__put⟩ := D_put T
  obtain ⟨fdI, GI, FI⟩ := ok_init (P := R.prog) T
  obtain ⟨mv, kb⟩ := kb_all FI
  have nd := scCharter_with_rule.nd
  refine ⟨fd, fn_data (k := 7) F (codeOf_at (p := ("Charter", some "with_rule")) F) scCharter_with_rule rfl (fun A outer s H E hr => ⟨rCharter_with_rule, ?_, MCharter_with_rule⟩), F.bindsN (ps := ["self", "rule"]) fun _ _ _ _ _ _ us hl => match us, hl with | [_, _], _ => rfl, F.kp⟩
  exact (ds_cons (ds_set (i := 2) nd rfl (by first | exact Or.inl rfl | exact Or.inr rfl) (de_call G__put (hr.mono (by decide)) rfl T.glo__put k__put b__put (Ps.of (takes_of rfl rfl rfl rfl)) (da_cons (de_fld (C := "Charter") (vV 0) T.cls_Charter T.noat_Charter_rules) (da_cons de_int (da_cons (vV 1) da_nil)))))
      (ds_one (ds_ret (de_mkC T.mkr_Charter GI (hr.mono (by decide)) rfl T.glo_Charter kb (passX (takes_of rfl rfl rfl rfl)) (dk_cons (de_fld (C := "Charter") (vV 0) T.cls_Charter T.noat_Charter_rights) (dk_cons (de_fld (C := "Charter") (vV 0) T.cls_Charter T.noat_Charter_sole) (dk_cons (de_fld (C := "Charter") (vV 0) T.cls_Charter T.noat_Charter_founders) (dk_cons (vV 2) dk_nil))))))))
theorem scCharter_without_rules : FnScope NCharter_without_rules ["self", "names"] (defScope sCharter_without_rules) := ⟨rfl, rfl, rfl, by decide +kernel, rfl, by decide +kernel, by decide +kernel⟩
theorem DCharter_without_rules (T : Tx w K mg base) : ∃ fd, FnOk R.prog w K mg base (L2.CX R.prog w) 8 (He.fAd K ("Charter", some "without_rules")) fd ["self", "names"] (spD K (Tz K) 2 ph_Charter_without_rules) ∧ Binds K fd ["self", "names"] [] ∧ PySem.W.keepIn K (.ref (He.fAd K ("Charter", some "without_rules"))) = true := by
  obtain ⟨fd, F⟩ := T.F_Charter_without_rules
  obtain ⟨fd_Charter_rule_names, G_Charter_rule_names, b_Charter_rule_names⟩ := DCharter_rule_names T
  obtain ⟨fdx_UnknownName, FX_UnknownName, ox_UnknownName, iC_UnknownName, tI_UnknownName, bx_UnknownName⟩ := X_UnknownName T
  obtain ⟨fdI, GI, FI⟩ := ok_init (P := R.prog) T
  obtain ⟨mv, kb⟩ := kb_all FI
  have nd := scCharter_without_rules.nd
  refine ⟨fd, fn_data (k := 7) F (codeOf_at (p := ("Charter", some "without_rules")) F) scCharter_without_rules rfl (fun A outer s H E hr => ⟨rCharter_without_rules, ?_, MCharter_without_rules⟩), F.bindsN (ps := ["self", "names"]) fun _ _ _ _ _ _ us hl => match us, hl with | [_, _], _ => rfl, F.kp⟩
  exact (ds_cons (ds_for (passes_of rfl) rfl (di_val (vV 1)) (dg_name (i := 2) nd rfl (by first | exact Or.inl rfl | exact Or.inr rfl)) (ds_one (ds_if (dt_cmp dop_nin (vB 2) (de_prop (C := "Charter") (vV 0) T.cls_Charter T.P_Charter_rule_names.1 G_Charter_rule_names (hr.mono (by decide)) b_Charter_rule_names) (by rfl)) (ds_one (ds_raise1 (C := "UnknownName") (f := "name") rfl (takes_of rfl rfl rfl rfl) ox_UnknownName iC_UnknownName tI_UnknownName FX_UnknownName (fun d v H A a hd r => fmt_ok (by decide +kernel) hd r a) (hr.mono (by decide)) bx_UnknownName rfl T.glo_UnknownName (vV 2))) ds_nil)))
      (ds_cons (ds_setLc (j := 3) (own := [("rule", 4)]) (tt := (dTst (dBin gNin (dBin gIx (dVarB 4) (dC (.int 1))) (dVarB 1)))) (te := (dVar 4)) rfl nd rfl rfl (sw_true rfl rfl rfl (by decide +kernel)) (di_val (de_fld (C := "Charter") (vV 0) T.cls_Charter T.noat_Charter_rules)) (blkOk_by (own := [("rule", 4)]) (N := NCharter_without_rules) (sc := defScope sCharter_without_rules) (by decide +kernel)) rfl (fun _ _ _ _ _ => pg_name (i := 4) nd rfl (by first | exact Or.inl rfl | exact Or.inr rfl)) (fun _ _ _ _ _ => dts_one (dt_cmp dop_nin (de_ix (vB 4) de_int (fun _ _ => rfl)) (vB 1) (by rfl))) (fun _ _ _ _ _ => (vV 4)))
      (ds_one (ds_ret (de_mkC T.mkr_Charter GI (hr.mono (by decide)) rfl T.glo_Charter kb (passX (takes_of rfl rfl rfl rfl)) (dk_cons (de_fld (C := "Charter") (vV 0) T.cls_Charter T.noat_Charter_rights) (dk_cons (de_fld (C := "Charter") (vV 0) T.cls_Charter T.noat_Charter_sole) (dk_cons (de_fld (C := "Charter") (vV 0) T.cls_Charter T.noat_Charter_founders) (dk_cons (vV 3) dk_nil)))))))))
theorem scCharter_with_founder : FnScope NCharter_with_founder ["self", "person", "held"] (defScope sCharter_with_founder) := ⟨rfl, rfl, rfl, by decide +kernel, rfl, by decide +kernel, by decide +kernel⟩
theorem DCharter_with_founder (T : Tx w K mg base) : ∃ fd, FnOk R.prog w K mg base (L2.CX R.prog w) 8 (He.fAd K ("Charter", some "with_founder")) fd ["self", "person", "held"] (spD K (Tz K) 3 ph_Charter_with_founder) ∧ Binds K fd ["self", "person", "held"] [] ∧ PySem.W.keepIn K (.ref (He.fAd K ("Charter", some "with_founder"))) = true := by
  obtain ⟨fd, F⟩ := T.F_Charter_with_founder
  obtain ⟨fd__put, G__put, b__put, k__put⟩ := D_put T
  obtain ⟨fdI, GI, FI⟩ := ok_init (P := R.prog) T
  obtain ⟨mv, kb⟩ := kb_all FI
  have nd := scCharter_with_founder.nd
  refine ⟨fd, fn_data (k := 7) F (codeOf_at (p := ("Charter", some "with_founder")) F) scCharter_with_founder rfl (fun A outer s H E hr => ⟨rCharter_with_founder, ?_, MCharter_with_founder⟩), F.bindsN (ps := ["self", "person", "held"]) fun _ _ _ _ _ _ us hl => match us, hl with | [_, _, _], _ => rfl, F.kp⟩
  exact (ds_cons (ds_set (i := 3) nd rfl (by first | exact Or.inl rfl | exact Or.inr rfl) (de_call G__put (hr.mono (by decide)) rfl T.glo__put k__put b__put (Ps.of (takes_of rfl rfl rfl rfl)) (da_cons (de_fld (C := "Charter") (vV 0) T.cls_Charter T.noat_Charter_founders) (da_cons de_int (da_cons (de_tup (da_cons (vV 1) (da_cons (vV 2) da_nil))) da_nil)))))
      (ds_one (ds_ret (de_mkC T.mkr_Charter GI (hr.mono (by decide)) rfl T.glo_Charter kb (passX (takes_of rfl rfl rfl rfl)) (dk_cons (de_fld (C := "Charter") (vV 0) T.cls_Charter T.noat_Charter_rights) (dk_cons (de_fld (C := "Charter") (vV 0) T.cls_Charter T.noat_Charter_sole) (dk_cons (vV 3) (dk_cons (de_fld (C := "Charter") (vV 0) T.cls_Charter T.noat_Charter_rules) dk_nil))))))))
theorem sc_law_made : FnScope N_law_made ["parts"] (defScope s_law_made) := ⟨rfl, rfl, rfl, by decide +kernel, rfl, by decide +kernel, by decide +kernel⟩
theorem D_law_made (T : Tx w K mg base) : ∃ fd, FnOk R.prog w K mg base (L2.CX R.prog w) 8 (He.ga K "_law_made") fd ["parts"] (spD K (Tz K) 1 ph__law_made) ∧ Binds K fd ["parts"] [] ∧ PySem.W.keepIn K (.ref (He.ga K "_law_made")) = true := by
  obtain ⟨fd, F⟩ := T.F__law_made

  obtain ⟨fdI, GI, FI⟩ := ok_init (P := R.prog) T
  obtain ⟨mv, kb⟩ := kb_all FI
  have nd := sc_law_made.nd
  refine ⟨fd, fn_data (k := 7) F (codeOf_at (p := ("_law_made", none)) F) sc_law_made rfl (fun A outer s H E hr => ⟨r_law_made, ?_, M_law_made⟩), F.bindsN (ps := ["parts"]) fun _ _ _ _ _ _ us hl => match us, hl with | [_], _ => rfl, F.kp⟩
  exact (ds_one (ds_ret (de_mkC T.mkr_Charter GI (hr.mono (by decide)) rfl T.glo_Charter kb (passX (takes_of rfl rfl rfl rfl)) (dk_cons (de_callTy dcl_list (by rfl) T.free_list (by decide +kernel) (da_consW (de_ix (vB 0) de_int (fun _ _ => rfl)) dw_nil)) (dk_cons (de_callTy dcl_list (by rfl) T.free_list (by decide +kernel) (da_consW (de_ix (vB 0) de_int (fun _ _ => rfl)) dw_nil)) (dk_cons (de_callTy dcl_list (by rfl) T.free_list (by decide +kernel) (da_consW (de_ix (vB 0) de_int (fun _ _ => rfl)) dw_nil)) (dk_cons (de_callTy dcl_list (by rfl) T.free_list (by decide +kernel) (da_consW (de_ix (vB 0) de_int (fun _ _ => rfl)) dw_nil)) dk_nil)))))))
theorem sc_law_answer : FnScope N_law_answer ["charter", "deed", "given", "held"] (defScope s_law_answer) := ⟨rfl, rfl, rfl, by decide +kernel, rfl, by decide +kernel, by decide +kernel⟩
theorem D_law_answer (T : Tx w K mg base) : ∃ fd, FnOk R.prog w K mg base (L2.CX R.prog w) 9 (He.ga K "_law_answer") fd ["charter", "deed", "given", "held"] (spD K (Tz K) 4 ph__law_answer) ∧ Binds K fd ["charter", "deed", "given", "held"] [] ∧ PySem.W.keepIn K (.ref (He.ga K "_law_answer")) = true := by
  obtain ⟨fd, F⟩ := T.F__law_answer
  obtain ⟨fd_Charter_with_rule, G_Charter_with_rule, b_Charter_with_rule, k_Charter_with_rule⟩ := DCharter_with_rule T
  obtain ⟨fd_Charter_without_rules, G_Charter_without_rules, b_Charter_without_rules, k_Charter_without_rules⟩ := DCharter_without_rules T
  obtain ⟨fd_Charter_with_founder, G_Charter_with_founder, b_Charter_with_founder, k_Charter_with_founder⟩ := DCharter_with_founder T
  have nd := sc_law_answer.nd
  refine ⟨fd, fn_data (k := 8) F (codeOf_at (p := ("_law_answer", none)) F) sc_law_answer rfl (fun A outer s H E hr => ⟨r_law_answer, ?_, M_law_answer⟩), F.bindsN (ps := ["charter", "deed", "given", "held"]) fun _ _ _ _ _ _ us hl => match us, hl with | [_, _, _, _], _ => rfl, F.kp⟩
  exact (ds_cons (ds_tryAs0 (C := "InvalidCharter") (i := 4) rfl rfl nd rfl rfl ⟨rfl, by decide, .inl T.glo_InvalidCharter⟩ (takes_of rfl rfl rfl rfl) (hem_InvalidCharter T)
      (fun W pn xe tk _ => (ds_one (ds_if (dt_cmp (dop_eq hr.units) (vB 1) de_int (nomark _)) (ds_one (ds_set (i := 5) nd rfl (by first | exact Or.inl rfl | exact Or.inr rfl) (de_meth (C := "Charter") (vV 0) T.cls_Charter T.meth_Charter_with_rule G_Charter_with_rule (hr.mono (by decide)) b_Charter_with_rule (Ps.of tk) (da_cons (vV 2) da_nil)))) (ds_one (ds_if (dt_cmp (dop_eq hr.units) (vB 1) de_int (nomark _)) (ds_one (ds_set (i := 5) nd rfl (by first | exact Or.inl rfl | exact Or.inr rfl) (de_meth (C := "Charter") (vV 0) T.cls_Charter T.meth_Charter_without_rules G_Charter_without_rules (hr.mono (by decide)) b_Charter_without_rules (Ps.of tk) (da_cons (vV 2) da_nil)))) (ds_one (ds_set (i := 5) nd rfl (by first | exact Or.inl rfl | exact Or.inr rfl) (de_meth (C := "Charter") (vV 0) T.cls_Charter T.meth_Charter_with_founder G_Charter_with_founder (hr.mono (by decide)) b_Charter_with_founder (Ps.of tk) (da_cons (vV 2) (da_cons (vV 3) da_nil))))))))))
      (fun a oe pn hz hf => (ds_one (ds_ret (de_ix (de_lst (da_cons de_str (da_cons de_str da_nil))) (de_callTy dcl_int (by rfl) T.free_int (by decide +kernel) (da_consW (de_and (de_isx0 (C := "InvalidCharter") T.xc_InvalidCharter.2 hz hf rfl (by first | exact Or.inl rfl | exact Or.inr (Or.inl rfl) | exact Or.inr (Or.inr rfl)) rfl T.free_isinstance (by decide +kernel) (pe_bltn (v := .ty "ValueError") rfl T.free_ValueError rfl rfl) (fun _ h => h) T.kit_InvalidCharter_ValueError) (de_one (de_not (de_isx0 (C := "InvalidCharter") T.xc_InvalidCharter.2 hz hf rfl (by first | exact Or.inl rfl | exact Or.inr (Or.inl rfl) | exact Or.inr (Or.inr rfl)) rfl T.free_isinstance (by decide +kernel) (pe_glob (v := .ref (He.ga K "UnknownName")) rfl T.glo_UnknownName rfl) (fun _ h => h) T.kit_InvalidCharter_UnknownName)))) dw_nil)) (fun _ _ => rfl))))))
      (ds_one (ds_ret (de_lst (da_cons (de_fld (C := "Charter") (vV 5) T.cls_Charter T.noat_Charter_rights) (da_cons (de_fld (C := "Charter") (vV 5) T.cls_Charter T.noat_Charter_sole) (da_cons (de_fld (C := "Charter") (vV 5) T.cls_Charter T.noat_Charter_founders) (da_cons (de_fld (C := "Charter") (vV 5) T.cls_Charter T.noat_Charter_rules) da_nil))))))))
theorem sc_law_due : FnScope N_law_due ["parts"] (defScope s_law_due) := ⟨rfl, rfl, rfl, by decide +kernel, rfl, by decide +kernel, by decide +kernel⟩
theorem D_law_due (T : Tx w K mg base) : ∃ fd, FnOk R.prog w K mg base (L2.CX R.prog w) 9 (He.ga K "_law_due") fd ["parts"] (spD K (Tz K) 1 ph__law_due) ∧ Binds K fd ["parts"] [] ∧ PySem.W.keepIn K (.ref (He.ga K "_law_due")) = true := by
  obtain ⟨fd, F⟩ := T.F__law_due
  obtain ⟨fd__law_made, G__law_made, b__law_made, k__law_made⟩ := D_law_made T
  obtain ⟨fd__law_frozen, G__law_frozen, b__law_frozen, k__law_frozen⟩ := D_law_frozen T
  have nd := sc_law_due.nd
  refine ⟨fd, fn_data (k := 8) F (codeOf_at (p := ("_law_due", none)) F) sc_law_due rfl (fun A outer s H E hr => ⟨r_law_due, ?_, M_law_due⟩), F.bindsN (ps := ["parts"]) fun _ _ _ _ _ _ us hl => match us, hl with | [_], _ => rfl, F.kp⟩
  exact (ds_cons (ds_tryOn (C := "InvalidCharter") rfl rfl ⟨rfl, by decide, .inl T.glo_InvalidCharter⟩ (takes_of rfl rfl rfl rfl) (hem_InvalidCharter T)
      (fun W pn xe tk _ => (ds_one (ds_expr (de_call G__law_made (hr.mono (by decide)) rfl T.glo__law_made k__law_made b__law_made (Ps.of tk) (da_cons (vV 0) da_nil)))))
      (fun a oe pn => (ds_one (ds_ret de_str))))
      (ds_cons (ds_set (i := 1) nd rfl (by first | exact Or.inl rfl | exact Or.inr rfl) (de_call G__law_frozen (hr.mono (by decide)) rfl T.glo__law_frozen k__law_frozen b__law_frozen (Ps.of (takes_of rfl rfl rfl rfl)) (da_cons (vV 0) da_nil)))
      (ds_one (ds_ret (de_lst (da_cons (de_ix (vB 1) de_int (fun _ _ => rfl)) (da_cons (de_ix (vB 1) de_int (fun _ _ => rfl)) (da_cons (de_ix (vB 1) de_int (fun _ _ => rfl)) (da_cons (de_ix (vB 1) de_int (fun _ _ => rfl)) da_nil)))))))))
end
end K8

-- part KL
set_option Elab.async false
set_option linter.all false
set_option maxRecDepth 100000
set_option maxHeartbeats 2000000
namespace K8
open PySem PySem.Spec PyProof.Rows L2 GxR GS GA GD DL
local macro_rules | `(tactic| walk_at "ev") => `(tactic| simp (dsimp := false) only [k0, k1, k2, k3, iK_true, iK_false, iK_not, sl_0, sl_s, vK_va, vK_ow, bK_va, bK_ow, dVar_ev, dVarB_ev, dC_ev, dBin_ev, tK_bl, dTst_ev, dAnd_ev, dOr_ev, dNot_ev, dAndV_ev, dOrV_ev, dNotV_ev, dIf_ev, dNext_ev, dSeq_st, kS_e, dBreak_ev, dCont_ev, dRet_ev, dRetN_ev, dIfS_ev, dSet_ev, dDrop_ev, slOf_fr, slOf_sh, gAdd_i, gAdd_s, gAdd_l, gAdd_t, num_i, gEq_i, gEq_s, gEq_b, gEq_sn, gEq_ns, gEq_in, gEq_ni, gEq_nn, gEq_is, gEq_si, gNe_i, gNe_s, gNe_b, gNe_sn, gNe_ns, gNe_in, gNe_ni, gNe_nn, gEq_l, gEq_t, gNe_l, gNe_t,
    gIsN_n, gIsN_s, gIsN_i, gIsN_l, gIsN_t, gNotN_n, gNotN_s, gNotN_i, gNotN_l, gNotN_t, gIn_l, gIn_t, gNin_l, gNin_t, flD_s, flD_i, flD_n, flD_str, flD_int, has_strs, gIx_l, gIx_t, gIx_s, DL.at0, at1, at2, at3, at4, at5, dNoPart_ev, pK_i, dPart_ev, sK_l, sK_r, sK_t, sK_s, dSl_ev, dNil_ev, dCons_ev, dConsW_ev, itsD_l, itsD_t, dStar_ev, dLst_ev, dTup_ev, dBlt_ev, gLen_l, gLen_t, gLen_r, gLen_s, gInt_i, gInt_b, gAbs_i, gMax_i, gMin_i, gTuple_l, gTuple_t, gList_l, gList_t, oW_ow, owAt_ev, decide_true, decide_false, Bool.not_true, Bool.not_false, gRepr_1, dStarT_ev, dRepl_ev, f_rights, f_sole, f_founders, f_rules, dMkC_ev, dTryAs0_ev, dTryOn_ev, dIsx0_ev, xnK_x, dIdx_ev, liK_l, has_two, stK_l, gTimes_s, zK_s, dSplit_ev, dJoin_ev, dInTab_ev, dIxTab_ev, gInD_l, gInS_s, gNinS_s, chK_b, dChn_ev, is_tt, is_ll, is_tn, is_bn, dTryAs_ev, dXf_ev, dIsx_ev, xK_x, dRaise1_ev, dIsi_ev, is_ss, is_sl, is_st, is_bb, dProp_ev, prK_i, xc_c, xc_a, dApp_ev, dStI_ev, wK_sh, wK_fr, wK_bo, wK_t, wK_r, wK_s, diVal_ev, rK_i, diRng_ev, eK_sh, eK_fr, eK_bo, diEnum_ev, dgName_ev, dgNil_ev, dgCons_ev, dgTup_ev, dAsg_ev, dFor_ev, dWhile_ev, dLc_ev, dGen_ev, dCall_ev, mK_i, dMeth_ev, fK_i, dFld_ev, nK_i, dNeg_ev, dYes_ev, oK_some, List.length_map, rng_len, Int.toNat_natCast,
    List.map_cons, List.map_nil, List.length_cons, List.length_nil, List.length_set, List.replicate_succ, List.replicate_zero, List.nil_append, List.cons_append, List.set_cons_zero, List.set_cons_succ, Nat.reduceAdd, Nat.reduceSub, ne_eq, reduceCtorEq, not_false_eq_true, not_true_eq_false, true_and, and_true, Nat.reduceLT, Nat.reduceLeDiff, Nat.zero_le, Bool.false_eq_true])
local macro_rules | `(tactic| walk_at "st") => `(tactic| simp (dsimp := false) only [k0, k1, k2, k3, iK_true, iK_false, iK_not, sl_0, sl_s, vK_va, vK_ow, bK_va, bK_ow, dVar_ev, dVarB_ev, dC_ev, dBin_ev, tK_bl, dTst_ev, dAnd_ev, dOr_ev, dNot_ev, dAndV_ev, dOrV_ev, dNotV_ev, dIf_ev, dNext_ev, dSeq_st, kS_e, dBreak_ev, dCont_ev, dRet_ev, dRetN_ev, dSet_ev, dDrop_ev, slOf_fr, slOf_sh, gAdd_i, gAdd_s, gAdd_l, gAdd_t, num_i, gEq_i, gEq_s, gEq_b, gEq_sn, gEq_ns, gEq_in, gEq_ni, gEq_nn, gEq_is, gEq_si, gNe_i, gNe_s, gNe_b, gNe_sn, gNe_ns, gNe_in, gNe_ni, gNe_nn, gEq_l, gEq_t, gNe_l, gNe_t,
    gIsN_n, gIsN_s, gIsN_i, gIsN_l, gIsN_t, gNotN_n, gNotN_s, gNotN_i, gNotN_l, gNotN_t, gIn_l, gIn_t, gNin_l, gNin_t, flD_s, flD_i, flD_n, flD_str, flD_int, has_strs, gIx_l, gIx_t, gIx_s, DL.at0, at1, at2, at3, at4, at5, dNoPart_ev, pK_i, dPart_ev, sK_l, sK_r, sK_t, sK_s, dSl_ev, dNil_ev, dCons_ev, dConsW_ev, itsD_l, itsD_t, dStar_ev, dLst_ev, dTup_ev, dBlt_ev, gLen_l, gLen_t, gLen_r, gLen_s, gInt_i, gInt_b, gAbs_i, gMax_i, gMin_i, gTuple_l, gTuple_t, gList_l, gList_t, oW_ow, owAt_ev, decide_true, decide_false, Bool.not_true, Bool.not_false, gRepr_1, dStarT_ev, dRepl_ev, f_rights, f_sole, f_founders, f_rules, dMkC_ev, dTryAs0_ev, dTryOn_ev, dIsx0_ev, xnK_x, dIdx_ev, liK_l, has_two, stK_l, gTimes_s, zK_s, dSplit_ev, dJoin_ev, dInTab_ev, dIxTab_ev, gInD_l, gInS_s, gNinS_s, chK_b, dChn_ev, is_tt, is_ll, is_tn, is_bn, dTryAs_ev, dXf_ev, dIsx_ev, xK_x, dRaise1_ev, dIsi_ev, is_ss, is_sl, is_st, is_bb, dProp_ev, prK_i, xc_c, xc_a, dApp_ev, dStI_ev, wK_sh, wK_fr, wK_bo, wK_t, wK_r, wK_s, diVal_ev, rK_i, diRng_ev, eK_sh, eK_fr, eK_bo, diEnum_ev, dgName_ev, dgNil_ev, dgCons_ev, dgTup_ev, dAsg_ev, dFor_ev, dWhile_ev, dLc_ev, dGen_ev, dCall_ev, mK_i, dMeth_ev, fK_i, dFld_ev, nK_i, dNeg_ev, dYes_ev, oK_some, List.length_map, rng_len, Int.toNat_natCast,
    List.map_cons, List.map_nil, List.length_cons, List.length_nil, List.length_set, List.replicate_succ, List.replicate_zero, List.nil_append, List.cons_append, List.set_cons_zero, List.set_cons_succ, Nat.reduceAdd, Nat.reduceSub, ne_eq, reduceCtorEq, not_false_eq_true, not_true_eq_false, true_and, and_true, Nat.reduceLT, Nat.reduceLeDiff, Nat.zero_le, Bool.false_eq_true])
theorem m0 (x : Int) {c : Int} (h : 0 < c) : 0 ≤ x % c ∧ x % c < c := ⟨Int.emod_nonneg _ (by omega), Int.emod_lt_of_pos _ h⟩
theorem getD_at {l : List Str} {j : Nat} (h : j < l.length) : l[j]? = some (l.getD j ⟨#[]⟩) := by
  rw [List.getD_eq_getElem?_getD, List.getElem?_eq_getElem h]
  rfl
theorem gDa {pa : Pa} : dPa pa = .tup [dL pa.rights, dL pa.sole, .lst (pa.founders.map dFl), .lst (pa.rules.map dRl)] := rfl
theorem nm12 {s : Str} (h : isName s = true) : s.length ≤ 12 := by
  have h := (Bool.and_eq_true _ _ ▸ (Bool.and_eq_true _ _ ▸ h).1).2
  exact of_decide_eq_true h
theorem bz_of {pa : Pa} (h : PaOk pa) : Bz pa where
  r := ⟨by have := h.r6.2; omega, fun x hx => by have := nm12 (h.rok x hx); omega⟩
  s := by have := h.sl; omega
  f := ⟨by have := h.fl; omega, fun f hf => by have h1 := nm12 (h.fok f hf).1; have h2 := (h.fok f hf).2.2.2; omega⟩
  u := ⟨by have := h.rl; omega, fun r hr => by have h1 := nm12 (h.rnk r hr); have h2 := hp_len (hp_of (h.rul r hr).1); exact ⟨by omega, by omega, (h.rul r hr).2⟩⟩
theorem ord_len (R l : List Str) : (ord R l).length ≤ R.length := List.length_filter_le ..
theorem ruok_fr {R : List Str} {r : Ru} (l : R.length ≤ 40) (h : RuOk R r) : RuOk R (frR R r) := by
  have hn : Ru.n (frR R r) = Ru.n r := by
    unfold Ru.n frR
    dsimp only
    rw [List.length_map]
  refine ⟨fun hp => h.join (by rw [hn] at hp; exact hp), fun l' hl => ?_⟩
  obtain ⟨l0, _, rfl⟩ := List.mem_map.mp hl
  have := ord_len R l0
  omega
theorem bz_fz {pa : Pa} (h : PaOk pa) : Bz (paOf (fzn pa)) where
  r := (bz_of h).r
  s := Nat.le_trans (ord_len ..) (by have := h.r6.2; omega)
  f := ⟨by show (pa.founders.map (frF pa.rights)).length ≤ 40; rw [List.length_map]; have := h.fl; omega, fun f hf => by
    obtain ⟨g, hg, rfl⟩ := List.mem_map.mp hf
    have h1 := nm12 (h.fok g hg).1
    have h2 := ord_len pa.rights g.2
    have h3 := h.r6.2
    exact ⟨by show g.1.length ≤ 1000; omega, by show (ord pa.rights g.2).length ≤ 40; omega⟩⟩
  u := ⟨by show (pa.rules.map (frR pa.rights)).length ≤ 40; rw [List.length_map]; have := h.rl; omega, fun r hr => by
    obtain ⟨g, hg, rfl⟩ := List.mem_map.mp hr
    have h1 := (bz_of h).u.2 g hg
    exact ⟨h1.1, by show (g.ls.map (ord pa.rights)).length ≤ 6; rw [List.length_map]; exact h1.2.1, ruok_fr (by show pa.rights.length ≤ 40; have := h.r6.2; omega) h1.2.2⟩⟩
theorem bz_ru {R S : List Str} {F : List (Str × List Str)} {U : List Ru} {r : Ru} (h : Bz ⟨R, S, F, U⟩) (l : U.length ≤ 20) (hr : r.name.length ≤ 1000 ∧ r.ls.length ≤ 6 ∧ RuOk R r) : Bz ⟨R, S, F, putBy (·.name) U r⟩ :=
  ⟨h.r, h.s, h.f, Nat.le_trans put_len (by omega), fun x hx => (put_mem hx).elim (fun z => h.u.2 x z) fun z => z ▸ hr⟩
theorem bz_fd {R S : List Str} {F : List (Str × List Str)} {U : List Ru} {f : Str × List Str} (h : Bz ⟨R, S, F, U⟩) (l : F.length ≤ 20) (hf : f.1.length ≤ 1000 ∧ f.2.length ≤ 40) : Bz ⟨R, S, putBy (·.1) F f, U⟩ :=
  ⟨h.r, h.s, ⟨Nat.le_trans put_len (by omega), fun x hx => (put_mem hx).elim (fun z => h.f.2 x z) fun z => z ▸ hf⟩, h.u⟩
theorem in_ru (U : List Ru) (r : Ru) : ((putBy Prod.fst (U.map fun r => (r.name, dRl r)) (r.name, dRl r)).map (·.2)) = (putBy (·.name) U r).map dRl := by
  have h := putBy_map (f := fun r : Ru => (r.name, dRl r)) (k := Prod.fst) U r (·.name) fun _ => rfl
  have h2 := congrArg (List.map (fun x : Str × D => x.2)) h
  rw [List.map_map] at h2
  exact h2.symm
theorem in_fd (U : List (Str × List Str)) (f : Str × List Str) : ((putBy Prod.fst (U.map fun f => (f.1, dFl f)) (f.1, dFl f)).map (·.2)) = (putBy (·.1) U f).map dFl := by
  have h := putBy_map (f := fun f : Str × List Str => (f.1, dFl f)) (k := Prod.fst) U f (·.1) fun _ => rfl
  have h2 := congrArg (List.map (fun x : Str × D => x.2)) h
  rw [List.map_map] at h2
  exact h2.symm
theorem outL {ws : List Str} (rs : List Ru) : (rs.map dRl).filter (outP ws) = (rs.filter fun r => !ws.contains r.name).map dRl := by
  rw [List.filter_map]
  rfl
theorem gRl {r : Ru} {R : D → Kd → Prop} {i : Int} : gIx (dRl r) (.int i) R = oK (atI (.str r.kind :: .str r.name :: (r.ls.map dL ++ r.right.toList.map .str)) i) (kk fun z => R z .sh) := rfl
theorem gNin_dL {d : D} {l : List Str} {R : D → Kd → Prop} : gNin d (dL l) R = gNin d (.lst (l.map .str)) R := rfl
theorem gIx_dL {d : D} {l : List Str} {R : D → Kd → Prop} : gIx (dL l) d R = gIx (.lst (l.map .str)) d R := rfl
theorem sw_one (l : List Str) (x : Str) : l.map D.str ++ [D.str x] = (l ++ [x]).map D.str := by rw [List.map_append]; rfl
theorem lcK_sel {ds : List D} {i : Nat} {c : DT} {te : DE} {ρ : List Sl} {Q : List D → Prop} (p : D → Bool) (hz : ds.length ≤ sizeLine)
    (hs : ∀ x ∈ ds, ∀ o : Option D, o = (if p x = true then some x else none) → c X0 (ρ.set i (.va x)) (kk fun b ρ2 => iK b (te X0 ρ2 (kk fun z κ ρ3 => κ ≠ .bo ∧ ρ3 = ρ.set i (.va x) ∧ o = some z)) (o = none))) (hq : Q (ds.filter p)) : lcK ds i c te ρ Q := by
  have h := lcK.map (Q := Q) (f := id) (xs := ds) (fun _ _ h => h) p id hz hs (by rw [List.map_id]; exact hq)
  rw [List.map_id] at h
  exact h
theorem put_in {α : Type} {key : α → Str} {rs : List α} {n : α} : n ∈ putBy key rs n := by
  unfold putBy
  split
  · rename_i h
    obtain ⟨y, hy, e⟩ := List.mem_map.mp (List.contains_iff_mem.mp h)
    exact List.mem_map.mpr ⟨y, hy, if_pos e⟩
  · exact List.mem_append_right _ (List.mem_singleton.mpr rfl)
theorem no_lend {R S : List Str} {F : List (Str × List Str)} {U : List Ru} {n : Str} : mkCharter R S F (putBy (·.name) U ⟨"lend", n, [[]], none⟩) = none := by
  cases e : mkCharter R S F (putBy (·.name) U ⟨"lend", n, [[]], none⟩) with
  | none => rfl
  | some c =>
    obtain ⟨_, _, _, _, e5, _⟩ := mkCharter_some e
    obtain ⟨k, hk⟩ := kept_each e5 put_in
    have h : hasParts "lend" 2 = true := hp_of hk
    exact absurd h (by decide +kernel)
abbrev Nlaw : List Str := ["script", "numbers", "parts", "due", "charter", "names", "name", "rule", "persons", "person", "held", "gone", "k", "rights", "sole", "founders", "rules", "left", "row", "right", "one"]
def rlaw : DS :=
  (dSeq (dSet 1 (dCall 2 ph__law_numbers (dCons (dVar 0) (dCons (dC (.int 136)) dNil))))
  (dSeq (dSet 2 (dCall 1 ph__law_parts (dCons (dVar 1) dNil)))
  (dSeq (dSet 3 (dCall 1 ph__law_frozen (dCons (dVar 2) dNil)))
  (dSeq (dSet 4 (dCall 1 ph__law_made (dCons (dVar 2) dNil)))
  (dSeq (dAsg (dVar 2) (dgTup 4 (dgCons (dgName 13) (dgCons (dgName 14) (dgCons (dgName 15) (dgCons (dgName 16) dgNil))))))
  (dSeq (dSet 5 (dCall 3 ph__law_names (dCons (dVar 1) (dCons (dC (.int 20)) (dCons (dBin gAdd (dBlt gLen (dConsW (dVarB 16) dNil)) (dC (.int 1))) dNil)))))
  (dSeq (dSet 6 (dBin gIx (dVarB 5) (dBin gMod (dBlt gInt (dConsW (dBin gIx (dVarB 1) (dC (.int 110))) dNil)) (dBin gAdd (dBlt gLen (dConsW (dVarB 16) dNil)) (dC (.int 1))))))
  (dSeq (dSet 7 (dCall 5 ph__law_rule (dCons (dVar 1) (dCons (dC (.int 112)) (dCons (dVar 6) (dCons (dVar 13) (dCons (dBin gIx (dLst (dCons (dVar 14) (dCons (dLst dNil) dNil))) (dBlt gInt (dConsW (dBin gEq (dBin gMod (dBlt gInt (dConsW (dBin gIx (dVarB 1) (dC (.int 111))) dNil)) (dC (.int 4))) (dC (.int 1))) dNil))) dNil)))))))
  (dSeq (dSet 8 (dCall 3 ph__law_names (dCons (dVar 1) (dCons (dC (.int 8)) (dCons (dBin gAdd (dBlt gLen (dConsW (dVarB 15) dNil)) (dC (.int 1))) dNil)))))
  (dSeq (dSet 9 (dBin gIx (dVarB 8) (dBin gMod (dBlt gInt (dConsW (dBin gIx (dVarB 1) (dC (.int 118))) dNil)) (dBin gAdd (dBlt gLen (dConsW (dVarB 15) dNil)) (dC (.int 1))))))
  (dSeq (dSet 10 (dCall 3 ph__law_some (dCons (dVar 13) (dCons (dBin gIx (dVarB 1) (dC (.int 119))) (dCons (dLst dNil) dNil)))))
  (dSeq (dIfS (dTst (dBin gGt (dBin gMod (dBlt gInt (dConsW (dBin gIx (dVarB 1) (dC (.int 120))) dNil)) (dC (.int 3))) (dC (.int 0)))) (dSet 10 (dLc (diVal (dVarB 10)) 19 (dTst (dBin gNin (dVarB 19) (dVarB 14))) (dVar 19))) dNext)
  (dSeq (dIfS (dTst (dBin gEq (dBin gMod (dBlt gInt (dConsW (dBin gIx (dVarB 1) (dC (.int 120))) dNil)) (dC (.int 7))) (dC (.int 1)))) (dSet 10 (dBin gAdd (dVarB 10) (dLst (dCons (dBin gIx (dVarB 13) (dC (.int 0))) dNil)))) dNext)
  (dSeq (dSet 11 (dLc (diRng (dConsW (dBin gMod (dBlt gInt (dConsW (dBin gIx (dVarB 1) (dC (.int 121))) dNil)) (dC (.int 5))) dNil)) 12 (dTst (dBin gGt (dBlt gLen (dConsW (dVarB 16) dNil)) (dC (.int 0)))) (dBin gIx (dBin gIx (dVarB 16) (dBin gMod (dBlt gInt (dConsW (dBin gIx (dVarB 1) (dBin gAdd (dC (.int 122)) (dVarB 12))) dNil)) (dBlt gLen (dConsW (dVarB 16) dNil)))) (dC (.int 1)))))
  (dSeq (dFor (diRng (dConsW (dC (.int 2)) dNil)) (dgName 12) (dSeq (dIfS (dTst (dBin gNe (dCall 4 ph__law_answer (dCons (dVar 4) (dCons (dC (.int 0)) (dCons (dVar 7) (dCons (dLst dNil) dNil))))) (dCall 1 ph__law_due (dCons (dTup (dCons (dVar 13) (dCons (dVar 14) (dCons (dVar 15) (dCons (dCall 4 ph__law_in (dCons (dVar 16) (dCons (dVar 6) (dCons (dVar 7) (dCons (dC (.int 1)) dNil))))) dNil))))) dNil)))) (dRet (dC (.bl false))) dNext)
  (dSeq (dSet 17 (dLc (diVal (dVarB 16)) 20 (dTst (dBin gNin (dBin gIx (dVarB 20) (dC (.int 1))) (dVarB 11))) (dVar 20)))
  (dSeq (dIfS (dTst (dBin gNe (dCall 4 ph__law_answer (dCons (dVar 4) (dCons (dC (.int 1)) (dCons (dBlt gList (dConsW (dVarB 11) dNil)) (dCons (dLst dNil) dNil))))) (dCall 1 ph__law_due (dCons (dTup (dCons (dVar 13) (dCons (dVar 14) (dCons (dVar 15) (dCons (dVar 17) dNil))))) dNil)))) (dRet (dC (.bl false))) dNext)
  (dSeq (dSet 18 (dCall 4 ph__law_in (dCons (dVar 15) (dCons (dVar 9) (dCons (dTup (dCons (dVar 9) (dCons (dVar 10) dNil))) (dCons (dC (.int 0)) dNil))))))
  (dSeq (dIfS (dTst (dBin gNe (dCall 4 ph__law_answer (dCons (dVar 4) (dCons (dC (.int 2)) (dCons (dVar 9) (dCons (dBlt gList (dConsW (dVarB 10) dNil)) dNil))))) (dCall 1 ph__law_due (dCons (dTup (dCons (dVar 13) (dCons (dVar 14) (dCons (dVar 18) (dCons (dVar 16) dNil))))) dNil)))) (dRet (dC (.bl false))) dNext)
  (dIfS (dNot (dTst (dCall 2 ph__law_same (dCons (dVar 4) (dCons (dVar 3) dNil))))) (dRet (dC (.bl false))) dNext)))))))
  (dRet (dBin gEq (dCall 4 ph__law_answer (dCons (dVar 4) (dCons (dC (.int 0)) (dCons (dTup (dCons (dC (.str "lend")) (dCons (dVar 6) (dCons (dLst dNil) dNil)))) (dCons (dLst dNil) dNil))))) (dC (.str "invalid")))))))))))))))))))
/- theorem Mlaw : MD rlaw 1 21 phlaw := fun ds Qd Xd h hl => by -/
def ph_law : Ph := fun ds Qd _ => ∃ (d : D) (cs : List Int), ds = [d] ∧ (d = .scr cs ∨ d = .lst (cs.map .int)) ∧ (∀ c ∈ cs, c.natAbs.log2 < 4000000) ∧ cs.length ≤ 63 ∧ Qd (.bl true)
theorem Mlaw : MD rlaw 1 21 ph_law := fun ds Qd Xd h hl => by
  obtain ⟨d, cs, rfl, hd, hcs, hl2, q⟩ := h
  unfold rlaw
  walk_at "st"
  refine ⟨d, cs, 136, rfl, hd, hcs, hl2, by decide, fun ns hn h9 => ?_⟩
  have r9 := fun j => nu_in9 h9 j
  walk_at "st"
  refine ⟨ns, rfl, hn, h9, ?_⟩
  have ok := parts_ok ns
  generalize lawParts ns = pa at ok
  have hb := bz_of ok
  have R6 := ok.r6
  have mk := made ok
  walk_at "st"
  refine ⟨pa, rfl, hb, ?_⟩
  walk_at "st"
  refine ⟨pa, rfl, hb, ?_⟩
  unfold Mk1
  rw [mk]
  walk_at "st"
  simp (dsimp := false) only [gDa]
  walk_at "st"
  have lU := ok.rl
  have lF := ok.fl
  refine ⟨ns, 20, pa.rules.length + 1, rfl, hn, h9, by decide, by omega, ?_⟩
  walk_at "st"
  have z1 := m0 (nu ns 110) (show (0 : Int) < (pa.rules.length : Int) + 1 by omega)
  refine oK.mk (atn (j := 110) rfl (by omega)) ?_
  walk_at "st"
  have ln := lawNames_len ns 20 (pa.rules.length + 1)
  have on := lawNames_ok ns 20 (pa.rules.length + 1)
  generalize lawNames ns 20 (pa.rules.length + 1) = n5 at ln on
  have l1 : (nu ns 110 % ((pa.rules.length : Int) + 1)).toNat < n5.length := by omega
  refine ⟨by omega, oK.mk (st_ix (j := (nu ns 110 % ((pa.rules.length : Int) + 1)).toNat) (by omega) l1) ?_⟩
  have hname := on _ (List.mem_of_getElem? (getD_at l1))
  generalize n5.getD (nu ns 110 % ((pa.rules.length : Int) + 1)).toNat ⟨#[]⟩ = name at hname
  walk_at "st"
  refine ⟨by decide, oK.mk (atn (j := 111) rfl (by omega)) ?_⟩
  walk_at "st"
  obtain ⟨S', hS', lS', eS⟩ : ∃ S' : List Str, (∀ x ∈ S', x ∈ pa.rights) ∧ S'.length ≤ 6 ∧ atI [dL pa.sole, D.lst []] (if decide (nu ns 111 % 4 = 1) = true then 1 else 0) = some (dL S') := by
    by_cases c : nu ns 111 % 4 = 1
    · rw [if_pos (decide_eq_true c)]
      exact ⟨[], fun x hx => (by cases hx), by decide, DL.at1⟩
    · rw [if_neg (by rw [decide_eq_false c]; decide)]
      exact ⟨pa.sole, ok.sm, ok.sl, DL.at0⟩
  refine ⟨by decide, oK.mk eS ?_⟩
  walk_at "st"
  refine ⟨ns, 112, name, pa.rights, S', rfl, hn, h9, by omega, by omega, by omega, lS', ?_⟩
  have rg := rule_good (ns := ns) (at_ := 112) (name := name) ok.rn (by omega) hS' (by omega)
  have rn : (lawRule ns 112 name pa.rights S').name = name := by
    unfold lawRule
    split
    · rfl
    · dsimp only
      split <;> rfl
  generalize lawRule ns 112 name pa.rights S' = r at rg rn
  have lr6 := hp_len (hp_of rg.1)
  have l12 := nm12 hname
  have hru : r.name.length ≤ 1000 ∧ r.ls.length ≤ 6 ∧ RuOk pa.rights r := ⟨by rw [rn]; omega, lr6, rg.2⟩
  clear eS lS' l1 ln on
  walk_at "st"
  refine ⟨ns, 8, pa.founders.length + 1, rfl, hn, h9, by decide, by omega, ?_⟩
  walk_at "st"
  have z2 := m0 (nu ns 118) (show (0 : Int) < (pa.founders.length : Int) + 1 by omega)
  refine oK.mk (atn (j := 118) rfl (by omega)) ?_
  walk_at "st"
  have ln := lawNames_len ns 8 (pa.founders.length + 1)
  have on := lawNames_ok ns 8 (pa.founders.length + 1)
  generalize lawNames ns 8 (pa.founders.length + 1) = nms at ln on
  have l1 : (nu ns 118 % ((pa.founders.length : Int) + 1)).toNat < nms.length := by omega
  refine ⟨by omega, oK.mk (st_ix (j := (nu ns 118 % ((pa.founders.length : Int) + 1)).toNat) (by omega) l1) ?_⟩
  have hpers := on _ (List.mem_of_getElem? (getD_at l1))
  generalize nms.getD (nu ns 118 % ((pa.founders.length : Int) + 1)).toNat ⟨#[]⟩ = pers at hpers
  have p12 := nm12 hpers
  clear l1 ln on
  walk_at "st"
  refine oK.mk (atn (j := 119) rfl (by omega)) ?_
  walk_at "st"
  refine ⟨pa.rights, [], nu ns 119, rfl, by omega, ?_⟩
  have lh := some_len pa.rights (nu ns 119) []
  generalize lawSome pa.rights (nu ns 119) [] = held at lh
  walk_at "st"
  refine ifJ (decide (0 < nu ns 120 % 3)) (fun ρ => ∃ (held : List Str) (s10 : Sl), ρ = [.va d, .va (.lst (ns.map .int)), .va (.tup [dL pa.rights, dL pa.sole, .lst (pa.founders.map dFl), .lst (pa.rules.map dRl)]), .va (dPz (fzn pa)), .va (dCi (fzn pa)), .va (.lst (n5.map .str)), .va (.str name), .va (dRl r), .va (.lst (nms.map .str)), .va (.str pers), s10, .no, .no, .va (dL pa.rights), .va (dL pa.sole), .va (.lst (pa.founders.map dFl)), .va (.lst (pa.rules.map dRl)), .no, .no, .no, .no] ∧ (s10 = .ow (held.map .str) ∨ s10 = .va (.lst (held.map .str))) ∧ held.length ≤ 6) (fun R r => ?_) (fun K J b => ?_) (fun K J b => ?_) ?_
  · walk_at "ev"
    refine oK.mk (atn (j := 120) rfl (by omega)) ?_
    walk_at "ev"
    exact ⟨by decide, r⟩
  · walk_at "ev"
    refine lcK.map inj_str (fun x => !pa.sole.contains x) .str (by unfold sizeLine; omega) (fun x hx o ho => ?_) ?_
    · walk_at "ev"
      simp (dsimp := false) only [gNin_dL]
      walk_at "ev"
      refine iK_b (fun e => ?_) fun e => ?_
      · rw [e] at ho
        first | exact ho | (walk_at "ev"; exact ho)
      · rw [e] at ho
        walk_at "ev"
        first | exact ho | exact ⟨rfl, ho⟩
    · walk_at "ev"
      exact J _ ⟨held.filter fun x => !pa.sole.contains x, _, rfl, .inl rfl, Nat.le_trans (List.length_filter_le ..) (by omega)⟩
  · walk_at "ev"
    exact J _ ⟨held, _, rfl, .inr rfl, by omega⟩
  clear lh
  clear held
  rintro ρ' ⟨held, s10, rfl, h10, lh⟩
  walk_at "st"
  refine ifJ (decide (nu ns 120 % 7 = 1)) (fun ρ => ∃ (held : List Str) (s10 : Sl), ρ = [.va d, .va (.lst (ns.map .int)), .va (.tup [dL pa.rights, dL pa.sole, .lst (pa.founders.map dFl), .lst (pa.rules.map dRl)]), .va (dPz (fzn pa)), .va (dCi (fzn pa)), .va (.lst (n5.map .str)), .va (.str name), .va (dRl r), .va (.lst (nms.map .str)), .va (.str pers), s10, .no, .no, .va (dL pa.rights), .va (dL pa.sole), .va (.lst (pa.founders.map dFl)), .va (.lst (pa.rules.map dRl)), .no, .no, .no, .no] ∧ (s10 = .ow (held.map .str) ∨ s10 = .va (.lst (held.map .str))) ∧ held.length ≤ 7) (fun R r => ?_) (fun K J b => ?_) (fun K J b => ?_) ?_
  · walk_at "ev"
    refine oK.mk (atn (j := 120) rfl (by omega)) ?_
    walk_at "ev"
    exact ⟨by decide, r⟩
  · rcases h10 with rfl | rfl
    · walk_at "ev"
      simp (dsimp := false) only [gIx_dL]
      walk_at "ev"
      refine oK.mk (st_ix (j := 0) rfl (by omega)) ?_
      walk_at "ev"
      rw [sw_one]
      exact ⟨by decide, by unfold sizeLine; omega, J _ ⟨held ++ [_], _, rfl, .inl rfl, by rw [List.length_append]; show _ + 1 ≤ _; omega⟩⟩
    · walk_at "ev"
      simp (dsimp := false) only [gIx_dL]
      walk_at "ev"
      refine oK.mk (st_ix (j := 0) rfl (by omega)) ?_
      walk_at "ev"
      rw [sw_one]
      exact ⟨by decide, by unfold sizeLine; omega, J _ ⟨held ++ [_], _, rfl, .inl rfl, by rw [List.length_append]; show _ + 1 ≤ _; omega⟩⟩
  · walk_at "ev"
    exact J _ ⟨held, _, rfl, h10, by omega⟩
  clear lh h10
  clear held s10
  rintro ρ' ⟨held, s10, rfl, h10, lh⟩
  walk_at "st"
  have z5 := m0 (nu ns 121) (show (0 : Int) < 5 by decide)
  refine oK.mk (atn (j := 121) rfl (by omega)) ?_
  walk_at "st"
  refine ⟨by decide, by omega, by omega, ?_⟩
  have c5 : (nu ns 121 % 5).toNat ≤ 4 := by omega
  generalize (nu ns 121 % 5).toNat = c at c5
  refine lcK.map (f := fun k : Nat => D.int (k : Int)) (xs := List.range c) (fun x y e => by injection e with e; omega) (fun _ => decide (0 < pa.rules.length)) (fun k => .str ((pa.rules.map (·.name)).getD (nu ns (122 + k) % (pa.rules.length : Int)).toNat ⟨#[]⟩)) (by rw [List.length_range]; unfold sizeLine; omega) (fun k hk o ho => ?_) ?_
  · have hk := List.mem_range.mp hk
    walk_at "ev"
    refine iK_d (fun e => ?_) fun e => ?_
    · rw [decide_eq_true (show 0 < pa.rules.length by omega), if_pos rfl] at ho
      walk_at "ev"
      refine oK.mk (atn (j := 122 + k) (by omega) (by omega)) ?_
      walk_at "ev"
      have zz := m0 (nu ns (122 + k)) (show (0 : Int) < (pa.rules.length : Int) by omega)
      have lj : (nu ns (122 + k) % (pa.rules.length : Int)).toNat < pa.rules.length := by omega
      have hj := getD_at (l := pa.rules.map (·.name)) (j := (nu ns (122 + k) % (pa.rules.length : Int)).toNat) (by rw [List.length_map]; exact lj)
      rw [List.getElem?_map, List.getElem?_eq_getElem lj] at hj
      have hj2 := Option.some.inj hj
      have hx : atI (pa.rules.map dRl) (nu ns (122 + k) % (pa.rules.length : Int)) = some (dRl pa.rules[(nu ns (122 + k) % (pa.rules.length : Int)).toNat]) := at_ix (k := (nu ns (122 + k) % (pa.rules.length : Int)).toNat) (by omega) (List.getElem?_eq_getElem lj)
      generalize pa.rules[(nu ns (122 + k) % (pa.rules.length : Int)).toNat] = r1 at hj2 hx
      refine ⟨by omega, oK.mk hx ?_⟩
      walk_at "ev"
      simp (dsimp := false) only [gRl]
      walk_at "ev"
      rw [ho, ← hj2]
    · rw [decide_eq_false (show ¬ 0 < pa.rules.length by omega), if_neg Bool.false_ne_true] at ho
      exact ho
  have egone : (((List.range c).filter fun _ => decide (0 < pa.rules.length)).map fun k : Nat => D.str ((pa.rules.map (·.name)).getD (nu ns (122 + k) % (pa.rules.length : Int)).toNat ⟨#[]⟩)) = (((List.range c).filter fun _ => decide (0 < pa.rules.length)).map fun k : Nat => (pa.rules.map (·.name)).getD (nu ns (122 + k) % (pa.rules.length : Int)).toNat ⟨#[]⟩).map D.str := by
    rw [List.map_map]
    rfl
  rw [egone]
  have hgone : ∀ w ∈ (((List.range c).filter fun _ => decide (0 < pa.rules.length)).map fun k : Nat => (pa.rules.map (·.name)).getD (nu ns (122 + k) % (pa.rules.length : Int)).toNat ⟨#[]⟩), w ∈ pa.rules.map (·.name) := fun w hw => by
    obtain ⟨k, hk, rfl⟩ := List.mem_map.mp hw
    have hpos := of_decide_eq_true (List.mem_filter.mp hk).2
    have zz := m0 (nu ns (122 + k)) (show (0 : Int) < (pa.rules.length : Int) by omega)
    exact List.mem_of_getElem? (getD_at (by rw [List.length_map]; omega))
  have lgone : (((List.range c).filter fun _ => decide (0 < pa.rules.length)).map fun k : Nat => (pa.rules.map (·.name)).getD (nu ns (122 + k) % (pa.rules.length : Int)).toNat ⟨#[]⟩).length ≤ 4 := by
    rw [List.length_map]
    have := List.length_filter_le (fun _ => decide (0 < pa.rules.length)) (List.range c)
    rw [List.length_range] at this
    omega
  generalize (((List.range c).filter fun _ => decide (0 < pa.rules.length)).map fun k : Nat => (pa.rules.map (·.name)).getD (nu ns (122 + k) % (pa.rules.length : Int)).toNat ⟨#[]⟩) = gone at hgone lgone
  clear egone
  walk_at "st"
  subst rn
  have hf1 := bz_fz ok
  have lfr : (fzn pa).rules.length ≤ 20 := by show (pa.rules.map (frR pa.rights)).length ≤ 20; rw [List.length_map]; omega
  have lff : (fzn pa).founders.length ≤ 20 := by show (pa.founders.map (frF pa.rights)).length ≤ 20; rw [List.length_map]; omega
  have b1 : Bz ⟨pa.rights, pa.sole, pa.founders, putBy (·.name) pa.rules r⟩ := bz_ru hb (by omega) hru
  have b2 : Bz ⟨pa.rights, pa.sole, pa.founders, pa.rules.filter fun r => !gone.contains r.name⟩ := ⟨hb.r, hb.s, hb.f, Nat.le_trans (List.length_filter_le ..) hb.u.1, fun r hr => hb.u.2 r (List.mem_filter.mp hr).1⟩
  have b3 : Bz ⟨pa.rights, pa.sole, putBy (·.1) pa.founders (pers, held), pa.rules⟩ := bz_fd hb (by omega) ⟨by show pers.length ≤ 1000; omega, by show held.length ≤ 40; omega⟩
  have co := ok_made hb mk
  have hnames : ∀ w ∈ gone, w ∈ (fzn pa).rules.map (·.name) := fun w hw => by
    have e : (fzn pa).rules.map (·.name) = pa.rules.map (·.name) := by
      show (pa.rules.map (frR pa.rights)).map _ = _
      rw [List.map_map]
      rfl
    rw [e]
    exact hgone w hw
  refine ⟨by decide, by decide, ?_⟩
  refine forK.rng (n := 2) (fun k ρ => ∃ s10 x12 x17 x18 x19 x20, ρ = [.va d, .va (.lst (ns.map .int)), .va (.tup [dL pa.rights, dL pa.sole, .lst (pa.founders.map dFl), .lst (pa.rules.map dRl)]), .va (dPz (fzn pa)), .va (dCi (fzn pa)), .va (.lst (n5.map .str)), .va (.str r.name), .va (dRl r), .va (.lst (nms.map .str)), .va (.str pers), s10, .ow (gone.map .str), x12, .va (dL pa.rights), .va (dL pa.sole), .va (.lst (pa.founders.map dFl)), .va (.lst (pa.rules.map dRl)), x17, x18, x19, x20] ∧ (s10 = .ow (held.map .str) ∨ s10 = .va (.lst (held.map .str)))) ⟨_, _, _, _, _, _, rfl, h10⟩ ?_ ?_
  · clear h10
    rintro k ρ' lt ⟨s10, x12, x17, x18, x19, x20, rfl, h10⟩
    rcases h10 with rfl | rfl
    · walk_at "ev"
      refine ⟨fzn pa, .int 0, dRl r, .lst [], rfl, hf1, .inl ⟨r, rfl, rfl, bz_ru hf1 lfr hru, ?_⟩⟩
      walk_at "ev"
      refine ⟨pa.rules.map (fun r => (r.name, dRl r)), (r.name, dRl r), 1, by rw [List.map_map]; rfl, by rw [List.length_map]; omega, .inr rfl, fun x hx => by obtain ⟨y, _, rfl⟩ := List.mem_map.mp hx; exact ⟨_, _, _, rfl, rfl⟩, by rw [List.map_map]; exact ok.rnm, ?_⟩
      walk_at "ev"
      rw [in_ru]
      refine ⟨by decide, ⟨pa.rights, pa.sole, pa.founders, putBy (·.name) pa.rules r⟩, rfl, b1, ?_⟩
      rw [edit_rule ok r]
      walk_at "ev"
      simp (dsimp := false) only [gNe_ans fun c e => ok_made b1 e]
      walk_at "ev"
      refine lcK_sel (outP gone) (by rw [List.length_map]; unfold sizeLine; omega) (fun x hx o ho => ?_) ?_
      · obtain ⟨r1, hr1, rfl⟩ := List.mem_map.mp hx
        rw [show outP gone (dRl r1) = !gone.contains r1.name from rfl] at ho
        walk_at "ev"
        simp (dsimp := false) only [gRl]
        walk_at "ev"
        refine iK_b (fun e => ?_) fun e => ?_
        · rw [e] at ho
          first | exact ho | (walk_at "ev"; exact ho)
        · rw [e] at ho
          walk_at "ev"
          first | exact ho | exact ⟨rfl, ho⟩
      rw [outL]
      walk_at "ev"
      refine ⟨fzn pa, .int 1, dL gone, .lst [], rfl, hf1, .inr (.inl ⟨gone, rfl, rfl, hnames, ?_⟩)⟩
      walk_at "ev"
      refine ⟨by decide, ⟨pa.rights, pa.sole, pa.founders, pa.rules.filter fun r => !gone.contains r.name⟩, rfl, b2, ?_⟩
      rw [edit_out ok fun n => !gone.contains n]
      walk_at "ev"
      simp (dsimp := false) only [gNe_ans fun c e => ok_made b2 e]
      walk_at "ev"
      refine ⟨by decide, pa.founders.map (fun f => (f.1, dFl f)), ((pers, held).1, dFl (pers, held)), 0, by rw [List.map_map]; rfl, by rw [List.length_map]; omega, .inl rfl, fun x hx => by obtain ⟨y, _, rfl⟩ := List.mem_map.mp hx; exact ⟨_, _, _, rfl, rfl⟩, by rw [List.map_map]; exact ok.fn, ?_⟩
      rw [in_fd]
      walk_at "ev"
      refine ⟨fzn pa, .int 2, .str pers, dL held, rfl, hf1, .inr (.inr ⟨pers, held, rfl, rfl, rfl, bz_fd hf1 lff ⟨by show pers.length ≤ 1000; omega, by show held.length ≤ 40; omega⟩, ?_⟩)⟩
      walk_at "ev"
      refine ⟨by decide, ⟨pa.rights, pa.sole, putBy (·.1) pa.founders (pers, held), pa.rules⟩, rfl, b3, ?_⟩
      rw [edit_fd ok (pers, held)]
      walk_at "ev"
      simp (dsimp := false) only [gNe_ans fun c e => ok_made b3 e]
      walk_at "ev"
      refine ⟨fzn pa, rfl, co, ?_⟩
      walk_at "ev"
      exact ⟨_, _, _, _, _, _, rfl, .inr rfl⟩
    · walk_at "ev"
      refine ⟨fzn pa, .int 0, dRl r, .lst [], rfl, hf1, .inl ⟨r, rfl, rfl, bz_ru hf1 lfr hru, ?_⟩⟩
      walk_at "ev"
      refine ⟨pa.rules.map (fun r => (r.name, dRl r)), (r.name, dRl r), 1, by rw [List.map_map]; rfl, by rw [List.length_map]; omega, .inr rfl, fun x hx => by obtain ⟨y, _, rfl⟩ := List.mem_map.mp hx; exact ⟨_, _, _, rfl, rfl⟩, by rw [List.map_map]; exact ok.rnm, ?_⟩
      walk_at "ev"
      rw [in_ru]
      refine ⟨by decide, ⟨pa.rights, pa.sole, pa.founders, putBy (·.name) pa.rules r⟩, rfl, b1, ?_⟩
      rw [edit_rule ok r]
      walk_at "ev"
      simp (dsimp := false) only [gNe_ans fun c e => ok_made b1 e]
      walk_at "ev"
      refine lcK_sel (outP gone) (by rw [List.length_map]; unfold sizeLine; omega) (fun x hx o ho => ?_) ?_
      · obtain ⟨r1, hr1, rfl⟩ := List.mem_map.mp hx
        rw [show outP gone (dRl r1) = !gone.contains r1.name from rfl] at ho
        walk_at "ev"
        simp (dsimp := false) only [gRl]
        walk_at "ev"
        refine iK_b (fun e => ?_) fun e => ?_
        · rw [e] at ho
          first | exact ho | (walk_at "ev"; exact ho)
        · rw [e] at ho
          walk_at "ev"
          first | exact ho | exact ⟨rfl, ho⟩
      rw [outL]
      walk_at "ev"
      refine ⟨fzn pa, .int 1, dL gone, .lst [], rfl, hf1, .inr (.inl ⟨gone, rfl, rfl, hnames, ?_⟩)⟩
      walk_at "ev"
      refine ⟨by decide, ⟨pa.rights, pa.sole, pa.founders, pa.rules.filter fun r => !gone.contains r.name⟩, rfl, b2, ?_⟩
      rw [edit_out ok fun n => !gone.contains n]
      walk_at "ev"
      simp (dsimp := false) only [gNe_ans fun c e => ok_made b2 e]
      walk_at "ev"
      refine ⟨by decide, pa.founders.map (fun f => (f.1, dFl f)), ((pers, held).1, dFl (pers, held)), 0, by rw [List.map_map]; rfl, by rw [List.length_map]; omega, .inl rfl, fun x hx => by obtain ⟨y, _, rfl⟩ := List.mem_map.mp hx; exact ⟨_, _, _, rfl, rfl⟩, by rw [List.map_map]; exact ok.fn, ?_⟩
      rw [in_fd]
      walk_at "ev"
      refine ⟨fzn pa, .int 2, .str pers, dL held, rfl, hf1, .inr (.inr ⟨pers, held, rfl, rfl, rfl, bz_fd hf1 lff ⟨by show pers.length ≤ 1000; omega, by show held.length ≤ 40; omega⟩, ?_⟩)⟩
      walk_at "ev"
      refine ⟨by decide, ⟨pa.rights, pa.sole, putBy (·.1) pa.founders (pers, held), pa.rules⟩, rfl, b3, ?_⟩
      rw [edit_fd ok (pers, held)]
      walk_at "ev"
      simp (dsimp := false) only [gNe_ans fun c e => ok_made b3 e]
      walk_at "ev"
      refine ⟨fzn pa, rfl, co, ?_⟩
      walk_at "ev"
      exact ⟨_, _, _, _, _, _, rfl, .inr rfl⟩
  · rintro ρ' ⟨s10, x12, x17, x18, x19, x20, rfl, h10⟩
    walk_at "ev"
    refine ⟨by decide, fzn pa, .int 0, dRl ⟨"lend", r.name, [[]], none⟩, .lst [], rfl, hf1, .inl ⟨⟨"lend", r.name, [[]], none⟩, rfl, rfl, bz_ru hf1 lfr ⟨hru.1, by show 1 ≤ 6; decide, ⟨fun hp => absurd (show hasParts "lend" 2 = true from hp) (by decide +kernel), fun l hl => by rw [List.mem_singleton.mp hl]; show 0 ≤ 4000; decide⟩⟩, ?_⟩⟩
    rw [no_lend]
    unfold dAns
    walk_at "ev"
    exact q
end K8

-- part DZ
set_option Elab.async false
set_option linter.all false
set_option maxRecDepth 100000
set_option maxHeartbeats 2000000
namespace K8
open PySem PySem.Spec PyProof.Rows L2 GxR GS GA GD DL
section
variable {w : World} {K : PySem.W.Frag} {mg : Str → Option Value} {base : Heap}
theorem sclaw : FnScope Nlaw ["script"] (defScope slaw) := ⟨rfl, rfl, rfl, by decide +kernel, rfl, by decide +kernel, by decide +kernel⟩
theorem Dlaw (T : Tx w K mg base) {fd : FuncData} (F : FunD K "law" "law" (defArgs slaw) (defBody slaw) (defScope slaw) [] [] (He.fAd K ("law", none)) fd) : FnOk R.prog w K mg base (L2.CX R.prog w) 10 (He.ga K "law") fd ["script"] (spD K (Tz K) 1 ph_law) := by
  obtain ⟨fd__law_numbers, G__law_numbers, b__law_numbers, k__law_numbers⟩ := D_law_numbers T
  obtain ⟨fd__law_parts, G__law_parts, b__law_parts, k__law_parts⟩ := D_law_parts T
  obtain ⟨fd__law_frozen, G__law_frozen, b__law_frozen, k__law_frozen⟩ := D_law_frozen T
  obtain ⟨fd__law_made, G__law_made, b__law_made, k__law_made⟩ := D_law_made T
  obtain ⟨fd__law_names, G__law_names, b__law_names, k__law_names⟩ := D_law_names T
  obtain ⟨fd__law_rule, G__law_rule, b__law_rule, k__law_rule⟩ := D_law_rule T
  obtain ⟨fd__law_some, G__law_some, b__law_some, k__law_some⟩ := D_law_some T
  obtain ⟨fd__law_answer, G__law_answer, b__law_answer, k__law_answer⟩ := D_law_answer T
  obtain ⟨fd__law_due, G__law_due, b__law_due, k__law_due⟩ := D_law_due T
  obtain ⟨fd__law_in, G__law_in, b__law_in, k__law_in⟩ := D_law_in T
  obtain ⟨fd__law_same, G__law_same, b__law_same, k__law_same⟩ := D_law_same T
  have nd := sclaw.nd
  refine fn_data (k := 9) F (codeOf_at (p := ("law", none)) F) sclaw rfl (fun A outer s H E hr => ⟨rlaw, ?_, Mlaw⟩)
  exact (ds_cons (ds_set (i := 1) nd rfl (by first | exact Or.inl rfl | exact Or.inr rfl) (de_call G__law_numbers (hr.mono (by decide)) rfl T.glo__law_numbers k__law_numbers b__law_numbers (Ps.of (takes_of rfl rfl rfl rfl)) (da_cons (vV 0) (da_cons de_int da_nil))))
      (ds_cons (ds_set (i := 2) nd rfl (by first | exact Or.inl rfl | exact Or.inr rfl) (de_call G__law_parts (hr.mono (by decide)) rfl T.glo__law_parts k__law_parts b__law_parts (Ps.of (takes_of rfl rfl rfl rfl)) (da_cons (vV 1) da_nil)))
      (ds_cons (ds_set (i := 3) nd rfl (by first | exact Or.inl rfl | exact Or.inr rfl) (de_call G__law_frozen (hr.mono (by decide)) rfl T.glo__law_frozen k__law_frozen b__law_frozen (Ps.of (takes_of rfl rfl rfl rfl)) (da_cons (vV 2) da_nil)))
      (ds_cons (ds_set (i := 4) nd rfl (by first | exact Or.inl rfl | exact Or.inr rfl) (de_call G__law_made (hr.mono (by decide)) rfl T.glo__law_made k__law_made b__law_made (Ps.of (takes_of rfl rfl rfl rfl)) (da_cons (vV 2) da_nil)))
      (ds_cons (ds_asg (vV 2) (dg_tup rfl (dgs_cons (dg_name (i := 13) nd rfl (by first | exact Or.inl rfl | exact Or.inr rfl)) (dgs_cons (dg_name (i := 14) nd rfl (by first | exact Or.inl rfl | exact Or.inr rfl)) (dgs_cons (dg_name (i := 15) nd rfl (by first | exact Or.inl rfl | exact Or.inr rfl)) (dgs_cons (dg_name (i := 16) nd rfl (by first | exact Or.inl rfl | exact Or.inr rfl)) dgs_nil))))))
      (ds_cons (ds_set (i := 5) nd rfl (by first | exact Or.inl rfl | exact Or.inr rfl) (de_call G__law_names (hr.mono (by decide)) rfl T.glo__law_names k__law_names b__law_names (Ps.of (takes_of rfl rfl rfl rfl)) (da_cons (vV 1) (da_cons de_int (da_cons (de_bin dop_add (de_callB dcl_len (by rfl) T.free_len PySem.boot_len (da_consW (vB 16) dw_nil)) de_int) da_nil)))))
      (ds_cons (ds_set (i := 6) nd rfl (by first | exact Or.inl rfl | exact Or.inr rfl) (de_ix (vB 5) (de_bin dop_mod (de_callTy dcl_int (by rfl) T.free_int (by decide +kernel) (da_consW (de_ix (vB 1) de_int (fun _ _ => rfl)) dw_nil)) (de_bin dop_add (de_callB dcl_len (by rfl) T.free_len PySem.boot_len (da_consW (vB 16) dw_nil)) de_int)) (fun _ _ => rfl)))
      (ds_cons (ds_set (i := 7) nd rfl (by first | exact Or.inl rfl | exact Or.inr rfl) (de_call G__law_rule (hr.mono (by decide)) rfl T.glo__law_rule k__law_rule b__law_rule (Ps.of (takes_of rfl rfl rfl rfl)) (da_cons (vV 1) (da_cons de_int (da_cons (vV 6) (da_cons (vV 13) (da_cons (de_ix (de_lst (da_cons (vV 14) (da_cons (de_lst da_nil) da_nil))) (de_callTy dcl_int (by rfl) T.free_int (by decide +kernel) (da_consW (de_cmp (dop_eq hr.units) (de_bin dop_mod (de_callTy dcl_int (by rfl) T.free_int (by decide +kernel) (da_consW (de_ix (vB 1) de_int (fun _ _ => rfl)) dw_nil)) de_int) de_int (nomark _)) dw_nil)) (fun _ _ => rfl)) da_nil)))))))
      (ds_cons (ds_set (i := 8) nd rfl (by first | exact Or.inl rfl | exact Or.inr rfl) (de_call G__law_names (hr.mono (by decide)) rfl T.glo__law_names k__law_names b__law_names (Ps.of (takes_of rfl rfl rfl rfl)) (da_cons (vV 1) (da_cons de_int (da_cons (de_bin dop_add (de_callB dcl_len (by rfl) T.free_len PySem.boot_len (da_consW (vB 15) dw_nil)) de_int) da_nil)))))
      (ds_cons (ds_set (i := 9) nd rfl (by first | exact Or.inl rfl | exact Or.inr rfl) (de_ix (vB 8) (de_bin dop_mod (de_callTy dcl_int (by rfl) T.free_int (by decide +kernel) (da_consW (de_ix (vB 1) de_int (fun _ _ => rfl)) dw_nil)) (de_bin dop_add (de_callB dcl_len (by rfl) T.free_len PySem.boot_len (da_consW (vB 15) dw_nil)) de_int)) (fun _ _ => rfl)))
      (ds_cons (ds_set (i := 10) nd rfl (by first | exact Or.inl rfl | exact Or.inr rfl) (de_call G__law_some (hr.mono (by decide)) rfl T.glo__law_some k__law_some b__law_some (Ps.of (takes_of rfl rfl rfl rfl)) (da_cons (vV 13) (da_cons (de_ix (vB 1) de_int (fun _ _ => rfl)) (da_cons (de_lst da_nil) da_nil)))))
      (ds_cons (ds_if (dt_cmp dop_gt (de_bin dop_mod (de_callTy dcl_int (by rfl) T.free_int (by decide +kernel) (da_consW (de_ix (vB 1) de_int (fun _ _ => rfl)) dw_nil)) de_int) de_int (nomark _)) (ds_one (ds_setLc (j := 10) (own := [("right", 19)]) (tt := (dTst (dBin gNin (dVarB 19) (dVarB 14)))) (te := (dVar 19)) rfl nd rfl rfl (sw_true rfl rfl rfl (by decide +kernel)) (di_val (vB 10)) (blkOk_by (own := [("right", 19)]) (N := Nlaw) (sc := defScope slaw) (by decide +kernel)) rfl (fun _ _ _ _ _ => pg_name (i := 19) nd rfl (by first | exact Or.inl rfl | exact Or.inr rfl)) (fun _ _ _ _ _ => dts_one (dt_cmp dop_nin (vB 19) (vB 14) (by rfl))) (fun _ _ _ _ _ => (vV 19)))) ds_nil)
      (ds_cons (ds_if (dt_cmp (dop_eq hr.units) (de_bin dop_mod (de_callTy dcl_int (by rfl) T.free_int (by decide +kernel) (da_consW (de_ix (vB 1) de_int (fun _ _ => rfl)) dw_nil)) de_int) de_int (nomark _)) (ds_one (ds_set (i := 10) nd rfl (by first | exact Or.inl rfl | exact Or.inr rfl) (de_bin dop_add (vB 10) (de_lst (da_cons (de_ix (vB 13) de_int (fun _ _ => rfl)) da_nil))))) ds_nil)
      (ds_cons (ds_set (i := 11) nd rfl (by first | exact Or.inl rfl | exact Or.inr rfl) (de_lc (own := [("k", 12)]) (tt := (dTst (dBin gGt (dBlt gLen (dConsW (dVarB 16) dNil)) (dC (.int 0))))) (te := (dBin gIx (dBin gIx (dVarB 16) (dBin gMod (dBlt gInt (dConsW (dBin gIx (dVarB 1) (dBin gAdd (dC (.int 122)) (dVarB 12))) dNil)) (dBlt gLen (dConsW (dVarB 16) dNil)))) (dC (.int 1)))) rfl nd (di_rng rfl T.free_range (da_consW (de_bin dop_mod (de_callTy dcl_int (by rfl) T.free_int (by decide +kernel) (da_consW (de_ix (vB 1) de_int (fun _ _ => rfl)) dw_nil)) de_int) dw_nil)) (blkOk_by (own := [("k", 12)]) (N := Nlaw) (sc := defScope slaw) (by decide +kernel)) rfl (fun _ _ _ _ _ => pg_name (i := 12) nd rfl (by first | exact Or.inl rfl | exact Or.inr rfl)) (fun _ _ _ _ _ => dts_one (dt_cmp dop_gt (de_callB dcl_len (by rfl) T.free_len PySem.boot_len (da_consW (vB 16) dw_nil)) de_int (nomark _))) (fun _ _ _ _ _ => (de_ix (de_ix (vB 16) (de_bin dop_mod (de_callTy dcl_int (by rfl) T.free_int (by decide +kernel) (da_consW (de_ix (vB 1) (de_bin dop_add de_int (vB 12)) (fun _ _ => rfl)) dw_nil)) (de_callB dcl_len (by rfl) T.free_len PySem.boot_len (da_consW (vB 16) dw_nil))) (fun _ _ => rfl)) de_int (fun _ _ => rfl)))))
      (ds_cons (ds_for (passes_of rfl) rfl (di_rng rfl T.free_range (da_consW de_int dw_nil)) (dg_name (i := 12) nd rfl (by first | exact Or.inl rfl | exact Or.inr rfl)) (ds_cons (ds_if (dt_cmp (dop_ne hr.units) (de_call G__law_answer (hr.mono (by decide)) rfl T.glo__law_answer k__law_answer b__law_answer (Ps.of (takes_of rfl rfl rfl rfl)) (da_cons (vV 4) (da_cons de_int (da_cons (vV 7) (da_cons (de_lst da_nil) da_nil))))) (de_call G__law_due (hr.mono (by decide)) rfl T.glo__law_due k__law_due b__law_due (Ps.of (takes_of rfl rfl rfl rfl)) (da_cons (de_tup (da_cons (vV 13) (da_cons (vV 14) (da_cons (vV 15) (da_cons (de_call G__law_in (hr.mono (by decide)) rfl T.glo__law_in k__law_in b__law_in (Ps.of (takes_of rfl rfl rfl rfl)) (da_cons (vV 16) (da_cons (vV 6) (da_cons (vV 7) (da_cons de_int da_nil))))) da_nil))))) da_nil)) (nomark _)) (ds_one (ds_ret de_bl)) ds_nil)
      (ds_cons (ds_setLc (j := 17) (own := [("one", 20)]) (tt := (dTst (dBin gNin (dBin gIx (dVarB 20) (dC (.int 1))) (dVarB 11)))) (te := (dVar 20)) rfl nd rfl rfl (sw_true rfl rfl rfl (by decide +kernel)) (di_val (vB 16)) (blkOk_by (own := [("one", 20)]) (N := Nlaw) (sc := defScope slaw) (by decide +kernel)) rfl (fun _ _ _ _ _ => pg_name (i := 20) nd rfl (by first | exact Or.inl rfl | exact Or.inr rfl)) (fun _ _ _ _ _ => dts_one (dt_cmp dop_nin (de_ix (vB 20) de_int (fun _ _ => rfl)) (vB 11) (by rfl))) (fun _ _ _ _ _ => (vV 20)))
      (ds_cons (ds_if (dt_cmp (dop_ne hr.units) (de_call G__law_answer (hr.mono (by decide)) rfl T.glo__law_answer k__law_answer b__law_answer (Ps.of (takes_of rfl rfl rfl rfl)) (da_cons (vV 4) (da_cons de_int (da_cons (de_callTy dcl_list (by rfl) T.free_list (by decide +kernel) (da_consW (vB 11) dw_nil)) (da_cons (de_lst da_nil) da_nil))))) (de_call G__law_due (hr.mono (by decide)) rfl T.glo__law_due k__law_due b__law_due (Ps.of (takes_of rfl rfl rfl rfl)) (da_cons (de_tup (da_cons (vV 13) (da_cons (vV 14) (da_cons (vV 15) (da_cons (vV 17) da_nil))))) da_nil)) (nomark _)) (ds_one (ds_ret de_bl)) ds_nil)
      (ds_cons (ds_set (i := 18) nd rfl (by first | exact Or.inl rfl | exact Or.inr rfl) (de_call G__law_in (hr.mono (by decide)) rfl T.glo__law_in k__law_in b__law_in (Ps.of (takes_of rfl rfl rfl rfl)) (da_cons (vV 15) (da_cons (vV 9) (da_cons (de_tup (da_cons (vV 9) (da_cons (vV 10) da_nil))) (da_cons de_int da_nil))))))
      (ds_cons (ds_if (dt_cmp (dop_ne hr.units) (de_call G__law_answer (hr.mono (by decide)) rfl T.glo__law_answer k__law_answer b__law_answer (Ps.of (takes_of rfl rfl rfl rfl)) (da_cons (vV 4) (da_cons de_int (da_cons (vV 9) (da_cons (de_callTy dcl_list (by rfl) T.free_list (by decide +kernel) (da_consW (vB 10) dw_nil)) da_nil))))) (de_call G__law_due (hr.mono (by decide)) rfl T.glo__law_due k__law_due b__law_due (Ps.of (takes_of rfl rfl rfl rfl)) (da_cons (de_tup (da_cons (vV 13) (da_cons (vV 14) (da_cons (vV 18) (da_cons (vV 16) da_nil))))) da_nil)) (nomark _)) (ds_one (ds_ret de_bl)) ds_nil)
      (ds_one (ds_if (dt_not (dt_val (de_call G__law_same (hr.mono (by decide)) rfl T.glo__law_same k__law_same b__law_same (Ps.of (takes_of rfl rfl rfl rfl)) (da_cons (vV 4) (da_cons (vV 3) da_nil))))) (ds_one (ds_ret de_bl)) ds_nil))))))))
      (ds_one (ds_ret (de_cmp (dop_eq hr.units) (de_call G__law_answer (hr.mono (by decide)) rfl T.glo__law_answer k__law_answer b__law_answer (Ps.of (takes_of rfl rfl rfl rfl)) (da_cons (vV 4) (da_cons de_int (da_cons (de_tup (da_cons de_str (da_cons (vV 6) (da_cons (de_lst da_nil) da_nil)))) (da_cons (de_lst da_nil) da_nil))))) de_str (nomark _)))))))))))))))))))
end
end K8

-- part EZ
set_option Elab.async false
set_option linter.all false
set_option maxRecDepth 100000
set_option maxHeartbeats 2000000
namespace K8
open PySem PySem.Spec PyProof.Rows L2 GxR GS GA GD DL
theorem bits_log {z : Int} (h : Builtin.Int.intBits z ≤ 1048576) : z.natAbs.log2 < 4000000 := by
  unfold Builtin.Int.intBits at h
  split at h
  · rename_i e
    have e : z = 0 := by simpa using e
    rw [e]
    decide
  · omega
theorem facts {w : World} {K : PySem.W.Frag} {h : Heap} {mg : Str → Option Value} {f : Addr} (X : K.In h) (G : h.Ns mainGlobals mg) (hfa : mg ("law" : Str) = some (.ref f)) (c : Hd.SaysS R.prog fa fn tbs tf (fun K => exq K && exk K) prs sus w h K) :
    LamX.LawAtS PySem.Challenge.rw_whoevermay_k03_charters_edited w K CX0 10 63 "script" mg f h := by
  have e := hfa.symm.trans (He.glo_ok X G (c.p.x.t.d.fact 23 (f := .glo "law") rfl))
  cases e
  have cs : ∀ q : Addr × Addr, q ∈ tf.map (He.cT K) → ∃ p ∈ tf, He.cT K p = q := fun q hq => List.mem_map.mp hq
  obtain ⟨fd0, F0⟩ := c.p.x.t.d.def_ 23 (d := dlaw) rfl
  have mk : ∀ base : Heap, K.In base → base.Ns mainGlobals mg → (∀ p ∈ tf.map (He.cT K), LamX.TabB base mg p.1 p.2) → Tx w K mg base := fun base _ _ tb =>
    ⟨⟨h, X, G, c.weak⟩, fun p hp => ⟨(tb _ (List.mem_map_of_mem hp)).code, (tb _ (List.mem_map_of_mem hp)).bm, (tb _ (List.mem_map_of_mem hp)).gP⟩, ⟨h, c⟩⟩
  refine ⟨fd0, tf.map (He.cT K), fun vs H Q _ => spD K (Tz K) 1 ph_law vs H Q fun _ _ _ => False, fun q hq => ?_, fun q hq => ?_, fun q hq => ?_, fun s u => (FunD.bindsA (ps := ["script"]) F0 fun _ _ _ _ _ _ us hl => match us, hl with | [_], _ => rfl) s [u] rfl, fun H a ns hl hb ht hS => ?_, fun base hB hN tb => ?_⟩
  · obtain ⟨p, hp, rfl⟩ := cs q hq
    exact c.p.x.empty p hp
  · obtain ⟨p, hp, rfl⟩ := cs q hq
    exact c.p.x.out p hp
  · obtain ⟨p, hp, rfl⟩ := cs q hq
    exact PySem.W.codeHd_of_K X (c.p.x.hd p hp)
  · have go : ∀ d : D, (d = .scr ns ∨ d = .lst (ns.map .int)) → Rp K H (fun _ => False) d (.ref a) → spD K (Tz K) 1 ph_law [.ref a] H (fun v _ => v = .bl true) fun _ _ _ => False := fun d hd r =>
      ⟨rfl, fun _ => False, [d], fun d => d = .bl true, fun _ => False, fun P ⟨p, hp, e⟩ => by rw [e]; exact ⟨#[], ht _ (List.mem_map_of_mem hp), trivial⟩, fun _ z => z.elim, RpL.cons r RpL.nil, ⟨d, ns, rfl, hd, fun z hz => bits_log (hb z hz), hl, rfl⟩, fun d v H' A' e _ _ r => by subst e; unfold Rp at r; exact r, fun _ _ _ _ _ z => z.elim⟩
    rcases hS with (e | ⟨o, e⟩) | hk
    · exact go _ (.inr rfl) (by unfold Rp; exact ⟨a, _, rfl, e, fun z => z, RpL.ints⟩)
    · exact go _ (.inl rfl) (by unfold Rp; exact ⟨a, rfl, .inl ⟨o, e⟩⟩)
    · exact go _ (.inl rfl) (by unfold Rp; exact ⟨a, rfl, .inr (.inr hk)⟩)
  · exact quiet (Dlaw (mk base hB hN tb) F0)
end K8
open PySem PySem.W PySem.Calls PyProof.Rows
theorem PySem.Challenge.cw_whoevermay_k03_charters_edited_holds : PySem.Challenge.rw_whoevermay_k03_charters_edited.Holds := by
  w_on; o_law
  refine HandSHeadRun.head_any (r := OpenLaw.row PySem.Challenge.rw_whoevermay_k03_charters_edited) (q := view (OpenLaw.row PySem.Challenge.rw_whoevermay_k03_charters_edited).prog [34]) (H := K8.hk) (ob := K8.ob) (M := K8.steps) (loose := K8.loose) (d := HandSHeadRun.topDef (OpenLaw.row PySem.Challenge.rw_whoevermay_k03_charters_edited).prog 34) (kwd := []) K8.ob_eq
    (by kernel_rfl) (fun s => by kernel_rfl) K8.run (by kernel_rfl) (by kernel_rfl) (by kernel_rfl) (by rfl) (by first | assumption | decide +kernel) (by decide +kernel) ⟨rfl, rfl, rfl, rfl, rfl, by decide +kernel⟩ ?hw ?hc
  case hw => w_witness2
  case hc =>
    refine LamX.walk_ofTsE (l := PySem.Challenge.rw_whoevermay_k03_charters_edited) (n := 63) (k := 10) (x := "script") (CX := fun _ => L2.CX0) rfl (by decide) (by kernel_rfl) ⟨rfl, by decide, by decide⟩ ?F (fun _ _ _ _ _ z => z)
    intro w mg fa h Y G hmg0
    obtain ⟨K, KX, c⟩ := Y
    have hmg : mg ("law" : PySem.Str) = some (.ref fa) := by
      have e : (HandSHeadRun.topDef (OpenLaw.row PySem.Challenge.rw_whoevermay_k03_charters_edited).prog 34).name = ("law" : PySem.Str) := by kernel_rfl
      rw [← e]
      exact hmg0
    exact ⟨K, KX, K8.facts KX G hmg c⟩

